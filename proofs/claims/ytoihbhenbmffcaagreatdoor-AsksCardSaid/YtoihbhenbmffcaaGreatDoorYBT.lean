import Derived.Test.YtoihbhenbmffcaaGreatDoorYBO
import Derived.Test.YtoihbhenbmffcaaGreatDoorYBS
set_option linter.all false
set_option maxHeartbeats 0
namespace Go.Proofs.YtoihbhenbmffcaaGreatDoor
open Go.RowKit Go.Proofs.Tryz
def Vm(c:Cf):List bD:=((c.head.at_:Int),c.head.name,c.head.args.length)::(c.body.filter λx=>x.kind==97||x.kind==33).map λx=>((x.A.at_:Int),x.A.name,x.A.args.length)
theorem Rg(r:A7):Ee r=Vm r.erase:=by
 unfold Ee Vm A7.erase;simp only;rw[List.filter_map,dt];rfl
theorem St{cs ds:List A7}(h:cs.map A7.erase=ds.map A7.erase):EV cs=EV ds:=by
 have e:∀l:List A7,EV l=(l.map A7.erase).flatMap λc=>(Vm c).map λa=>a.2:=by
  intro l;unfold EV;rw[List.flatMap_map]
  congr 1
  funext r
  rw[Rg]
 rw[e,e,h]
theorem VT{b:List JF}{bl:List AY}(c:b.map Prod.fst=(bl.map Prod.fst).map Kj)(f:∀p∈b,Gf p.1)(d:∀p∈b,lenOf p.2=p.1.ts.length):F2 QA b bl:=by
 rw[dt]at c;refine(F2.of_map c).mono (λp a q _ e=>?_);have e:p.1=Kj q.1:=e;refine⟨e,?_,λg=>?_⟩
 .rw[d p a,e];show(q.1.A.args.map ct).length=_;rw[bX]
 .have a:=(f p a).plain (by rw[e,GO];exact g);rw[e]at a;have a:q.1.A.args.map ct=[]:=a;exact List.map_eq_nil_iff.1 a
theorem aB{e:List C0}{c cs:List A7}(hF:F2 Pj e c)(f:cs.map A7.erase=c.map A7.erase){d:List JF}{bl:List AY}(h:F2 QA d bl):
  aN e (AJ d)=(bl.find? (No cs)).map λq=>(q.1.A.at_:Int):=by
 unfold aN AJ;rw[List.find?_map,List.find?_filter,Option.map_map];refine F2.find (λp q b=>⟨?_,?_⟩) h
 .simp only[Function.comp];unfold No;rw[b.atom];cases hi:KT q with
  |false=>rfl
  |true=>
   simp only[true_and,Bool.decide_eq_true,dF];unfold Pz;simp only;(have g:p.1.an=q.1.A.name:=by rw[b.eq];rfl);rw[b.len,g,Ts hF,Ma,St f];unfold Nk;cases hf:(EV c).find? (aP q.1.A.name)with
   |none=>simp
   |some a=>
    simp;rw[Bool.or_comm]
    congr 1
    rw[dk];simp;omega
 .simp only[Function.comp];rw[b.eq];rfl
theorem aG{a:List JF}{bl:List AY}(h:F2 QA a bl):(a.find? λp=>(AI p.1).any (CI a)).map (λp=>p.1.place)=if 0<=C3 E3 bl then some (C3 E3 bl)else none:=by
 have b:Pj ⟨0,ByteArray.empty,[],.slice none 0 0,.slice none 0 0,a⟩ ⟨E3,.slice none 0 0,.slice none 0 0,bl,0⟩:=⟨rfl,rfl,rfl,h,rfl,rfl⟩;have:=b.zZ;unfold GD at this;simp only[List.any_nil,bN,if_false]at this;exact this
theorem ae{c:List C0}{d cs:List A7}(hF:F2 Pj c d)(e:cs.map A7.erase=d.map A7.erase){b:List JF}{bl:List AY}(h:F2 QA b bl):qR c b=Ju cs bl:=by
 unfold qR Ju;rw[aB hF e h,aG h];cases hf:bl.find? (No cs)with
 |some p=>rfl
 |none=>
  simp only[Option.map_none];by_cases a:0<=C3 E3 bl
  .rw[if_pos a,if_pos a]
  .rw[if_neg a,if_neg a]
theorem WA{q:cR}{e:List C0}{k cs:List A7}(hF:F2 Pj e k)(u:cs.map A7.erase=k.map A7.erase){r:Int×Int}{d at_:Int}(b:ah q e r)(a:Dw q cs d at_):r=(d,at_):=by
 unfold ah at b;unfold Dw at a;by_cases i:300<q.size
 .rw[if_pos i]at b a;rw[b,a.1,a.2]
 .rw[if_neg i]at b a;have c:=Td q;cases hal:EH (De q)with
  |error p=>
   rw[hal]at b c;rw[if_pos c.1]at a;rw[b,a.1,a.2,c.2]
  |ok ls=>
   rw[hal]at b c;obtain⟨v,w,f⟩:=c;obtain⟨s,_⟩:=Ou (by omega) hal;rw[if_neg (by rw[v];rintro (h|h);cases h;exact w h)]at a;(have y:ls.length=(Be q 0).1.length:=by rw[f,bX]);simp only at b;by_cases g:3<ls.length
   .rw[if_pos g]at b;rw[if_pos (by omega)]at a;rw[b,a.1,a.2]
   .rw[if_neg g]at b;rw[if_neg (by omega)]at a;obtain⟨z,j,n,t⟩:=b;obtain⟨x,m,l⟩:=a;rw[t,l];refine ae hF u (VT (by rw[j,m,f]) (λp o=>s p.1 (by rw[<-j];exact cm o)) n)
theorem Q2{s:cR}(g:s.size<=300){b:List A7}(d:b.map A7.erase=(AD s (Af s 0)).1){x:cR}(a:x∈consts b):x.size<=300:=by
 unfold consts at a;obtain⟨c,f,a⟩:=cO.1 a;obtain⟨t,e,rfl⟩:=bV.1 a;have h:=(MF s (Af s 0) c.erase (by rw[<-d];exact cm f)).1.2 t (cn.1 e).1;omega
theorem aA{s q:cR}(D:s.size<=300){o:List C0}{h:List A7}(H:h.map A7.erase=(AD s (Af s 0)).1)(n:L1 o h){c:List JF}(F:EH (De q)=.ok (c.map Prod.fst))(z:∀p∈c,Gf p.1)(I:c.length<=3)(B:∀p∈c,lenOf p.2=p.1.ts.length)(y:qR o c=(0,0)):
  c.map Prod.fst=(Be q 0).1.map Kj/\∀u,(∀f∈u,Eg h f)->VI (Be q 0).1 u/\Zs (A1 (Be q 0).1) (As (IX (Be q 0).1 u) (Be q 0).1 u (A1 (Be q 0).1) BX):=by
 have w:=Td q;rw[F]at w;obtain⟨E,J,j⟩:=w;refine⟨j,λu k=>?_⟩;obtain⟨bl,g⟩:∃bl:List AY,bl.map Prod.fst=(Be q 0).1:=⟨(Be q 0).1.map λx=>(x,.slice none 0 0),by rw[dt];exact List.map_id' _⟩;have A:=VT (bl:=bl) (by rw[g];exact j) z B;have r:Ju h bl=(0,0):=by rw[<-ae n.gh rfl A];exact y
 have G:bl.length<=3:=by
  have b:=congrArg List.length j;have i:=congrArg List.length g;simp at b i;omega
 have a:=Pb n.pass k r (by rw[g];exact Kp E);have l:=NR r G;rw[g]at a l;refine⟨a,⟨?_,λx t v d=>?_,FQ _ _ rfl,λv d=>(a.vars v d).1,l⟩⟩
 .have b:=SS n.pass k a l _ (λe m=>m);rw[SX a,bX]at b;exact b
 .refine⟨a.gn t v d,?_⟩;obtain⟨e,m,C⟩:=Oa a t;have b:Lv e v=Lv x v:=by
   have i:=List.map_inj_left.1 C v d;exact i
  rw[<-b];have:=Q2 D H (Kn k a m v d);omega
def Nb(s q:cR)(r:Int×Int):Prop:=
 ∃r1,Fo s (bg s) r1/\((r1.1≠0/\r=r1)\/(r1.1=0/\∃(pcs:List C0) (rcs:List A7),F2 Pj pcs rcs/\rcs.map A7.erase=(AD s (Af s 0)).1/\ah q pcs r))
def Z4(s q t:cR)(er:Int):Prop:=
 (er≠0->t=ByteArray.empty)/\
 (er=0->∃(rcs:List A7) (L:cR->Nat) (n:Nat) (u:List Ah),rcs.map A7.erase=(AD s (Af s 0)).1/\DE rcs L/\I7 rcs L n u/\(∀c∈rcs,L c.head.name<n)/\
  t=ET (A1 (Be q 0).1) ByteArray.empty ((As (IX (Be q 0).1 u) (Be q 0).1 u (A1 (Be q 0).1) BX).map (EO (A1 (Be q 0).1))))
theorem ah.zero{q:cR}{b:List C0}{a:Int}(h:ah q b (0,a)):a=0:=by
 unfold ah at h;split at h
 .exact absurd (congrArg Prod.fst h) (by simp)
 .split at h
  .exact absurd (congrArg Prod.fst h) (by simp)
  .split at h
   .exact absurd (congrArg Prod.fst h) (by simp)
   .obtain⟨c,_,_,h⟩:=h;unfold qR at h;split at h
    .exact absurd (congrArg Prod.fst h) (by simp)
    .split at h
     .exact absurd (congrArg Prod.fst h) (by simp)
     .exact congrArg Prod.snd h
theorem Nb.zero{s q:cR}{a:Int}(h:Nb s q (0,a)):a=0:=by
 obtain⟨d,_,h|⟨_,b,c,_,_,h⟩⟩:=h
 .exact absurd (by rw[<-h.2]) h.1
 .exact h.zero
set_option maxRecDepth 100000
theorem YY(s q:cR)(w:World)(AT:s.size<=9223372036854775807)(H:q.size<=9223372036854775807):
  Calls prog 24 #[.string s,.string q] w λe x=>∃(t:cR) (r:Int×Int),e=.returned (.tuple #[.string t,.int .i64 r.1,.int .i64 r.2])/\Nb s q r/\Z4 s q t r.1/\Ac [] w x:=by
 have T:=Ab (XE s (bg s) w AT (λp cs z d A=>VO p z A));go_enter func24,ntmps24;go_wp2_with fail
 refine(Aa T).mono ?_;rintro _ Q ⟨I,n,M,⟨g,v⟩,rfl,AB,S,P⟩;have o:=Ab AB;have E:=Ab S;have W:=Ab P;clear T AB S P;by_cases b:g=0
 .subst b;obtain⟨p,cs,d,z,A,rfl,C⟩:=Aa E rfl;obtain⟨hr,N,y,l⟩:=Xc p z A C (Aa o) rfl;have BT:((0:Int) !=0)=false:=rfl;have F:=Ab (W8 q I M d Q H C (λc hc=>(l.fit hc).pc.lits) (by have:=l.len;omega));have D:Hid (∀r,ah q d r->Nb s q r):=λr h=>⟨(0,v),Aa o,Or.inr ⟨rfl,d,N,l.gh,y,h⟩⟩
  have K:Hid (∀(i:Option Addr) (j f:Nat) (r:Int×Int) (a:World),Ac [] Q a->Zq q d a (.slice i j f) j r->r.1=0->Calls prog 52 #[.slice I d.length M,.slice i j f] a λe x=>∃t,e=.returned (.string t)/\Z4 s q t 0/\Ac [] a x):=by
   intro i j f r a hk hl b;obtain⟨HB,FF,FL,U,Z,rfl,B9,CL,H⟩:=hl b;obtain⟨e1,k⟩:=aA p y l FL U Z CL H;refine(Sy I M d N i f FF _ a (C.kept hk) l ⟨B9,e1,U,Z⟩ k).mono ?_;rintro e x ⟨t,u,L,n,rfl,g1,g2,g3,g4,g5⟩;exact⟨t,rfl,⟨λh=>absurd rfl h,λ_=>⟨N,L,n,u,y,g1,g2,g3,g4⟩⟩,g5⟩
  clear p z A C hr y l E o;go_wp2_with fail
  refine(Aa F).mono ?_;rintro _ a ⟨i,j,f,⟨k,a2⟩,rfl,J,O,B⟩;have R:=Ab (Aa D _ J);have Y:=Ab ((Aa W).trans B);by_cases m:k=0
  .have Ax:=Ab (Aa K i j f _ a B O m);subst m;clear F D K J O B;(go_wp2_with fail);refine(Aa Ax).mono ?_;rintro _ w3 ⟨t,rfl,X,V⟩;have AH:=Ab X;have FO:=Ab ((Aa Y).trans V);clear Ax X V;(go_wp2_with fail);go_ret3;exact⟨t,(0,0),rfl,by have h:=Aa R;rw[h.zero]at h;exact h,Aa AH,Aa FO⟩
  ·(have HA:(k !=0)=true:=by simp[m]);have G:Hid (Z4 s q ByteArray.empty k):=⟨λ_=>rfl,λh=>absurd h m⟩;clear m F D K J O B;(go_wp2_with fail);go_ret3;exact⟨ByteArray.empty,(k,a2),rfl,Aa R,Aa G,Aa Y⟩
 .have BT:(g !=0)=true:=by simp[b]
  have G:Hid (Z4 s q ByteArray.empty g):=⟨λ_=>rfl,λh=>absurd h b⟩;have HI:Hid (Nb s q (g,v)):=⟨(g,v),Aa o,Or.inl ⟨b,rfl⟩⟩;clear b E o;go_wp2_with fail
  go_ret3;exact⟨ByteArray.empty,(g,v),rfl,Aa HI,Aa G,Aa W⟩
theorem ZP{s q t x:cR}{r:Int×Int}{h at_:Int}(E:Nb s q r)(w:Z4 s q t r.1)(F:PN s q h at_)(A:Zn s q x h):r=(h,at_)/\t=x:=by
 have y:r=(h,at_):=by
  obtain⟨J,k,g⟩:=E;obtain⟨z,N,l,j⟩:=F;have e:=Qw l k;subst e;rcases g with⟨g,rfl⟩|⟨g,K,H,v,o,D⟩
  .rcases j with⟨_,f,p⟩|⟨f,_⟩
   .rw[f,p]
   .exact absurd f g
  .rcases j with⟨f,_⟩|⟨_,C,f,_,m⟩
   .exact absurd g f
   .exact WA v (f.trans o.symm) D m
 refine⟨y,?_⟩;rw[y]at w;by_cases i:h=0
 .obtain⟨H,L,n,u,k,g,v,o,rfl⟩:=w.2 i;obtain⟨C,G,M,l,j,f,p,m,rfl⟩:=A.2 i;have a:=Zm (k.trans l.symm);have b:=Zm (l.trans k.symm);have e:G=u:=j.one f (b.gD g) (a.inv b v) (λd B=>by
   obtain⟨c,I,z,_⟩:=b d B
   rw[<-z]
   exact o c I)
  subst e;rw[p]at m⊢;rw[SX m,dt];rfl
 .rw[w.1 i,A.1 i]
theorem T8(S T:cR)(w:World)(s:S.size<=9223372036854775807)(f:T.size<=9223372036854775807):Calls prog 39 #[.agg #[.int .i64 3,.string S,.string T]] w λe u=>e=.returned (.bool true)/\Ac [] w u:=by
 have l:=Ab (AE.new w [.int .i64 3,.string S,.string T] 29);have m:=Ab ((Ac.refl [] w).alloc (.cells [.int .i64 3,.string S,.string T].toArray 29));have o:=Ab (YY S T (w.alloc (.cells [.int .i64 3,.string S,.string T].toArray 29)) s f);go_enter func39,ntmps39;go_wp2_with fail
 refine(Aa o).mono ?_;rintro _ A ⟨t,r,rfl,k,hF,b⟩;have a:=(Aa l).kept b (by simp);have i:=Ab ((Aa m).trans b);have p:=Ab (Y6 S T A s f);have h:=a.cell 1;have j:=a.cell 2;simp at h j;have c:=Ab k;have g:=Ab hF;clear o b k hF l m a;go_wp2_with fail
 refine(Aa p).mono ?_;rintro _ v ⟨C,y,D,rfl,q,n,d⟩;obtain⟨rfl,rfl⟩:=ZP (Aa c) (Aa g) q n;have z:=Ab ((Aa i).trans d);clear p q n d c g h j i;go_wp2_with fail
 refine(ZG y v).mono ?_;rintro _ B ⟨rfl,x⟩;subst x;go_wp2;go_ret;exact⟨by simp,Aa z⟩
set_option maxRecDepth 512
theorem VW{v:Value}{w:World}(h:Calls prog 13 #[v,.int .i64 3,.int .i64 3] w λe a=>e=.returned (.int .i64 (-1))/\Ac [] w a):Calls prog 7 #[v] w λe a=>e=.returned (.bool true)/\Ac [] w a:=by
 go_enter func7,ntmps7;go_wp2_with fail
 refine h.mono ?_;rintro e d ⟨rfl,b⟩;have c:=Ab b;clear b;go_wp2;go_ret;exact⟨rfl,Aa c⟩
theorem aK(K:Int)(S T:cR)(w:World)(f:3<=K)(d:K<=3)(b:S.size<=9223372036854775807)(c:T.size<=9223372036854775807):Calls prog 39 #[.agg #[.int .i64 K,.string S,.string T]] w λe a=>e=.returned (.bool true)/\Ac [] w a:=by
 obtain rfl:K=3:=by omega
 exact T8 S T w b c
