import Derived.Test.YtoihbhenbmffcaaGreatDoorYBD
import Derived.Test.YtoihbhenbmffcaaGreatDoorYBQ
set_option linter.all false
set_option maxHeartbeats 0
namespace Go.Proofs.YtoihbhenbmffcaaGreatDoor
open Go.RowKit Go.Proofs.Tryz
theorem SY(s:cR)(at_:Nat)(a:Bool):(AP s at_ a).1.s.size<=s.size:=by
 unfold AP;split
 .exact b8 _
 .split
  .split
   .exact b8 _
   .split
    .exact N3 _ _ _
    .split
     .exact b8 _
     .show(ByteArray.extract _ _ _).size<=_;rw[eI];omega
  .exact b8 _
theorem YB(s:cR)(at_:Nat):∀t∈(DL s at_).1,t.s.size<=s.size:=by
 fun_induction DL s at_ with
 |case1 at_ hc _ _ ih=>
  intro t a;rcases bS.1 a with rfl|a
  .exact SY _ _ _
  .exact ih t a
 |case2 at_ hc=>
  intro t a;rw[bO]at a;subst a;exact SY _ _ _
def bj(s:cR)(A:C2):Prop:=A.name.size<=s.size/\∀t∈A.args,t.s.size<=s.size
theorem OZ(s:cR)(at_:Nat)(b:Bool):bj s (Bj s at_ b).1:=by
 unfold Bj;refine⟨N3 _ _ _,?_⟩;show∀t∈(ER s _).1,_;unfold ER;split
 .intro t a;cases a
 .exact YB _ _
theorem Qs(s:cR):bj s Gc:=⟨b8 _,λt a=>by cases a⟩
theorem VA(s:cR)(at_:Nat):bj s (CR s at_).1.A:=by
 unfold CR;simp only;split
 .exact OZ _ _ _
 .split
  .exact OZ _ _ _
  .unfold Hg;split
   .exact Qs s
   .exact Qs s
theorem Yw(s:cR)(at_:Nat):∀x∈(Be s at_).1,bj s x.A:=by
 fun_induction Be s at_ with
 |case1 at_ hc _ _ ih=>
  intro t a;rcases bS.1 a with rfl|a
  .exact VA _ _
  .exact ih t a
 |case2 at_ hc=>
  intro t a;rw[bO]at a;subst a;exact VA _ _
def bF(s:cR)(c:Cf):Prop:=bj s c.head/\∀x∈c.body,bj s x.A
theorem Ob(s:cR)(at_:Nat):bF s (A5 s at_).1:=by
 unfold A5;refine⟨OZ _ _ _,?_⟩;show∀x∈(DN s _ _).1,_;unfold DN;split
 .split
  .exact Yw _ _
  .intro x a;cases a
 .intro x a;cases a
theorem MF(s:cR)(at_:Nat):∀c∈(AD s at_).1,bF s c:=by
 fun_induction AD s at_ with
 |case1 at_ ha hc ih=>
  intro c a;rcases bS.1 a with rfl|a
  .exact Ob _ _
  .exact ih c a
 |case2 at_ ha hc=>
  intro c a;rw[bO]at a;subst a;exact Ob _ _
 |case3 at_ ha=>intro c a;cases a
theorem Ox:∀(k:Nat) (x:cR),(JR k x).size<=x.size+k
 |0,x=>bZ _
 |k+1,x=>by
  rw[JR];split
  .have h:=Ox k (N9++x);have a:N9.size=1:=rfl;rw[cH,a]at h;omega
  .omega
theorem Se(x:cR):(Aw x).size<=x.size+3:=by
 unfold Aw;split
 .exact Ox 3 x
 .omega
def PU(cs ds:List A7):Prop:=∀c∈cs,∃d∈ds,d.head=c.head/\Am d=Am c
theorem Zm{cs ds:List A7}(h:cs.map A7.erase=ds.map A7.erase):PU cs ds:=by
 intro c b;obtain⟨d,a,e⟩:=(F2.of_map h).zR c b;exact⟨d,a,(congrArg Cf.head e).symm,(congrArg Cf.body e).symm⟩
theorem PU.inst{cs ds:List A7}(h:PU cs ds){i:X0 Ah}(g:EW cs i):EW ds i:=by
 obtain⟨c,j,σ,a,rfl⟩:=g;obtain⟨d,e,f,b⟩:=h c j;refine⟨d,e,σ,?_,?_⟩
 .unfold XW at a⊢;rw[b];exact a
 .unfold G6;rw[f,b]
theorem PU.consts{cs ds:List A7}(h:PU cs ds){x:cR}(a:x∈consts cs):x∈consts ds:=by
 unfold Go.Proofs.YtoihbhenbmffcaaGreatDoor.consts at a⊢;obtain⟨c,e,a⟩:=cO.1 a;obtain⟨d,b,f,_⟩:=h c e;exact cO.2 ⟨d,b,by rw[f];exact a⟩
theorem PU.factIn{cs ds:List A7}(h:PU cs ds){f:Ah}(a:Eg cs f):Eg ds f:=by
 refine⟨?_,λx j=>h.consts (a.args x j)⟩;obtain⟨c,i,e⟩:=a.gi;obtain⟨d,b,g,_⟩:=h c i;exact⟨d,b,by rw[g];exact e⟩
theorem PU.inv{cs ds:List A7}(h:PU cs ds)(c:PU ds cs){L:cR->Nat}{n:Nat}{s:List Ah}(a:I7 cs L n s):I7 ds L n s:=by
 have e:EW cs=EW ds:=funext λi=>propext ⟨h.inst,c.inst⟩
 exact⟨by rw[<-e];exact a.work,a.en,λf b=>h.factIn (a.gQ f b)⟩
theorem PU.gD{cs ds:List A7}(j:PU ds cs){L:cR->Nat}(g:DE cs L):DE ds L:=by
 refine⟨λd e x b a=>?_,λd e x b a=>?_⟩<;>obtain⟨c,h,f,i⟩:=j d e
 .rw[<-f];exact g.pos c h x (by rw[i];exact b) a
 .rw[<-f];exact g.neg c h x (by rw[i];exact b) a
theorem Xc{s:cR}(G:s.size<=300){w:World}{D:Value}{cs:List PC}{g:List C0}(i:Du (De s) 0 []=.ok cs)(j:g.map C0.pc=cs)(C:C9 w D g){r:Int×Int}(z:Fo s (bg s) r)(v:r.1=0):
  r=(0,0)/\∃a:List A7,a.map A7.erase=(AD s (Af s 0)).1/\L1 g a:=by
 have h:=RC s;rw[i]at h;have d:((AD s (Af s 0)).1.map TY).map A7.erase=(AD s (Af s 0)).1:=by
  rw[dt]
  conv=>rhs;rw[<-List.map_id (AD s (Af s 0)).1]
  exact du λc _=>MV c
 generalize(AD s (Af s 0)).1.map TY=a at d;have E:F7 s (Cg a).1 (Cg a).2:=by
  unfold F7;rw[if_neg (by omega),if_neg (by rw[h.1];simp)];exact⟨a,d,rfl⟩
 have q:=Qw E z;have o:Cg a=(0,0):=Jh (by rw[<-show r.1=(Cg a).1 by rw[q]];exact v);refine⟨by rw[q,o],a,d,?_⟩;have F:=(Ie s).1;have y:=IE (by omega) _ 0 [] (bZ _) (by simp) i;have t:g.map C0.pc=a.map λr=>aH r.erase:=by
  rw[j,h.2.1,<-d,dt];rfl
 have m:∀c∈g,I6 c.pc:=λc f=>y.1 _ (by rw[<-j];exact bV.2 ⟨c,f,rfl⟩)
 refine⟨(F2.of_map t).mono (λc f b l k=>Zp k (m c f) (C.each c f).wf ?_),Jj h.1 d o,m,λc f=>?_⟩
 .exact h.2.2 b.erase (by rw[<-d];exact bV.2 ⟨b,l,rfl⟩)
 .obtain⟨b,l,k⟩:=(F2.of_map t).zR c f;have n:=MF s (Af s 0) b.erase (by rw[<-d];exact cm l);refine⟨?_,λp i=>?_⟩
  .have e:c.hn=b.erase.head.name:=congrArg PC.hn k;rw[e];have:=n.1.1;omega
  .have e:c.db.map Prod.fst=b.erase.body.map Kj:=congrArg PC.body k;(have j:p.1∈b.erase.body.map Kj:=by rw[<-e];exact cm i);obtain⟨x,B,u⟩:=bV.1 j;rw[<-u];have:=(n.2 x B).1;show x.A.name.size<=_;omega
theorem Yn(f l:Int)(s:∀K S T w,f<=K->K<=l->S.size<=9223372036854775807->T.size<=9223372036854775807->Calls prog 39 #[.agg #[.int .i64 K,.string S,.string T]] w λe c=>e=.returned (.bool true)/\Ac [] w c)
  (r p a cap:Nat) (K:Nat->Int) (S T:Nat->cR) (w:World) (h:U2 w r p a K S T) (L:a<=cap) (N:cap<=9223372036854775807) (u:∀i,i<a->(S i).size<=9223372036854775807/\(T i).size<=9223372036854775807):
  Calls prog 13 #[.slice (some ⟨r,p,none⟩) a cap,.int .i64 f,.int .i64 l] w λe c=>e=.returned (.int .i64 (-1))/\Ac [] w c:=by
 have F:=Ab h;have z:=Ab u;have D:=Ab s;clear h u s;go_enter func13,ntmps13;go_wp2
 go_loopg [7] a (λgk i wr=>∃(k:Nat),i=.int .i64 k/\k<=a/\k<=1152921504606846976/\gk=a-k/\Hid (Ac [] w wr))
 case atStart=>exact⟨0,rfl,by omega,by omega,rfl,Ac.refl _ _⟩
 case round=>
  obtain⟨k,rfl,H,C,q,b⟩:=hrel;have d:=Ab q;clear q;by_cases n:k<a
  ·(have E:(k:Int)<(a:Int):=by omega);by_cases m:k<1152921504606846976
   ·(have A:(k:Int)<1152921504606846976:=by omega);have g:=Ab m;clear m C;obtain⟨J,I,G⟩:=(Aa F).kept (Aa b) k n;have v:=Aa z k n;have j:=Ab ((Aa b).alloc (.cells [.int .i64 (K k),.string (S k),.string (T k)].toArray 29));by_cases y:f<=K k
    .by_cases x:K k<=l
     .have o:=Ab (Aa D (K k) (S k) (T k) (wr.alloc (.cells [.int .i64 (K k),.string (S k),.string (T k)].toArray 29)) y x v.1 v.2);(go_wp2_with fail);refine(Aa o).mono ?_;rintro e M ⟨rfl,t⟩;have B:=Ab ((Aa j).trans t);clear o t;go_wp2
      go_roundg (a-(k+1))
      case measure=>have:=Aa d;omega
      case rel=>exact⟨k+1,by go_num,by omega,by have:=Aa g;omega,rfl,B⟩
     .go_wp2
      go_roundg (a-(k+1))
      case measure=>have:=Aa d;omega
      case rel=>exact⟨k+1,by go_num,by omega,by have:=Aa g;omega,rfl,j⟩
    .go_wp2
     go_roundg (a-(k+1))
     case measure=>have:=Aa d;omega
     case rel=>exact⟨k+1,by go_num,by omega,by have:=Aa g;omega,rfl,j⟩
   ·(have A:¬(k:Int)<1152921504606846976:=by omega);go_wp2;go_ret;exact⟨rfl,Aa b⟩
  ·(have E:¬(k:Int)<(a:Int):=by omega);go_wp2;go_ret;exact⟨rfl,Aa b⟩
theorem X9(c d:Int)(a:Option Addr)(cap:Nat)(w:World):Calls prog 13 #[.slice a 0 cap,.int .i64 c,.int .i64 d] w λe b=>e=.returned (.int .i64 (-1))/\Ac [] w b:=by
 go_enter func13,ntmps13;go_wp2
 go_loop [7] (λi=>i=.int .i64 0) (λ_=>0)
 case atStart=>rfl
 case round=>
  subst hrel;go_wp2;go_ret;exact⟨rfl,Ac.refl _ _⟩
