import Derived.Test.YtoihbhenbmffcaaGreatDoorZAJ
import Derived.Test.YtoihbhenbmffcaaGreatDoorZBC
set_option linter.unusedVariables false
set_option linter.unusedSimpArgs false
set_option maxHeartbeats 6400000
namespace Go.Proofs.YtoihbhenbmffcaaGreatDoor
open Go.RowKit
open Go.Proofs.Tryz
def Zq(w0:World)(s:cL)(w:World):Prop:=Lib.IsBuilderF 145 5 w0.heap.size w0.heap.size (Lib.strCells s) w/\Ac [] w0 w
theorem Zq.new(w:World):Zq w ByteArray.empty (w.alloc (.cells #[.pointer none, .slice none 0 0] 145)):=
 ⟨Lib.IsBuilderF.of (Lib.fresh_isBuilder 145 5 w),(Ac.refl [] w).alloc _⟩
theorem JR{w0 w w':World}(k:Ac [] w0 w)(h:Below w0.heap.size w w'):Ac [] w0 w':=
 ⟨h.os.trans k.os,h.tape.trans k.tape,h.output.trans k.output,bM k.size h.size,λi a b=>(h.block i a).trans (k.block i a b)⟩
theorem Zq.kept{w0 w w':World}{s:cL}(h:Zq w0 s w)(k:Ac [] w w'):Zq w0 s w':=by
 have a:∀p,Lib.BuilderAtF 145 5 w0.heap.size w0.heap.size p (Lib.strCells s) w->Lib.BuilderAtF 145 5 w0.heap.size w0.heap.size p (Lib.strCells s) w':=by
  rintro p ⟨l,v,b,c,j⟩;refine⟨l,v,(k.block _ (bg.1 b).1 (by simp)).trans b,⟨c.1,?_⟩,j⟩;rcases c.2 with q|⟨g,m,e,f,i,n,d,o⟩
  ·exact .inl q
  ·exact .inr ⟨g,m,e,f,i,n,(k.block g (bg.1 d).1 (by simp)).trans d,o⟩
 exact⟨h.1.imp (a _) (a _),h.2.trans k⟩
theorem Kp(s x:cL):Lib.strCells (s++x)=Lib.strCells s++Lib.strCells x:=by simp[Lib.strCells,ei]
theorem Le{w0 w:World}{s:cL}{N:Nat}(h:Zq w0 s w)(f:w0.heap.size=N)(x:cL)(b:s.size+x.size<=140737488355328):
  Calls prog 75 #[.pointer (some ⟨N,0,none⟩), .string x] w λe a=>e= .returned (.tuple #[.int .i64 x.size, .nilIface])/\Zq w0 (s++x) a:=by
 subst f;refine(Xc _ _ _ x w h.1 (by rw[Lib.strCells_length];exact b) h.2.size).mono ?_;rintro e a ⟨rfl,d,c,_⟩;refine⟨rfl,Or.inr ?_,JR h.2 c⟩;rw[Kp];exact d
theorem Oj{w0 w:World}{s:cL}{N:Nat}(h:Zq w0 s w)(j:w0.heap.size=N)(d:UInt8)(c:Int)(b:(d.toNat:Int)=c)(f:s.size+1<=140737488355328):
  Calls prog 77 #[.pointer (some ⟨N,0,none⟩), .int .u8 c] w λe a=>e= .returned .nilIface/\Zq w0 (s++⟨#[d]⟩) a:=by
 subst j b;refine(Vx _ _ _ _ w h.1 (by rw[Lib.strCells_length];exact f) h.2.size).mono ?_;rintro e a ⟨rfl,i,g,_⟩;refine⟨rfl,Or.inr ?_,JR h.2 g⟩;rw[Kp];exact i
theorem U6{w0 w:World}{s:cL}{N:Nat}(h:Zq w0 s w)(c:w0.heap.size=N):
  Calls prog 78 #[.pointer (some ⟨N,0,none⟩)] w λe a=>e= .returned (.string s)/\Ac [] w0 a:=by
 subst c;refine(Rp _ _ s.data.toList w h.1 h.2.size).mono ?_;rintro e a ⟨rfl,_,b,_⟩;exact⟨by simp,JR h.2 b⟩
theorem LO:∀(k:Nat) (s:cL),(Ex k s).size<=s.size
 |0,s=>au _
 |k+1,s=>by
  rw[Ex];split
  ·have:=LO k (s.extract 1 s.size);rw[cK]at this;omega
  ·exact au _
theorem JK(s:cL):(CX s).size<=s.size:=by
 unfold CX;split
 ·exact LO _ _
 ·exact au _
theorem Kt:∀(l:List cL) (s:cL) (b:Bool),(∀x∈l,x.size<=1000000)->(DD s b l).size<=s.size+l.length*1000001
 |[],s,b,_=>by simp[DD]
 |x::l,s,b,h=>by
  rw[DD];have d:=Kt l (s++(if b then⟨#[44]⟩else⟨#[40]⟩)++CX x) true (λy c=>h y (be _ c));have e:=JK x;have f:=h x (bC ..);have a:(if b then⟨#[44]⟩else⟨#[40]⟩:cL).size=1:=by cases b<;>rfl
  rw[aU,aU,a]at d;rw[ak];omega
theorem TI{p:DB}(a:p.things.length<=1000)(c:∀x∈p.things,x.size<=1000000)(f:p.name.size<=1000000):(J3 p).size<=2000000000:=by
 unfold J3;have d:=Kt p.things p.name false c;have b:(⟨#[41,46]⟩:cL).size=2:=rfl;have e:p.things.length*1000001<=1000*1000001:=bA _ a;rw[aU,b];omega
set_option maxRecDepth 100000
theorem RA(p:Fm)(w:World)(h:DW w p)(U:p.f.things.length<=1000)(K:∀x∈p.f.things,x.size<=1000000)(X:p.f.name.size<=1000000):
  Calls prog 76 #[.agg (A9 p).toArray] w λe M=>e= .returned (.string (J3 p.f))/\Ac [] w M:=by
 obtain⟨⟨n,a⟩,tv⟩:=p;have Q:Hid (∀x∈a,x.size<=1000000):=K;simp only at U X;obtain⟨l,m,e⟩:=Ak h;simp only at e;subst e;have S:Hid (w.ownsRow 0 170 1 (.slice l a.length m) a.length (a.flatMap Ae)):=h;obtain⟨R,D⟩:∃R,J3 ⟨n,a⟩=R:=⟨_,rfl⟩;rw[D];have J:Hid (DD n (decide (0<0)) (a.drop 0)++⟨#[41,46]⟩=R):=D;have B:=Ab (Aw.new w [.string n, .slice l a.length m] 104);have C:=Ab ((Ac.refl [] w).alloc (.cells [.string n, .slice l a.length m].toArray 104));have j:Hid ((w.alloc (.cells [.string n, .slice l a.length m].toArray 104)).heap.size=w.heap.size+1):=by show _=_;simp
 have b:=Ab (Le (Zq.new (w.alloc (.cells [.string n, .slice l a.length m].toArray 104))) (Aa j) n (by have:ByteArray.empty.size=0:=rfl;omega));clear h D K;simp only[A9];go_enter func76,ntmps76;go_wp2_with fail
 refine(Aa b).mono ?_;clear b;rintro _ w2 ⟨rfl,c⟩;rw[ByteArray.empty_append]at c;have b:=Ab c;clear c;have z:=((Aa B).kept (Aa b).2 (by simp)).cell 1;simp at z;generalize w.alloc (.cells [.string n, .slice l a.length m].toArray 104)=w1 at B C j b;generalize w.heap.size=N at B j z⊢;go_wp2
 go_loopg [12] a.length (λgk i wr=>∃(k:Nat) (s:cL),i= .int .i64 k/\k<=a.length/\gk=a.length-k/\s.size<=1000000+k*1000001/\Hid (DD s (decide (0<k)) (a.drop k)++⟨#[41,46]⟩=R)/\Hid (Zq w1 s wr))
 case atStart=>exact⟨0,n,rfl,by omega,rfl,by omega,J,b⟩
 case round=>
  clear J b z;obtain⟨k,s,rfl,hk,I,BA,t,b⟩:=hrel;have F:=Ab I;clear I;have Z:k*1000001<=1000*1000001:=bA _ (by omega);by_cases u:k<a.length
  ·obtain⟨g,AH,L,d0⟩:=J4 (Ad (Aa S) ((Aa C).trans (Aa b).2) (by simp)) k u;simp only[Z6]at L;obtain⟨rfl,_,rfl⟩:=L;have W:=Aa Q a[k] (Z7 u);have V:=JK a[k];have o:Hid (DD (s++(if decide (0<k)then⟨#[44]⟩else⟨#[40]⟩)++CX a[k]) true (a.drop (k+1))++⟨#[41,46]⟩=R):=by
    have h:=Aa t;rw[aC u,DD]at h;exact h
   have A:=Ab (λw=>Mh a[k] w W);obtain⟨T,G⟩:∃T,CX a[k]=T:=⟨_,rfl⟩;rw[G]at V o A;have AT:(⟨#[40]⟩:cL).size=1:=rfl;have Bx:(⟨#[44]⟩:cL).size=1:=rfl;clear t G;by_cases v:k=0
   ·(have O:((k:Int)==0)=true:=by rw[v];rfl);have y:Hid (DD (s++⟨#[40]⟩++T) (decide (0<k+1)) (a.drop (k+1))++⟨#[41,46]⟩=R):=by
     have h:=Aa o;rw[dM (show¬0<k by omega)]at h;rw[cO (show 0<k+1 by omega)];exact h
    have d:=Ab (Oj (Aa b) (Aa j) 40 40 rfl (by omega));clear o v b;(go_wp2_with fail);refine(Aa d).mono ?_;clear d;rintro _ r ⟨rfl,c⟩;have b:=Ab c;clear c;have d:=Ab (Le (Aa b) (Aa j) T (by rw[aU];omega));have q:=Ab (Aa A r);(go_wp2_with fail);refine(Aa q).mono ?_;rintro _ _ ⟨rfl,rfl⟩;clear q;(go_wp2_with fail);refine(Aa d).mono ?_;clear d b;rintro _ E ⟨rfl,c⟩;have b:=Ab c;clear c;go_wp2
    go_roundg (a.length-(k+1))
    case measure=>have:=Aa F;omega
    case rel=>exact⟨k+1,_,by go_num,by omega,rfl,by rw[aU,aU];omega,y,b⟩
   ·(have O:((k:Int)==0)=false:=by rw[bc];omega);have y:Hid (DD (s++⟨#[44]⟩++T) (decide (0<k+1)) (a.drop (k+1))++⟨#[41,46]⟩=R):=by
     have h:=Aa o;rw[cO (show 0<k by omega)]at h;rw[cO (show 0<k+1 by omega)];exact h
    have d:=Ab (Oj (Aa b) (Aa j) 44 44 rfl (by omega));clear o v b;(go_wp2_with fail);refine(Aa d).mono ?_;clear d;rintro _ r ⟨rfl,c⟩;have b:=Ab c;clear c;have d:=Ab (Le (Aa b) (Aa j) T (by rw[aU];omega));have q:=Ab (Aa A r);(go_wp2_with fail);refine(Aa q).mono ?_;rintro _ _ ⟨rfl,rfl⟩;clear q;(go_wp2_with fail);refine(Aa d).mono ?_;clear d b;rintro _ E ⟨rfl,c⟩;have b:=Ab c;clear c;go_wp2
    go_roundg (a.length-(k+1))
    case measure=>have:=Aa F;omega
    case rel=>exact⟨k+1,_,by go_num,by omega,rfl,by rw[aU,aU];omega,y,b⟩
  ·have Y:Hid (s++⟨#[41,46]⟩=R):=by
    have h:=Aa t;rw[aQ (by omega)]at h;exact h
   have B9:(⟨#[41,46]⟩:cL).size=2:=rfl;have d:=Ab (Le (Aa b) (Aa j) ⟨#[41,46]⟩ (by omega));clear b t;(go_wp2_with fail);refine(Aa d).mono ?_;clear d;rintro _ r ⟨rfl,c⟩;rw[Aa Y]at c;have d:=Ab (U6 c (Aa j));clear c;(go_wp2_with fail);refine(Aa d).mono ?_;clear d;rintro _ E ⟨rfl,H⟩;have P:=Ab ((Aa C).trans H);clear H;go_wp2;go_ret;exact⟨rfl,Aa P⟩
theorem Q1(O z:Nat)(F:Option Addr)(I:Nat)(a:List Fm)(w:World)(Q:w.cell? ⟨O,z,none⟩=some (.slice F a.length I))(h:Mc w (.slice F a.length I) a)(BT:a.length<=10000)
  (l:∀p∈a,p.f.name.size<=1000000/\∀x∈p.f.things,x.size<=1000000):
  Calls prog 42 #[.pointer (some ⟨O,z,none⟩)] w λe t=>e= .returned (.string (Qt ByteArray.empty (a.map Fm.f)))/\Ac [] w t:=by
 have W:=Ab h;have HT:Hid (∀(p:Fm) wr,p∈a->Ac [] w wr->Calls prog 76 #[.agg (A9 p).toArray] wr λe t=>e= .returned (.string (J3 p.f))/\Ac [] wr t):=λp wr c B=>RA p wr ((h.each p c).1.kept B) (h.each p c).2 (l p c).2 (l p c).1
 have X:Hid (∀p∈a,(J3 p.f).size<=2000000000):=λp c=>TI (h.each p c).2 (l p c).2 (l p c).1
 obtain⟨R,y⟩:∃R,Qt ByteArray.empty (a.map Fm.f)=R:=⟨_,rfl⟩;rw[y];have G:Hid (Qt ByteArray.empty ((a.drop 0).map Fm.f)=R):=y;have b:=Ab (Zq.new w);have Y:=Ab Q;clear h y l Q;have BA:(⟨#[10]⟩:cL).size=1:=rfl;have V:=(Aa b).2.cellAt (Aa Y);obtain⟨N,P⟩:∃N,w.heap.size=N:=⟨_,rfl⟩;have HN:=Ab P;clear P;go_enter func42,ntmps42;go_wp2
 go_loopg [11] a.length (λgk i wr=>∃(k:Nat) (s:cL),i= .int .i64 k/\k<=a.length/\gk=a.length-k/\s.size<=k*2000000001/\Hid (Qt s ((a.drop k).map Fm.f)=R)/\Hid (Zq w s wr))
 case atStart=>exact⟨0,ByteArray.empty,rfl,by omega,rfl,by simp,G,b⟩
 case round=>
  clear G b V;obtain⟨k,s,rfl,B,E,B9,q,b⟩:=hrel;have U:=Ab E;clear E;have AB:k*2000000001<=10000*2000000001:=bA _ (by omega);by_cases o:k<a.length
  ·obtain⟨g,Bx,n,v,H,M,L,K,d0,d1⟩:=IZ ((Aa W).kept (Aa b).2) k o;simp only[Z6]at L;obtain⟨rfl,_,rfl⟩:=L;have j:=Ab (Aa HT a[k] _ (Z7 o) ((Aa b).2.alloc (.cells #[.string n, .slice H v.length M] 104)));have d:=Ab ((Aa b).kept ((Ac.refl [] wr).alloc (.cells #[.string n, .slice H v.length M] 104)));have u:=Aa X a[k] (Z7 o);have r:Hid (Qt (s++J3 a[k].f++⟨#[10]⟩) ((a.drop (k+1)).map Fm.f)=R):=by
    have h:=Aa q;rw[aC o,aI,Qt]at h;exact h
   rw[K]at j u r;simp only[A9]at j u r;generalize J3 ⟨n,v⟩=FT at j u r;clear K q b;(go_wp2_with fail);refine(Aa j).mono ?_;rintro _ w3 ⟨rfl,C⟩;have J:=Ab (Le ((Aa d).kept C) rfl FT (by omega));clear j C d;(go_wp2_with fail);refine(Aa J).mono ?_;clear J;rintro _ S ⟨rfl,m⟩;have A:=Ab (Oj m rfl 10 10 rfl (by rw[aU];omega));clear m;(go_wp2_with fail);refine(Aa A).mono ?_;clear A;rintro _ w5 ⟨rfl,m⟩;have b:=Ab m;clear m;go_wp2
   go_roundg (a.length-(k+1))
   case measure=>have:=Aa U;omega
   case rel=>exact⟨k+1,_,by go_num,by omega,rfl,by rw[aU,aU];omega,r,b⟩
  ·have Z:Hid (s=R):=by
    have h:=Aa q;rw[aQ (by omega)]at h;exact h
   have d:=Ab (U6 (Aa b) rfl);rw[Aa Z]at d;clear b q;(go_wp2_with fail);refine(Aa d).mono ?_;clear d;rintro _ S ⟨rfl,D⟩;have T:=Ab D;clear D;go_wp2;go_ret;exact⟨rfl,Aa T⟩
