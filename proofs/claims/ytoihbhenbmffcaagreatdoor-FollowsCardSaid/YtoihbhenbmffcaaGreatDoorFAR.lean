import Derived.Shelf.Strings.BuilderK
import Derived.Test.YtoihbhenbmffcaaGreatDoorFAO
set_option linter.all false
set_option maxHeartbeats 0
open List renaming length->Z
open Option renaming none->Y,some->V
open Go.Value renaming slice->U,int->X,string->O,pointer->m2
open Go.Ending renaming returned->oa
open Go renaming World->py
open ByteArray renaming empty->pF
namespace Go.Proofs.YtoihbhenbmffcaaGreatDoor
open Go.Shelf Go.RowKit
open Go.Proofs.Tryz
def gZ:Ren:=⟨fun|166=>75|167=>77|169=>78|240=>125|276=>168|n=>n,fun|37=>143|70=>142|72=>145|75=>147|80=>50|127=>223|164=>272|n=>n,fun|n=>n⟩
theorem Z7:Lays.n166 prog gZ:=⟨by kernel_rfl,func75.trans (congrArg V (by kernel_rfl)),func125.trans (congrArg V (by kernel_rfl)),func168.trans (congrArg V (by kernel_rfl)),underlying0,isAgg0,sizeOf0,zeroValue0,underlying3,isAgg3,sizeOf3,zeroValue3,underlying4,isAgg4,sizeOf4,zeroValue4,underlying9,isAgg9,sizeOf9,zeroValue9,underlying20,isAgg20,sizeOf20,zeroValue20,underlying143,isAgg143,sizeOf143,zeroValue143,underlying142,isAgg142,sizeOf142,zeroValue142,underlying145,isAgg145,sizeOf145,zeroValue145,underlying147,isAgg147,sizeOf147,zeroValue147,underlying272,isAgg272,sizeOf272,zeroValue272⟩
theorem gD:Lays.n167 prog gZ:=⟨by kernel_rfl,func77.trans (congrArg V (by kernel_rfl)),func125.trans (congrArg V (by kernel_rfl)),func168.trans (congrArg V (by kernel_rfl)),underlying0,isAgg0,sizeOf0,zeroValue0,underlying4,isAgg4,sizeOf4,zeroValue4,underlying5,isAgg5,sizeOf5,zeroValue5,underlying9,isAgg9,sizeOf9,zeroValue9,underlying20,isAgg20,sizeOf20,zeroValue20,underlying143,isAgg143,sizeOf143,zeroValue143,underlying142,isAgg142,sizeOf142,zeroValue142,underlying145,isAgg145,sizeOf145,zeroValue145,underlying147,isAgg147,sizeOf147,zeroValue147,underlying272,isAgg272,sizeOf272,zeroValue272⟩
theorem gF:Lays.n169 prog gZ:=⟨by kernel_rfl,func78.trans (congrArg V (by kernel_rfl)),underlying0,isAgg0,sizeOf0,zeroValue0,underlying3,isAgg3,sizeOf3,zeroValue3,underlying9,isAgg9,sizeOf9,zeroValue9,underlying143,isAgg143,sizeOf143,zeroValue143,underlying142,isAgg142,sizeOf142,zeroValue142,underlying145,isAgg145,sizeOf145,zeroValue145,underlying223,isAgg223,sizeOf223,zeroValue223⟩
theorem io:Builder.Extra prog gZ:={sizeBuilder:=by kernel_rfl,liesBuilder:=by kernel_rfl,t5:=underlying5,a5:=isAgg5,z5:=sizeOf5,v5:=zeroValue5,infoByte:=by kernel_rfl,cellsByte:=by kernel_rfl,sizeByte:=by kernel_rfl,neB5:=by decide}
def bj(B b:Nat)(a:pM Value)(c:Int)(w:py)(h:Lib.IsBuilderF 145 5 B b a w)(g:Z a+1<=140737488355328)(f:B<=w.heap.size):
  Calls prog 77 #[m2 (V ⟨b,0,Y⟩),X .u8 c] w λe d=>e=oa .nilIface/\(Lib.BuilderAtF 145 5 B b (m2 (V ⟨b,0,Y⟩)) (a++[X .u8 c]) d/\Below B w d/\Lib.OthersKept 5 (V b) w d):=
 Any.Builder_WriteByte_k gD io B b a c w h g f
def dA(B b:Nat)(a:pM Value)(s:zA)(w:py)(h:Lib.IsBuilderF 145 5 B b a w)(f:Z a+s.size<=140737488355328)(d:B<=w.heap.size):
  Calls prog 75 #[m2 (V ⟨b,0,Y⟩),O s] w λe c=>e=oa (.tuple #[X .i64 s.size,.nilIface])/\(Lib.BuilderAtF 145 5 B b (m2 (V ⟨b,0,Y⟩)) (a++Lib.strCells s) c/\Below B w c/\Lib.OthersKept 5 (V b) w c):=
 Any.Builder_WriteString_k Z7 io B b a s w h f d
def Po(B b:Nat)(l:pM UInt8)(w:py)(h:Lib.IsBuilderF 145 5 B b (Lib.byteCells l) w)(c:B<=w.heap.size):
  Calls prog 78 #[m2 (V ⟨b,0,Y⟩)] w λe a=>e=oa (O ⟨l.toArray⟩)/\(Lib.IsBuilderF 145 5 B b (Lib.byteCells l) a/\Below B w a/\Lib.OthersKept 5 (V b) w a):=
 Any.Builder_String_any_k gF io B b l w h c
end Go.Proofs.YtoihbhenbmffcaaGreatDoor
namespace Go.Proofs.YtoihbhenbmffcaaGreatDoor
open Go.RowKit Go.Proofs.Tryz
variable{v w u:py}{s:zA}{n:Nat}
def iS(w0:py)(s:zA)(w:py):Prop:=Lib.IsBuilderF 145 5 w0.heap.size w0.heap.size (Lib.strCells s) w/\Ac [] w0 w
def iS.new(w:py):iS w pF (w.alloc (.cells #[m2 Y,U Y 0 0] 145)):=
 ⟨Lib.IsBuilderF.of (Lib.fresh_isBuilder 145 5 w),(pO [] w).alloc _⟩
def Ic(k:Ac [] v w)(h:Below v.heap.size w u):Ac [] v u:=
 ⟨h.os.trans k.os,h.tape.trans k.tape,h.output.trans k.output,mp k.size h.size,λi a b=>(h.block i a).trans (k.block i a b)⟩
def iS.kept{a w w':py}(h:iS a s w)(k:Ac [] w w'):iS a s w':=by
 have b:∀p,Lib.BuilderAtF 145 5 a.heap.size a.heap.size p (Lib.strCells s) w->Lib.BuilderAtF 145 5 a.heap.size a.heap.size p (Lib.strCells s) w':=by
  rintro p ⟨m,v,c,d,l⟩;refine⟨m,v,(k.block _ (mc.1 c).1 (by simp)).trans c,⟨d.1,?_⟩,l⟩;rcases d.2 with r|⟨g,n,i,f,j,o,e,q⟩
  .exact .inl r
  .exact .inr ⟨g,n,i,f,j,o,(k.block g (mc.1 e).1 (by simp)).trans e,q⟩
 exact⟨h.1.imp (b _) (b _),h.2.trans k⟩
def Hi(s x:zA):Lib.strCells (s++x)=Lib.strCells s++Lib.strCells x:=by simp[Lib.strCells,po]
def On(h:iS v s w)(f:v.heap.size=n)(x:zA)(b:s.size+x.size<=140737488355328):
  Calls prog 75 #[m2 (V ⟨n,0,Y⟩),O x] w λe a=>e=oa (.tuple #[X .i64 x.size,.nilIface])/\iS v (s++x) a:=by
 subst f;refine(dA _ _ _ x w h.1 (by rw[Lib.strCells_length];exact b) h.2.size).mono ?_;rintro e a ⟨rfl,d,c,_⟩;refine⟨rfl,Or.inr ?_,Ic h.2 c⟩;rw[Hi];exact d
def RQ(h:iS v s w)(j:v.heap.size=n)(d:UInt8)(c:Int)(b:(d.toNat:Int)=c)(f:s.size+1<=140737488355328):
  Calls prog 77 #[m2 (V ⟨n,0,Y⟩),X .u8 c] w λe a=>e=oa .nilIface/\iS v (s++⟨#[d]⟩) a:=by
 subst j b;refine(bj _ _ _ _ w h.1 (by rw[Lib.strCells_length];exact f) h.2.size).mono ?_;rintro e a ⟨rfl,i,g,_⟩;refine⟨rfl,Or.inr ?_,Ic h.2 g⟩;rw[Hi];exact i
def aD(h:iS v s w)(c:v.heap.size=n):
  Calls prog 78 #[m2 (V ⟨n,0,Y⟩)] w λe a=>e=oa (O s)/\Ac [] v a:=by
 subst c;refine(Po _ _ s.data.toList w h.1 h.2.size).mono ?_;rintro e a ⟨rfl,_,b,_⟩;exact⟨by simp,Ic h.2 b⟩
def Pa:∀(k:Nat) (s:zA),(Fz k s).size<=s.size
 |0,s=>lC _
 |k+1,s=>by
  rw[Fz];split
  .have:=Pa k (s.extract 1 s.size);rw[my]at this;omega
  .exact lC _
def Mr(s:zA):(BZ s).size<=s.size:=by
 unfold BZ;split
 .exact Pa _ _
 .exact lC _
def Nv:∀(l:pM zA) (s:zA) (b:Bool),(∀x∈l,x.size<=1000000)->(DP s b l).size<=s.size+Z l*1000001
 |[],s,b,_=>by simp[DP]
 |x::l,s,b,h=>by
  rw[DP];have d:=Nv l (s++(if b then⟨#[44]⟩else⟨#[40]⟩)++BZ x) true (λy c=>h y (lY _ c));have e:=Mr x;have f:=h x (mz ..);have a:(if b then⟨#[44]⟩else⟨#[40]⟩:zA).size=1:=by cases b<;>rfl
  rw[lh,lh,a]at d;rw[lj];omega
def Q2{p:C4}(a:Z p.zC<=1000)(c:∀x∈p.zC,x.size<=1000000)(f:p.name.size<=1000000):(Fq p).size<=2000000000:=by
 unfold Fq;have d:=Nv p.zC p.name false c;have b:(⟨#[41,46]⟩:zA).size=2:=rfl;have e:Z p.zC*1000001<=1000*1000001:=mh _ a;rw[lh,b];omega
set_option maxRecDepth 100000
theorem Lc(p:Fa)(w:py)(h:Ea w p)(hl:Z p.f.zC<=1000)(M:∀x∈p.f.zC,x.size<=1000000)(A0:p.f.name.size<=1000000):
  Calls prog 76 #[.agg (A6 p).toArray] w λe Q=>e=oa (O (Fq p.f))/\Ac [] w Q:=by
 obtain⟨⟨n,a⟩,tv⟩:=p;have Ax:Hid (∀x∈a,x.size<=1000000):=M;simp only at hl A0;obtain⟨l,m,e⟩:=Ak h;simp only at e;subst e;have HA:Hid (w.ownsRow 0 170 1 (U l (Z a) m) (Z a) (a.flatMap Ah)):=h;obtain⟨R,D⟩:=pN (Fq ⟨n,a⟩);rw[D];have L:Hid (DP n (decide (0<0)) (a.drop 0)++⟨#[41,46]⟩=R):=D;have B:=Ab (pP w [O n,U l (Z a) m] 104);have C:=Ab ((pO [] w).alloc (.cells [O n,U l (Z a) m].toArray 104));have j:Hid ((w.alloc (.cells [O n,U l (Z a) m].toArray 104)).heap.size=w.heap.size+1):=by show _=_;simp
 have b:=Ab (On (iS.new (w.alloc (.cells [O n,U l (Z a) m].toArray 104))) (Aa j) n (by have:ByteArray.empty.size=0:=rfl;omega));clear h D M;simp only[A6];go_enter func76,ntmps76;go_wp2_with fail
 refine b.mono ?_;clear b;rintro _ w2 ⟨rfl,c⟩;rw[ByteArray.empty_append]at c;have b:=Ab c;clear c;have z:=(B.kept b.2).cell 1;simp at z;generalize w.alloc (.cells [O n,U l (Z a) m].toArray 104)=w1 at B C j b;generalize w.heap.size=N at B j z⊢;go_wp2
 go_loopg [12] (Z a) (λgk i wr=>∃(k:Nat) (s:zA),i=X .i64 k/\k<=Z a/\gk=Z a-k/\s.size<=1000000+k*1000001/\Hid (DP s (decide (0<k)) (a.drop k)++⟨#[41,46]⟩=R)/\Hid (iS w1 s wr))
 case atStart=>exact⟨0,n,rfl,by omega,rfl,by omega,L,b⟩
 case round=>
  clear L b z;obtain⟨k,s,rfl,hk,I,B2,t,b⟩:=hrel;have F:=Ab I;clear I;have A2:k*1000001<=1000*1000001:=mh _ (by omega);by_cases u:k<Z a
  .obtain⟨g,BS,P,d0⟩:=MT (Ad HA (C.trans b.2)) k u;simp only[kS]at P;obtain⟨rfl,_,rfl⟩:=P;have hx:=Aa Ax a[k] (kV u);have hy:=Mr a[k];have o:Hid (DP (s++(if decide (0<k)then⟨#[44]⟩else⟨#[40]⟩)++BZ a[k]) true (a.drop (k+1))++⟨#[41,46]⟩=R):=by
    have h:=Aa t;rw[lD u,DP]at h;exact h
   have A:=Ab (λw=>JV a[k] w hx);obtain⟨T,G⟩:=pN (BZ a[k]);rw[G]at hy o A;have BT:(⟨#[40]⟩:zA).size=1:=rfl;have B0:(⟨#[44]⟩:zA).size=1:=rfl;clear t G;by_cases v:k=0
   ·(have S:((k:Int)==0)=true:=by rw[v];rfl);have y:Hid (DP (s++⟨#[40]⟩++T) (decide (0<k+1)) (a.drop (k+1))++⟨#[41,46]⟩=R):=by
     have h:=Aa o;rw[mG (show¬0<k by omega)]at h;rw[np (show 0<k+1 by omega)];exact h
    have d:=Ab (RQ b j 40 40 rfl (by omega));clear o v b;(go_wp2_with fail);refine d.mono ?_;clear d;rintro _ r ⟨rfl,c⟩;have b:=Ab c;clear c;have d:=Ab (On b j T (by rw[lh];omega));have q:=Ab (A r);(go_wp2_with fail);refine q.mono ?_;rintro _ _ ⟨rfl,rfl⟩;clear q;(go_wp2_with fail);refine d.mono ?_;clear d b;rintro _ E ⟨rfl,c⟩;have b:=Ab c;clear c;go_wp2
    go_roundg (Z a-(k+1))
    case measure=>have:=Aa F;omega
    case rel=>exact⟨k+1,_,by go_num,by omega,rfl,by rw[lh,lh];omega,y,b⟩
   ·(have S:((k:Int)==0)=false:=by rw[lQ];omega);have y:Hid (DP (s++⟨#[44]⟩++T) (decide (0<k+1)) (a.drop (k+1))++⟨#[41,46]⟩=R):=by
     have h:=Aa o;rw[np (show 0<k by omega)]at h;rw[np (show 0<k+1 by omega)];exact h
    have d:=Ab (RQ b j 44 44 rfl (by omega));clear o v b;(go_wp2_with fail);refine d.mono ?_;clear d;rintro _ r ⟨rfl,c⟩;have b:=Ab c;clear c;have d:=Ab (On b j T (by rw[lh];omega));have q:=Ab (A r);(go_wp2_with fail);refine q.mono ?_;rintro _ _ ⟨rfl,rfl⟩;clear q;(go_wp2_with fail);refine d.mono ?_;clear d b;rintro _ E ⟨rfl,c⟩;have b:=Ab c;clear c;go_wp2
    go_roundg (Z a-(k+1))
    case measure=>have:=Aa F;omega
    case rel=>exact⟨k+1,_,by go_num,by omega,rfl,by rw[lh,lh];omega,y,b⟩
  .have HE:Hid (s++⟨#[41,46]⟩=R):=by
    have h:=Aa t;rw[lS (by omega)]at h;exact h
   have CC:(⟨#[41,46]⟩:zA).size=2:=rfl;have d:=Ab (On b j ⟨#[41,46]⟩ (by omega));clear b t;(go_wp2_with fail);refine d.mono ?_;clear d;rintro _ r ⟨rfl,c⟩;rw[Aa HE]at c;have d:=Ab (aD c j);clear c;(go_wp2_with fail);refine d.mono ?_;clear d;rintro _ E ⟨rfl,H⟩;have W:=Ab (C.trans H);clear H;go_wp2;go_ret;exact⟨rfl,W⟩
theorem VC(S z:Nat)(F:Option Addr)(I:Nat)(a:pM Fa)(w:py)(W:w.cell? ⟨S,z,Y⟩=V (U F (Z a) I))(h:Jm w (U F (Z a) I) a)(B9:Z a<=10000)
  (l:∀p∈a,p.f.name.size<=1000000/\∀x∈p.f.zC,x.size<=1000000):
  Calls prog 42 #[m2 (V ⟨S,z,Y⟩)] w λe t=>e=oa (O (U6 pF (a.map Fa.f)))/\Ac [] w t:=by
 have HS:=Ab h;have HT:Hid (∀(p:Fa) wr,p∈a->Ac [] w wr->Calls prog 76 #[.agg (A6 p).toArray] wr λe t=>e=oa (O (Fq p.f))/\Ac [] wr t):=λp wr c B=>Lc p wr ((h.each p c).1.kept B) (h.each p c).2 (l p c).2 (l p c).1
 have A0:Hid (∀p∈a,(Fq p.f).size<=2000000000):=λp c=>Q2 (h.each p c).2 (l p c).2 (l p c).1
 obtain⟨R,y⟩:=pN (U6 pF (a.map Fa.f));rw[y];have G:Hid (U6 pF ((a.drop 0).map Fa.f)=R):=y;have b:=Ab (iS.new w);have A1:=Ab W;clear h y l W;have B2:(⟨#[10]⟩:zA).size=1:=rfl;have c1:=b.2.cellAt A1;obtain⟨N,T⟩:=pN w.heap.size;have HN:=Ab T;clear T;go_enter func42,ntmps42;go_wp2
 go_loopg [11] (Z a) (λgk i wr=>∃(k:Nat) (s:zA),i=X .i64 k/\k<=Z a/\gk=Z a-k/\s.size<=k*2000000001/\Hid (U6 s ((a.drop k).map Fa.f)=R)/\Hid (iS w s wr))
 case atStart=>exact⟨0,pF,rfl,by omega,rfl,by simp,G,b⟩
 case round=>
  clear G b c1;obtain⟨k,s,rfl,B,E,CC,q,b⟩:=hrel;have HG:=Ab E;clear E;have BA:k*2000000001<=10000*2000000001:=mh _ (by omega);by_cases o:k<Z a
  .obtain⟨g,B0,n,v,H,Q,P,M,d0,d1⟩:=Jt (HS.kept b.2) k o;simp only[kS]at P;obtain⟨rfl,_,rfl⟩:=P;have j:=Ab (HT a[k] _ (kV o) (b.2.alloc (.cells #[O n,U H (Z v) Q] 104)));have d:=Ab (b.kept ((pO [] wr).alloc (.cells #[O n,U H (Z v) Q] 104)));have u:=Aa A0 a[k] (kV o);have r:Hid (U6 (s++Fq a[k].f++⟨#[10]⟩) ((a.drop (k+1)).map Fa.f)=R):=by
    have h:=Aa q;rw[lD o,lE,U6]at h;exact h
   rw[M]at j u r;simp only[A6]at j u r;generalize Fq ⟨n,v⟩=FT at j u r;clear M q b;(go_wp2_with fail);refine j.mono ?_;rintro _ w3 ⟨rfl,C⟩;have L:=Ab (On (d.kept C) rfl FT (by omega));clear j C d;(go_wp2_with fail);refine L.mono ?_;clear L;rintro _ w4 ⟨rfl,m⟩;have A:=Ab (RQ m rfl 10 10 rfl (by rw[lh];omega));clear m;(go_wp2_with fail);refine A.mono ?_;clear A;rintro _ w5 ⟨rfl,m⟩;have b:=Ab m;clear m;go_wp2
   go_roundg (Z a-(k+1))
   case measure=>have:=Aa HG;omega
   case rel=>exact⟨k+1,_,by go_num,by omega,rfl,by rw[lh,lh];omega,r,b⟩
  .have HE:Hid (s=R):=by
    have h:=Aa q;rw[lS (by omega)]at h;exact h
   have d:=Ab (aD b rfl);rw[Aa HE]at d;clear b q;(go_wp2_with fail);refine d.mono ?_;clear d;rintro _ w4 ⟨rfl,D⟩;have HF:=Ab D;clear D;go_wp2;go_ret;exact⟨rfl,HF⟩
