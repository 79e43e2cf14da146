import Derived.Shelf.Strings.BuilderK
import Derived.Test.YtoihbhenbmffcaaGreatDoorTAN
set_option linter.all false
set_option maxHeartbeats 0
open List renaming length->Z
open Option renaming none->Y,some->V
open Go.Value renaming slice->U,int->X,string->O,pointer->j3,ownBlock->qX
open Go.Obj renaming cells->j1
open Go.Ending renaming returned->kt
open Or renaming inl->lo,inr->lx
open Go renaming World->ly,Value->ml
open Go.World renaming ownsRow->oi
open ByteArray renaming empty->q9
namespace Go.Proofs.YtoihbhenbmffcaaGreatDoor
open Go.Shelf Go.RowKit
open Go.Proofs.Tryz
def i8:Ren:=⟨fun|166=>75|167=>77|169=>78|240=>125|276=>168|n=>n,fun|37=>143|70=>142|72=>145|75=>147|80=>50|127=>223|164=>272|n=>n,fun|n=>n⟩
theorem aU:Lays.n166 prog i8:=⟨by kernel_rfl,func75.trans (congrArg V (by kernel_rfl)),func125.trans (congrArg V (by kernel_rfl)),func168.trans (congrArg V (by kernel_rfl)),underlying0,isAgg0,sizeOf0,zeroValue0,underlying3,isAgg3,sizeOf3,zeroValue3,underlying4,isAgg4,sizeOf4,zeroValue4,underlying9,isAgg9,sizeOf9,zeroValue9,underlying20,isAgg20,sizeOf20,zeroValue20,underlying143,isAgg143,sizeOf143,zeroValue143,underlying142,isAgg142,sizeOf142,zeroValue142,underlying145,isAgg145,sizeOf145,zeroValue145,underlying147,isAgg147,sizeOf147,zeroValue147,underlying272,isAgg272,sizeOf272,zeroValue272⟩
theorem iG:Lays.n167 prog i8:=⟨by kernel_rfl,func77.trans (congrArg V (by kernel_rfl)),func125.trans (congrArg V (by kernel_rfl)),func168.trans (congrArg V (by kernel_rfl)),underlying0,isAgg0,sizeOf0,zeroValue0,underlying4,isAgg4,sizeOf4,zeroValue4,underlying5,isAgg5,sizeOf5,zeroValue5,underlying9,isAgg9,sizeOf9,zeroValue9,underlying20,isAgg20,sizeOf20,zeroValue20,underlying143,isAgg143,sizeOf143,zeroValue143,underlying142,isAgg142,sizeOf142,zeroValue142,underlying145,isAgg145,sizeOf145,zeroValue145,underlying147,isAgg147,sizeOf147,zeroValue147,underlying272,isAgg272,sizeOf272,zeroValue272⟩
theorem iJ:Lays.n169 prog i8:=⟨by kernel_rfl,func78.trans (congrArg V (by kernel_rfl)),underlying0,isAgg0,sizeOf0,zeroValue0,underlying3,isAgg3,sizeOf3,zeroValue3,underlying9,isAgg9,sizeOf9,zeroValue9,underlying143,isAgg143,sizeOf143,zeroValue143,underlying142,isAgg142,sizeOf142,zeroValue142,underlying145,isAgg145,sizeOf145,zeroValue145,underlying223,isAgg223,sizeOf223,zeroValue223⟩
theorem jn:Builder.Extra prog i8:={sizeBuilder:=by kernel_rfl,liesBuilder:=by kernel_rfl,t5:=underlying5,a5:=isAgg5,z5:=sizeOf5,v5:=zeroValue5,infoByte:=by kernel_rfl,cellsByte:=by kernel_rfl,sizeByte:=by kernel_rfl,neB5:=by decide}
def cj(B b:Nat)(a:rc ml)(c:Int)(w:ly)(h:Lib.IsBuilderF 145 5 B b a w)(g:Z a+1<=140737488355328)(f:B<=w.heap.size):
  Calls prog 77 #[j3 (V ⟨b,0,Y⟩),X .u8 c] w λe d=>e=kt .nilIface/\(Lib.BuilderAtF 145 5 B b (j3 (V ⟨b,0,Y⟩)) (a++[X .u8 c]) d/\Below B w d/\Lib.OthersKept 5 (V b) w d):=
 Any.Builder_WriteByte_k iG jn B b a c w h g f
def ey(B b:Nat)(a:rc ml)(s:zA)(w:ly)(h:Lib.IsBuilderF 145 5 B b a w)(f:Z a+s.size<=140737488355328)(d:B<=w.heap.size):
  Calls prog 75 #[j3 (V ⟨b,0,Y⟩),O s] w λe c=>e=kt (.tuple #[X .i64 s.size,.nilIface])/\(Lib.BuilderAtF 145 5 B b (j3 (V ⟨b,0,Y⟩)) (a++Lib.strCells s) c/\Below B w c/\Lib.OthersKept 5 (V b) w c):=
 Any.Builder_WriteString_k aU jn B b a s w h f d
def P3(B b:Nat)(l:rc UInt8)(w:ly)(h:Lib.IsBuilderF 145 5 B b (Lib.byteCells l) w)(c:B<=w.heap.size):
  Calls prog 78 #[j3 (V ⟨b,0,Y⟩)] w λe a=>e=kt (O ⟨l.toArray⟩)/\(Lib.IsBuilderF 145 5 B b (Lib.byteCells l) a/\Below B w a/\Lib.OthersKept 5 (V b) w a):=
 Any.Builder_String_any_k iJ jn B b l w h c
end Go.Proofs.YtoihbhenbmffcaaGreatDoor
namespace Go.Proofs.YtoihbhenbmffcaaGreatDoor
open Go.RowKit Go.Proofs.Tryz
variable{v w u:ly}{s:zA}{n:Nat}
def jY(w0:ly)(s:zA)(w:ly):Prop:=Lib.IsBuilderF 145 5 w0.heap.size w0.heap.size (Lib.strCells s) w/\Ac [] w0 w
def jY.new(w:ly):jY w q9 (w.alloc (j1 #[j3 Y,U Y 0 0] 145)):=
 ⟨Lib.IsBuilderF.of (Lib.fresh_isBuilder 145 5 w),(re [] w).alloc _⟩
def IG(k:Ac [] v w)(h:Below v.heap.size w u):Ac [] v u:=
 ⟨h.os.trans k.os,h.tape.trans k.tape,h.output.trans k.output,nD k.size h.size,λi a b=>(h.block i a).trans (k.block i a b)⟩
def jY.kept{a w w':ly}(h:jY a s w)(k:Ac [] w w'):jY a s w':=by
 have b:∀p,Lib.BuilderAtF 145 5 a.heap.size a.heap.size p (Lib.strCells s) w->Lib.BuilderAtF 145 5 a.heap.size a.heap.size p (Lib.strCells s) w':=by
  rintro p ⟨m,v,c,d,l⟩;refine⟨m,v,(k.block _ (nz.1 c).1 (by simp)).trans c,⟨d.1,?_⟩,l⟩;rcases d.2 with r|⟨g,n,i,f,j,o,e,q⟩
  .exact .inl r
  .exact .inr ⟨g,n,i,f,j,o,(k.block g (nz.1 e).1 (by simp)).trans e,q⟩
 exact⟨h.1.imp (b _) (b _),h.2.trans k⟩
def If(s x:zA):Lib.strCells (s++x)=Lib.strCells s++Lib.strCells x:=by simp[Lib.strCells,qN]
def OY(h:jY v s w)(f:v.heap.size=n)(x:zA)(b:s.size+x.size<=140737488355328):
  Calls prog 75 #[j3 (V ⟨n,0,Y⟩),O x] w λe a=>e=kt (.tuple #[X .i64 x.size,.nilIface])/\jY v (s++x) a:=by
 subst f;refine(ey _ _ _ x w h.1 (by rw[Lib.strCells_length];exact b) h.2.size).mono ?_;rintro e a ⟨rfl,d,c,_⟩;refine⟨rfl,lx ?_,IG h.2 c⟩;rw[If];exact d
def So(h:jY v s w)(j:v.heap.size=n)(d:UInt8)(c:Int)(b:(d.toNat:Int)=c)(f:s.size+1<=140737488355328):
  Calls prog 77 #[j3 (V ⟨n,0,Y⟩),X .u8 c] w λe a=>e=kt .nilIface/\jY v (s++⟨#[d]⟩) a:=by
 subst j b;refine(cj _ _ _ _ w h.1 (by rw[Lib.strCells_length];exact f) h.2.size).mono ?_;rintro e a ⟨rfl,i,g,_⟩;refine⟨rfl,lx ?_,IG h.2 g⟩;rw[If];exact i
def bB(h:jY v s w)(c:v.heap.size=n):
  Calls prog 78 #[j3 (V ⟨n,0,Y⟩)] w λe a=>e=kt (O s)/\Ac [] v a:=by
 subst c;refine(P3 _ _ s.data.toList w h.1 h.2.size).mono ?_;rintro e a ⟨rfl,_,b,_⟩;exact⟨by simp,IG h.2 b⟩
def PM:∀(k:Nat) (s:zA),(F4 k s).size<=s.size
 |0,s=>mP _
 |k+1,s=>by
  rw[F4];split
  .have:=PM k (s.extract 1 s.size);rw[n7]at this;omega
  .exact mP _
def Ng(s:zA):(B5 s).size<=s.size:=by
 unfold B5;split
 .exact PM _ _
 .exact mP _
def Oj:∀(l:rc zA) (s:zA) (b:Bool),(∀x∈l,x.size<=1000000)->(D8 s b l).size<=s.size+Z l*1000001
 |[],s,b,_=>by simp[D8]
 |x::l,s,b,h=>by
  rw[D8];have d:=Oj l (s++(if b then⟨#[44]⟩else⟨#[40]⟩)++B5 x) true (λy c=>h y (no _ c));have e:=Ng x;have f:=h x (nK ..);have a:(if b then⟨#[44]⟩else⟨#[40]⟩:zA).size=1:=by cases b<;>rfl
  rw[mH,mH,a]at d;rw[mL];omega
def RG{p:CJ}(a:Z p.zC<=1000)(c:∀x∈p.zC,x.size<=1000000)(f:p.name.size<=1000000):(FK p).size<=2000000000:=by
 unfold FK;have d:=Oj p.zC p.name false c;have b:(⟨#[41,46]⟩:zA).size=2:=rfl;have e:Z p.zC*1000001<=1000*1000001:=nB _ a;rw[mH,b];omega
set_option maxRecDepth 100000
theorem LZ(p:Eb)(w:ly)(h:C8 w p)(hl:Z p.f.zC<=1000)(M:∀x∈p.f.zC,x.size<=1000000)(AT:p.f.name.size<=1000000):
  Calls prog 76 #[.agg (AM p).toArray] w λe Q=>e=kt (O (FK p.f))/\Ac [] w Q:=by
 obtain⟨⟨n,a⟩,tv⟩:=p;have Ax:Hid (∀x∈a,x.size<=1000000):=M;simp only at hl AT;obtain⟨l,m,e⟩:=Al h;simp only at e;subst e;have HA:Hid (oi w 0 170 1 (U l (Z a) m) (Z a) (a.flatMap Ai)):=h;obtain⟨R,D⟩:=rd (FK ⟨n,a⟩);rw[D];have L:Hid (D8 n (decide (0<0)) (a.drop 0)++⟨#[41,46]⟩=R):=D;have B:=Ab (rf w [O n,U l (Z a) m] 104);have C:=Ab ((re [] w).alloc (j1 [O n,U l (Z a) m].toArray 104));have j:Hid ((w.alloc (j1 [O n,U l (Z a) m].toArray 104)).heap.size=w.heap.size+1):=by show _=_;simp
 have b:=Ab (OY (jY.new (w.alloc (j1 [O n,U l (Z a) m].toArray 104))) (Aa j) n (by have:ByteArray.empty.size=0:=rfl;omega));clear h D M;simp only[AM];go_enter func76,ntmps76;go_wp2_with fail
 refine b.mono ?_;clear b;rintro _ w2 ⟨rfl,c⟩;rw[ByteArray.empty_append]at c;have b:=Ab c;clear c;have z:=(B.kept b.2).cell 1;simp at z;generalize w.alloc (j1 [O n,U l (Z a) m].toArray 104)=w1 at B C j b;generalize w.heap.size=N at B j z⊢;go_wp2
 go_loopg [12] (Z a) (λgk i wr=>∃(k:Nat) (s:zA),i=X .i64 k/\k<=Z a/\gk=Z a-k/\s.size<=1000000+k*1000001/\Hid (D8 s (decide (0<k)) (a.drop k)++⟨#[41,46]⟩=R)/\Hid (jY w1 s wr))
 case atStart=>exact⟨0,n,rfl,by omega,rfl,by omega,L,b⟩
 case round=>
  clear L b z;obtain⟨k,s,rfl,hk,I,B0,t,b⟩:=hrel;have F:=Ab I;clear I;have A1:k*1000001<=1000*1000001:=nB _ (by omega);by_cases u:k<Z a
  .obtain⟨g,BA,P,d0⟩:=NK (Ad HA (C.trans b.2)) k u;simp only[mu]at P;obtain⟨rfl,_,rfl⟩:=P;have hx:=Aa Ax a[k] (mw u);have hy:=Ng a[k];have o:Hid (D8 (s++(if decide (0<k)then⟨#[44]⟩else⟨#[40]⟩)++B5 a[k]) true (a.drop (k+1))++⟨#[41,46]⟩=R):=by
    have h:=Aa t;rw[mQ u,D8]at h;exact h
   have A:=Ab (λw=>Kv a[k] w hx);obtain⟨T,G⟩:=rd (B5 a[k]);rw[G]at hy o A;have BS:(⟨#[40]⟩:zA).size=1:=rfl;have BT:(⟨#[44]⟩:zA).size=1:=rfl;clear t G;by_cases v:k=0
   ·(have S:((k:Int)==0)=true:=by rw[v];rfl);have y:Hid (D8 (s++⟨#[40]⟩++T) (decide (0<k+1)) (a.drop (k+1))++⟨#[41,46]⟩=R):=by
     have h:=Aa o;rw[nW (show¬0<k by omega)]at h;rw[oS (show 0<k+1 by omega)];exact h
    have d:=Ab (So b j 40 40 rfl (by omega));clear o v b;(go_wp2_with fail);refine d.mono ?_;clear d;rintro _ r ⟨rfl,c⟩;have b:=Ab c;clear c;have d:=Ab (OY b j T (by rw[mH];omega));have q:=Ab (A r);(go_wp2_with fail);refine q.mono ?_;rintro _ _ ⟨rfl,rfl⟩;clear q;(go_wp2_with fail);refine d.mono ?_;clear d b;rintro _ E ⟨rfl,c⟩;have b:=Ab c;clear c;go_wp2
    go_roundg (Z a-(k+1))
    case measure=>have:=Aa F;omega
    case rel=>exact⟨k+1,_,by go_num,by omega,rfl,by rw[mH,mH];omega,y,b⟩
   ·(have S:((k:Int)==0)=false:=by rw[nj];omega);have y:Hid (D8 (s++⟨#[44]⟩++T) (decide (0<k+1)) (a.drop (k+1))++⟨#[41,46]⟩=R):=by
     have h:=Aa o;rw[oS (show 0<k by omega)]at h;rw[oS (show 0<k+1 by omega)];exact h
    have d:=Ab (So b j 44 44 rfl (by omega));clear o v b;(go_wp2_with fail);refine d.mono ?_;clear d;rintro _ r ⟨rfl,c⟩;have b:=Ab c;clear c;have d:=Ab (OY b j T (by rw[mH];omega));have q:=Ab (A r);(go_wp2_with fail);refine q.mono ?_;rintro _ _ ⟨rfl,rfl⟩;clear q;(go_wp2_with fail);refine d.mono ?_;clear d b;rintro _ E ⟨rfl,c⟩;have b:=Ab c;clear c;go_wp2
    go_roundg (Z a-(k+1))
    case measure=>have:=Aa F;omega
    case rel=>exact⟨k+1,_,by go_num,by omega,rfl,by rw[mH,mH];omega,y,b⟩
  .have HE:Hid (s++⟨#[41,46]⟩=R):=by
    have h:=Aa t;rw[ni (by omega)]at h;exact h
   have B9:(⟨#[41,46]⟩:zA).size=2:=rfl;have d:=Ab (OY b j ⟨#[41,46]⟩ (by omega));clear b t;(go_wp2_with fail);refine d.mono ?_;clear d;rintro _ r ⟨rfl,c⟩;rw[Aa HE]at c;have d:=Ab (bB c j);clear c;(go_wp2_with fail);refine d.mono ?_;clear d;rintro _ E ⟨rfl,H⟩;have W:=Ab (C.trans H);clear H;go_wp2;go_ret;exact⟨rfl,W⟩
theorem PN(S z:Nat)(F:Option Addr)(I:Nat)(a:rc Eb)(w:ly)(W:w.cell? ⟨S,z,Y⟩=V (U F (Z a) I))(h:Io w (U F (Z a) I) a)(B2:Z a<=10000)
  (l:∀p∈a,p.f.name.size<=1000000/\∀x∈p.f.zC,x.size<=1000000):
  Calls prog 42 #[j3 (V ⟨S,z,Y⟩)] w λe t=>e=kt (O (TI q9 (a.map Eb.f)))/\Ac [] w t:=by
 have HS:=Ab h;have HT:Hid (∀(p:Eb) wr,p∈a->Ac [] w wr->Calls prog 76 #[.agg (AM p).toArray] wr λe t=>e=kt (O (FK p.f))/\Ac [] wr t):=λp wr c B=>LZ p wr ((h.each p c).1.kept B) (h.each p c).2 (l p c).2 (l p c).1
 have AT:Hid (∀p∈a,(FK p.f).size<=2000000000):=λp c=>RG (h.each p c).2 (l p c).2 (l p c).1
 obtain⟨R,y⟩:=rd (TI q9 (a.map Eb.f));rw[y];have G:Hid (TI q9 ((a.drop 0).map Eb.f)=R):=y;have b:=Ab (jY.new w);have A0:=Ab W;clear h y l W;have B0:(⟨#[10]⟩:zA).size=1:=rfl;have c1:=b.2.cellAt A0;obtain⟨N,T⟩:=rd w.heap.size;have HN:=Ab T;clear T;go_enter func42,ntmps42;go_wp2
 go_loopg [11] (Z a) (λgk i wr=>∃(k:Nat) (s:zA),i=X .i64 k/\k<=Z a/\gk=Z a-k/\s.size<=k*2000000001/\Hid (TI s ((a.drop k).map Eb.f)=R)/\Hid (jY w s wr))
 case atStart=>exact⟨0,q9,rfl,by omega,rfl,by simp,G,b⟩
 case round=>
  clear G b c1;obtain⟨k,s,rfl,B,E,B9,q,b⟩:=hrel;have HG:=Ab E;clear E;have Bx:k*2000000001<=10000*2000000001:=nB _ (by omega);by_cases o:k<Z a
  .obtain⟨g,BT,n,v,H,Q,P,M,d0,d1⟩:=J5 (HS.kept b.2) k o;simp only[mu]at P;obtain⟨rfl,_,rfl⟩:=P;have j:=Ab (HT a[k] _ (mw o) (b.2.alloc (j1 #[O n,U H (Z v) Q] 104)));have d:=Ab (b.kept ((re [] wr).alloc (j1 #[O n,U H (Z v) Q] 104)));have u:=Aa AT a[k] (mw o);have r:Hid (TI (s++FK a[k].f++⟨#[10]⟩) ((a.drop (k+1)).map Eb.f)=R):=by
    have h:=Aa q;rw[mQ o,mU,TI]at h;exact h
   rw[M]at j u r;simp only[AM]at j u r;generalize FK ⟨n,v⟩=FT at j u r;clear M q b;(go_wp2_with fail);refine j.mono ?_;rintro _ w3 ⟨rfl,C⟩;have L:=Ab (OY (d.kept C) rfl FT (by omega));clear j C d;(go_wp2_with fail);refine L.mono ?_;clear L;rintro _ w4 ⟨rfl,m⟩;have A:=Ab (So m rfl 10 10 rfl (by rw[mH];omega));clear m;(go_wp2_with fail);refine A.mono ?_;clear A;rintro _ w5 ⟨rfl,m⟩;have b:=Ab m;clear m;go_wp2
   go_roundg (Z a-(k+1))
   case measure=>have:=Aa HG;omega
   case rel=>exact⟨k+1,_,by go_num,by omega,rfl,by rw[mH,mH];omega,r,b⟩
  .have HE:Hid (s=R):=by
    have h:=Aa q;rw[ni (by omega)]at h;exact h
   have d:=Ab (bB b rfl);rw[Aa HE]at d;clear b q;(go_wp2_with fail);refine d.mono ?_;clear d;rintro _ w4 ⟨rfl,D⟩;have HF:=Ab D;clear D;go_wp2;go_ret;exact⟨rfl,HF⟩
end Go.Proofs.YtoihbhenbmffcaaGreatDoor
namespace Go.Proofs.YtoihbhenbmffcaaGreatDoor
open Go.Shelf Go.RowKit
open Go.Proofs.Tryz
variable{P:Program}{a:Act}{Q:Exit->Act->ly->Prop}{o:Option Addr}{n:Nat}{w v u:ly}{z:ml}
def LN(N:Nat)(s:zA)(M:rc Nat)(w:ly):Prop:=
 ∃(p:ml) (ad:Option Addr) (cp:Nat),(p=j3 Y\/p=j3 (V ⟨N,0,Y⟩))/\AI w N [p,U ad s.size cp] 145/\oi w (N+1) 5 1 (U ad s.size cp) s.size (Lib.strCells s)/\M=N::(U ad s.size cp).ownBlock.toList
def LN.lt{N:Nat}{s:zA}{M:rc Nat}{w:ly}(h:LN N s M w):∀k∈M,N<=k/\k<w.heap.size:=by
 obtain⟨p,e,d,_,c,b,rfl⟩:=h;intro k a;rcases mA.1 a with rfl|a
 .exact⟨mP _,c.lt⟩
 .have:=b.lt k (by simpa using a);omega
def LN.kept{N:Nat}{s:zA}{M L:rc Nat}{w w':ly}(h:LN N s M w)(k:Ac L w w')(a:∀i∈M,i∉L):LN N s M w':=by
 obtain⟨p,g,d,b,e,c,rfl⟩:=h;exact⟨p,g,d,b,e.kept k (a N (by simp)),Ag c k (λi f=>a i (by simp[f])),rfl⟩
def LN.new(w:ly):LN w.heap.size q9 [w.heap.size] (w.alloc (j1 #[j3 Y,U Y 0 0] 145)):=
 ⟨j3 Y,Y,0,lo rfl,rf w [j3 Y,U Y 0 0] 145,mS _ _ _ _,rfl⟩
def am:Lays.n240 prog i8:={aU with}
def Ju(N:Nat)(p v:ml)(w:ly)(b:p=j3 Y\/p=j3 (V ⟨N,0,Y⟩))(h:AI w N [p,v] 145):
  Calls prog 125 #[j3 (V ⟨N,0,Y⟩)] w λe a=>e=kt (.tuple #[])/\AI a N [j3 (V ⟨N,0,Y⟩),v] 145/\Ac [N] w a:=by
 rcases b with rfl|rfl
 .refine(Any.Builder_copyCheck_fresh am jn.toX72 N w (h.cell 0) (by unfold AI at h;simp[World.shape?,h];rfl) (h.frozen 0)).mono ?_;rintro e a ⟨rfl,rfl⟩;exact⟨rfl,h.set 0 _,(re _ w).setCell (by simp) _⟩
 .refine(Any.Builder_copyCheck_used am jn.toX72 N w (h.cell 0)).mono ?_;rintro e a ⟨rfl,rfl⟩;exact⟨rfl,h,re _ _⟩
def ep(N:Nat)(s:zA)(M:rc Nat)(w w':ly):Prop:=∃M',LN N s M' w'/\Ac M w w'/\∀k∈M',(k∈M\/w.heap.size<=k)/\k<w'.heap.size
set_option maxRecDepth 100000
theorem UW(N:Nat)(s:zA)(M:rc Nat)(d:UInt8)(w:ly)(h:LN N s M w)(hl:s.size+1<=140737488355328):
  Calls prog 77 #[j3 (V ⟨N,0,Y⟩),X .u8 (d.toNat:Int)] w λe B=>e=kt .nilIface/\ep N (s++⟨#[d]⟩) M w B:=by
 obtain⟨P,T,C,G,Q⟩:=nC Tryz.yC;obtain⟨p,r,y,t,z,l,rfl⟩:=h;have n:=Ab (Ju N p _ w t z);have F:=l.lt;clear t z;go_enter func77,ntmps77;go_wp2_with fail
 refine n.mono ?_;rintro _ a ⟨rfl,b,f⟩;have A:=Ag l f (λi R v=>by simp at v;subst v;have:=(l.lt i R).1;omega);have L:=b.cell 1;have f1:=b.frozen 1;simp at L;have AR:=f.size;have AO:=b.lt;clear n F;go_wp2_with (at_builtin;refine mZ _ rfl (.tmp 11) (.tmp 13) _ rfl (N+1) 5 P _ 1 1 underlying143 T C G Q rfl (by omega) (U r s.size y) s.size (Lib.strCells s) rfl (A.alloc _) ⟨a.heap.size,0,Y⟩ 1 1 [X .u8 (d.toNat:Int)] rfl rfl (mW (m7 a _)) (by simp[Value.oneCell']) (by omega) (by unfold maxLen;omega) (by omega) (by simp;omega) (a.heap.size+1) (by simp) ?_;intro x u S o m I AB;have g:=(b.alloc (j1 #[X .u8 (d.toNat:Int)] 5)).grown m (λe=>by have:=(A.lt N e).1;omega);have D:=g.cell 1;have W:=g.frozen 1;simp at D)
 go_ret;refine⟨rfl,N::(U (V ⟨x,0,Y⟩) (s.size+1) u).ownBlock.toList,?_,?_,?_⟩
 .have j:(s++⟨#[d]⟩:zA).size=s.size+1:=by rw[mH];rfl
  refine⟨_,V ⟨x,0,Y⟩,u,lx rfl,by rw[j];exact g.set 1 _,?_,by rw[j]⟩;rw[j,If];exact Ah o (λh=>by have:=(o.lt _ h).1;simp at this;omega) _
 .have H:=((f.mono (N:=N::(U r s.size y).ownBlock.toList) (by simp)).alloc (j1 #[X .u8 (d.toNat:Int)] 5)).grown m (λq E=>lo (by simp[E]));exact H.setCell (lo (by simp)) _
 .intro k c;have Ax:a.heap.size<=S.heap.size:=by have:=m.size;simp at this;omega
  rcases mA.1 c with rfl|c
  .exact⟨lo (by simp),by simp;omega⟩
  .simp only[qX,Option.toList_some,my]at c;subst c;refine⟨?_,by simp;omega⟩;rcases I with h|h
   .exact lo (by simp[h])
   .exact lx (by omega)
def S8(w:ly)(j:Nat)(f:TypeId)(i:TypeInfo)(o:prog.info? 5=V i)(r:i.zero=V (X .u8 0))(p:i.size=1)(t:i.bytes=1)(v:ml)(n:Nat)(m:rc ml)(h:oi w j 5 1 v n m)(s:zA)(z:n+s.size<=140737488355328)(B:j<=w.heap.size):
  ∃c b,(Builtin.append_ #[143,9] f #[v,O s]).run prog w=.ok c b/\oi b j 5 1 c (n+s.size) (m++Lib.strCells s)/\w.grownBy b v.ownBlock/\∀g,c.ownBlock=V g->v.ownBlock=V g\/w.heap.size<=g:=by
 obtain⟨c,b,l,C,x,D⟩:=Lib.run_append_own_string (P:=prog) w j 143 9 f 5 i underlying143 underlying9 o r p t v n m h s (by unfold maxLen;omega) z B;refine⟨c,b,l,C,x,λg a=>?_⟩;rcases h.2 with⟨rfl,rfl⟩|⟨q,k,u,rfl,H,F,I,G,E,L⟩
 .by_cases y:s.size=0
  .rw[D.2 ⟨rfl,y⟩]at a;simp[qX]at a
  .have e:=run_append_nil_string (P:=prog) w 143 9 f 5 i (X .u8 0) underlying143 underlying9 o r s (by omega) (by omega) (by rw[t];omega);rw[l]at e;have d:=(Result.ok.inj e).1;rw[d]at a;simp[qX]at a;exact lx (by omega)
 .by_cases A:n+s.size<=k
  ·(have M:u.size=k:=by simpa using E);have e:=Lib.run_append_room_string (P:=prog) w 143 9 f 5 i underlying143 underlying9 o p q n k u F s A (by omega);rw[l]at e;have d:=(Result.ok.inj e).1;rw[d]at a;exact lo a
  .have e:=Lib.run_append_grow_string (P:=prog) w 143 9 f 5 i (X .u8 0) underlying143 underlying9 o r ⟨q,0,Y⟩ n k m (by rw[p];simpa using h.1) (h.cells (g:=q) rfl) s (by omega) (by omega) (by rw[t];exact growslice_fits (by omega) (by omega));rw[l]at e;have d:=(Result.ok.inj e).1;rw[d]at a;simp[qX]at a;exact lx (by omega)
def wpList_append_run{w d:ly}{b:Array Oper}{f:rc Oper}{o:Oper}(g:o.guard=Y)(c x:Operand)(t u:TypeId)(i:o.op=.call {callee:=.builtin .append,args:=#[c,x],argTypes:=#[t,u]}){v e y:ml}(l:a.eval c=v)(m:a.eval x=y)
  (j:(Builtin.append_ #[t,u] o.type #[v,y]).run P w=.ok e d) (h:wpList P b Q f (a.put o.dst e) d):wpList P b Q (o::f) a w:=by
 refine wpList_plain g λn k=>?_
 unfold Oper.wp execOp;simp only[i,resolve,invoke,builtin,qi,Sem.run_pure,Result.andThen_ok,List.map_toArray,mU,oH,l,m,j];exact k _ _ h
def Rx{N:Nat}{s x:zA}(D:oi w (N+1) 5 1 (U o s.size n) s.size (Lib.strCells s))(r:AI v N [j3 (V ⟨N,0,Y⟩),U o s.size n] 145)(l:Ac [N] w v)(q:oi v (N+1) 5 1 (U o s.size n) s.size (Lib.strCells s))
  (b:oi u (N+1) 5 1 z (s.size+x.size) (Lib.strCells s++Lib.strCells x)) (j:Ac (U o s.size n).ownBlock.toList v u) (p:∀g,z.ownBlock=V g->(U o s.size n).ownBlock=V g\/v.heap.size<=g):
  ep N (s++x) (N::(U o s.size n).ownBlock.toList) w (u.setCell ⟨N,1,Y⟩ z):=by
 have m:=r.kept j (λe=>by have:=(q.lt N (by simpa using e)).1;omega);have f:(s++x:zA).size=s.size+x.size:=mH;have B:=l.size;have E:=j.size;have A:=m.lt;obtain⟨c,d,rfl⟩:=Al b;refine⟨N::(U c (s.size+x.size) d).ownBlock.toList,?_,?_,?_⟩
 .refine⟨_,c,d,lx rfl,by rw[f];exact m.set 1 _,?_,by rw[f]⟩;rw[f,If];exact Ah b (λh=>by have:=(b.lt _ h).1;simp at this;omega) _
 .have t:=(l.mono (N:=N::(U o s.size n).ownBlock.toList) (by simp)).trans (j.mono (λi y=>no _ y));exact t.setCell (lo (by simp)) _
 .intro k a;rcases mA.1 a with rfl|a
  .exact⟨lo (by simp),by simp;omega⟩
  ·(have a:(U c (s.size+x.size) d).ownBlock=V k:=by simpa using a);have C:=(b.lt k a).2;refine⟨?_,by simp;omega⟩;rcases p k a with h|h
   .exact lo (by simp[h])
   .exact lx (by omega)
theorem XO(N:Nat)(s:zA)(M:rc Nat)(x:zA)(w:ly)(h:LN N s M w)(F:s.size+x.size<=140737488355328):
  Calls prog 75 #[j3 (V ⟨N,0,Y⟩),O x] w λe u=>e=kt (.tuple #[X .i64 x.size,.nilIface])/\ep N (s++x) M w u:=by
 obtain⟨C,I,v,A,E⟩:=nC Tryz.yC;obtain⟨p,S,cp,n,t,b,rfl⟩:=h;have l:=Ab (Ju N p _ w n t);clear n t;go_enter func75,ntmps75;go_wp2_with fail
 refine l.mono ?_;rintro _ k ⟨rfl,a,d⟩;have c:=Ag b d (λi G r=>by simp at r;subst r;have:=(b.lt i G).1;omega);have B:=a.cell 1;have Q:=a.frozen 1;simp at B;have R:=a.lt;obtain⟨P,w5,o,f,j,m⟩:=S8 k (N+1) 143 C I v A E _ _ _ c x F (by omega);obtain⟨T,W,rfl⟩:=Al f;have D:=Ab o;have H:=Ab (Rx b a d c f ((re _ k).grown j (λq z=>lo (by simp[z]))) m);have g:=a.grown j (λe=>by have:=(c.lt N e).1;omega);have y:=g.cell 1;have L:=g.frozen 1;simp at y;clear l b a d c f j m g o;go_wp2_with (at_builtin;refine wpList_append_run rfl (.tmp 12) (.tmp 13) 143 9 rfl rfl rfl D ?_)
 go_ret2;exact⟨rfl,H⟩
theorem QU(N n:Nat)(a:Option Addr)(b:Nat)(c:rc ml)(d:UInt8)(w:ly)(x:oi w (N+1) 5 1 (U a n b) n c)(j:d.toNat<=127)(C:n+1<=140737488355328)(H:N<w.heap.size):
  Calls prog 143 #[U a n b,X .i32 (d.toNat:Int)] w λe f=>∃g i,e=kt (U (V ⟨g,0,Y⟩) (n+1) i)/\oi f (N+1) 5 1 (U (V ⟨g,0,Y⟩) (n+1) i) (n+1) (c++[X .u8 (d.toNat:Int)])/\Ac (U a n b).ownBlock.toList w f/\((U a n b).ownBlock=V g\/w.heap.size<=g):=by
 obtain⟨s,z,k,p,t⟩:=nC Tryz.yC;obtain⟨D,l⟩:∃D:Nat,d.toNat=D:=⟨_,rfl⟩;rw[l]at j⊢;have E:IntKind.u32.wrap (D:Int)=D:=by rw[IntKind.wrap_u32];omega
 have A:IntKind.u8.wrap (D:Int)=D:=by rw[IntKind.wrap_u8];omega
 have F:(D:Int)<=127:=by omega
 go_enter func143,ntmps143;go_wp2_with (at_builtin;refine mZ _ rfl (.tmp 8) (.tmp 11) _ rfl (N+1) 5 s _ 1 1 underlying143 z k p t rfl (by omega) (U a n b) n c rfl (x.alloc _) ⟨w.heap.size,0,Y⟩ 1 1 [X .u8 (D:Int)] rfl rfl (mW (m7 w _)) (by simp[Value.oneCell']) (by omega) (by unfold maxLen;omega) (by omega) (by simp;omega) (w.heap.size+1) (by simp) ?_;intro v u G o y r B)
 go_ret;exact⟨v,u,rfl,o,((re _ w).alloc _).grown y (λq m=>lo (by simp[m])),r.imp id (λh=>by omega)⟩
theorem bU(N:Nat)(s:zA)(M:rc Nat)(d:UInt8)(w:ly)(h:LN N s M w)(H:d.toNat<=127)(T:s.size+1<=140737488355328):
  Calls prog 95 #[j3 (V ⟨N,0,Y⟩),X .i32 (d.toNat:Int)] w λe L=>(∃v,e=kt v)/\ep N (s++⟨#[d]⟩) M w L:=by
 obtain⟨p,j,k,E,G,o,rfl⟩:=h;have A:=Ab (Ju N p _ w E G);clear E G;go_enter func95,ntmps95;go_wp2_with fail
 refine A.mono ?_;rintro _ u ⟨rfl,c,t⟩;have r:=Ag o t (λi W F=>by simp at F;subst F;have:=(o.lt i W).1;omega);have R:=c.cell 1;simp at R;have S:=c.lt;have y:=Ab (QU N s.size j k (Lib.strCells s) d u r H T S);have z:Hid (∀a g b,oi a (N+1) 5 1 (U (V ⟨g,0,Y⟩) (s.size+1) b) (s.size+1) (Lib.strCells s++[X .u8 (d.toNat:Int)])->Ac (U j s.size k).ownBlock.toList u a->((U j s.size k).ownBlock=V g\/u.heap.size<=g)->ep N (s++⟨#[d]⟩) (N::(U j s.size k).ownBlock.toList) w (a.setCell ⟨N,1,Y⟩ (U (V ⟨g,0,Y⟩) (s.size+1) b))/\AI a N [j3 (V ⟨N,0,Y⟩),U j s.size k] 145):=by
  intro a g b m f n;exact⟨Rx (x:=⟨#[d]⟩) o c t r m f (λq B=>by simp[qX]at B;subst B;exact n),c.kept f (λe=>by have:=(r.lt N (by simpa using e)).1;omega)⟩
 generalize(d.toNat:Int)=D at y z⊢;clear A o c t r;go_wp2_with fail
 refine y.mono ?_;rintro _ a ⟨g,b,rfl,m,f,n⟩;obtain⟨C,l⟩:=z a g b m f n;have P:=l.cell 1;have yf:=l.frozen 1;simp at P;have Q:=(l.set 1 (U (V ⟨g,0,Y⟩) (s.size+1) b)).cell 1;simp at Q;have I:=Ab C;clear C l z y m f n;go_wp2;go_ret2;exact⟨⟨_,rfl⟩,I⟩
def Xx(N:Nat)(s:zA)(M:rc Nat)(w:ly)(h:LN N s M w):
  Calls prog 78 #[j3 (V ⟨N,0,Y⟩)] w λe a=>e=kt (O s)/\Below N w a/\Lib.OthersKept 5 (V N) w a:=by
 obtain⟨p,l,i,f,c,b,rfl⟩:=h;have d:Lib.BuilderAtF 145 5 N N p (Lib.byteCells s.data.toList) w:=by
  have k:Z (Lib.byteCells s.data.toList)=s.size:=by rw[Lib.byteCells_length];rfl
  refine⟨mP _,U l s.size i,c,?_,λe=>by have:=(b.lt N e).1;omega⟩;rw[k];exact World.ownsRowF_of (Ak b (by omega))
 refine(P3 N N s.data.toList w ?_ (Nat.le_of_lt c.lt)).mono ?_
 .rcases f with rfl|rfl
  .exact lo d
  .exact lx d
 .rintro e a ⟨rfl,_,g,j⟩;exact⟨by simp,g,j⟩
