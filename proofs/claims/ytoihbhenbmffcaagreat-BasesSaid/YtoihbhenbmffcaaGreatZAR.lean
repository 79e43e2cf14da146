import Derived.Shelf.Strings.BuilderK
import Derived.Test.YtoihbhenbmffcaaGreatZAO
set_option linter.all false
set_option maxHeartbeats 0
open List renaming length->Z
open Option renaming none->Y,some->V
open Go.Value renaming slice->U,int->X,string->O,pointer->j2
open Go.Ending renaming returned->j3
open Go renaming World->kq
open ByteArray renaming empty->kB
namespace Go.Proofs.YtoihbhenbmffcaaGreat
open Go.Shelf Go.RowKit
open Go.Proofs.Tryz
def dA:Ren:=⟨fun|166=>54|167=>56|169=>57|240=>91|276=>126|n=>n,fun|37=>126|70=>125|72=>128|75=>130|80=>35|127=>189|164=>221|n=>n,fun|n=>n⟩
theorem cF:Lays.n166 prog dA:=⟨by kernel_rfl,func54.trans (congrArg V (by kernel_rfl)),func91.trans (congrArg V (by kernel_rfl)),func126.trans (congrArg V (by kernel_rfl)),underlying0,isAgg0,sizeOf0,zeroValue0,underlying3,isAgg3,sizeOf3,zeroValue3,underlying4,isAgg4,sizeOf4,zeroValue4,underlying9,isAgg9,sizeOf9,zeroValue9,underlying20,isAgg20,sizeOf20,zeroValue20,underlying126,isAgg126,sizeOf126,zeroValue126,underlying125,isAgg125,sizeOf125,zeroValue125,underlying128,isAgg128,sizeOf128,zeroValue128,underlying130,isAgg130,sizeOf130,zeroValue130,underlying221,isAgg221,sizeOf221,zeroValue221⟩
theorem bW:Lays.n167 prog dA:=⟨by kernel_rfl,func56.trans (congrArg V (by kernel_rfl)),func91.trans (congrArg V (by kernel_rfl)),func126.trans (congrArg V (by kernel_rfl)),underlying0,isAgg0,sizeOf0,zeroValue0,underlying4,isAgg4,sizeOf4,zeroValue4,underlying5,isAgg5,sizeOf5,zeroValue5,underlying9,isAgg9,sizeOf9,zeroValue9,underlying20,isAgg20,sizeOf20,zeroValue20,underlying126,isAgg126,sizeOf126,zeroValue126,underlying125,isAgg125,sizeOf125,zeroValue125,underlying128,isAgg128,sizeOf128,zeroValue128,underlying130,isAgg130,sizeOf130,zeroValue130,underlying221,isAgg221,sizeOf221,zeroValue221⟩
theorem bZ:Lays.n169 prog dA:=⟨by kernel_rfl,func57.trans (congrArg V (by kernel_rfl)),underlying0,isAgg0,sizeOf0,zeroValue0,underlying3,isAgg3,sizeOf3,zeroValue3,underlying9,isAgg9,sizeOf9,zeroValue9,underlying126,isAgg126,sizeOf126,zeroValue126,underlying125,isAgg125,sizeOf125,zeroValue125,underlying128,isAgg128,sizeOf128,zeroValue128,underlying189,isAgg189,sizeOf189,zeroValue189⟩
theorem el:Builder.Extra prog dA:={sizeBuilder:=by kernel_rfl,liesBuilder:=by kernel_rfl,t5:=underlying5,a5:=isAgg5,z5:=sizeOf5,v5:=zeroValue5,infoByte:=by kernel_rfl,cellsByte:=by kernel_rfl,sizeByte:=by kernel_rfl,neB5:=by decide}
def X5(B b:Nat)(a:kJ Value)(c:Int)(w:kq)(h:Lib.IsBuilderF 128 5 B b a w)(g:Z a+1<=140737488355328)(f:B<=w.heap.size):
  Calls prog 56 #[j2 (V ⟨b,0,Y⟩),X .u8 c] w λe d=>e=j3 .nilIface/\(Lib.BuilderAtF 128 5 B b (j2 (V ⟨b,0,Y⟩)) (a++[X .u8 c]) d/\Below B w d/\Lib.OthersKept 5 (V b) w d):=
 Any.Builder_WriteByte_k bW el B b a c w h g f
def Zy(B b:Nat)(a:kJ Value)(s:zA)(w:kq)(h:Lib.IsBuilderF 128 5 B b a w)(f:Z a+s.size<=140737488355328)(d:B<=w.heap.size):
  Calls prog 54 #[j2 (V ⟨b,0,Y⟩),O s] w λe c=>e=j3 (.tuple #[X .i64 s.size,.nilIface])/\(Lib.BuilderAtF 128 5 B b (j2 (V ⟨b,0,Y⟩)) (a++Lib.strCells s) c/\Below B w c/\Lib.OthersKept 5 (V b) w c):=
 Any.Builder_WriteString_k cF el B b a s w h f d
def TG(B b:Nat)(l:kJ UInt8)(w:kq)(h:Lib.IsBuilderF 128 5 B b (Lib.byteCells l) w)(c:B<=w.heap.size):
  Calls prog 57 #[j2 (V ⟨b,0,Y⟩)] w λe a=>e=j3 (O ⟨l.toArray⟩)/\(Lib.IsBuilderF 128 5 B b (Lib.byteCells l) a/\Below B w a/\Lib.OthersKept 5 (V b) w a):=
 Any.Builder_String_any_k bZ el B b l w h c
end Go.Proofs.YtoihbhenbmffcaaGreat
namespace Go.Proofs.YtoihbhenbmffcaaGreat
open Go.RowKit Go.Proofs.Tryz
variable{v w u:kq}{s:zA}{n:Nat}
def dF(w0:kq)(s:zA)(w:kq):Prop:=Lib.IsBuilderF 128 5 w0.heap.size w0.heap.size (Lib.strCells s) w/\Ac [] w0 w
def dF.new(w:kq):dF w kB (w.alloc (.cells #[j2 Y,U Y 0 0] 128)):=
 ⟨Lib.IsBuilderF.of (Lib.fresh_isBuilder 128 5 w),(kL [] w).alloc _⟩
def Lb(k:Ac [] v w)(h:Below v.heap.size w u):Ac [] v u:=
 ⟨h.os.trans k.os,h.tape.trans k.tape,h.output.trans k.output,gQ k.size h.size,λi a b=>(h.block i a).trans (k.block i a b)⟩
def dF.kept{a w w':kq}(h:dF a s w)(k:Ac [] w w'):dF a s w':=by
 have b:∀p,Lib.BuilderAtF 128 5 a.heap.size a.heap.size p (Lib.strCells s) w->Lib.BuilderAtF 128 5 a.heap.size a.heap.size p (Lib.strCells s) w':=by
  rintro p ⟨m,v,c,d,l⟩;refine⟨m,v,(k.block _ (gB.1 c).1 (by simp)).trans c,⟨d.1,?_⟩,l⟩;rcases d.2 with r|⟨g,n,i,f,j,o,e,q⟩
  .exact .inl r
  .exact .inr ⟨g,n,i,f,j,o,(k.block g (gB.1 e).1 (by simp)).trans e,q⟩
 exact⟨h.1.imp (b _) (b _),h.2.trans k⟩
def LY(s x:zA):Lib.strCells (s++x)=Lib.strCells s++Lib.strCells x:=by simp[Lib.strCells,ke]
def ML(h:dF v s w)(f:v.heap.size=n)(x:zA)(b:s.size+x.size<=140737488355328):
  Calls prog 54 #[j2 (V ⟨n,0,Y⟩),O x] w λe a=>e=j3 (.tuple #[X .i64 x.size,.nilIface])/\dF v (s++x) a:=by
 subst f;refine(Zy _ _ _ x w h.1 (by rw[Lib.strCells_length];exact b) h.2.size).mono ?_;rintro e a ⟨rfl,d,c,_⟩;refine⟨rfl,Or.inr ?_,Lb h.2 c⟩;rw[LY];exact d
def Qg(h:dF v s w)(j:v.heap.size=n)(d:UInt8)(c:Int)(b:(d.toNat:Int)=c)(f:s.size+1<=140737488355328):
  Calls prog 56 #[j2 (V ⟨n,0,Y⟩),X .u8 c] w λe a=>e=j3 .nilIface/\dF v (s++⟨#[d]⟩) a:=by
 subst j b;refine(X5 _ _ _ _ w h.1 (by rw[Lib.strCells_length];exact f) h.2.size).mono ?_;rintro e a ⟨rfl,i,g,_⟩;refine⟨rfl,Or.inr ?_,Lb h.2 g⟩;rw[LY];exact i
def XB(h:dF v s w)(c:v.heap.size=n):
  Calls prog 57 #[j2 (V ⟨n,0,Y⟩)] w λe a=>e=j3 (O s)/\Ac [] v a:=by
 subst c;refine(TG _ _ s.data.toList w h.1 h.2.size).mono ?_;rintro e a ⟨rfl,_,b,_⟩;exact⟨by simp,Lb h.2 b⟩
def NF:∀(k:Nat) (s:zA),(E7 k s).size<=s.size
 |0,s=>fJ _
 |k+1,s=>by
  rw[E7];split
  .have:=NF k (s.extract 1 s.size);rw[iA]at this;omega
  .exact fJ _
def KT(s:zA):(BN s).size<=s.size:=by
 unfold BN;split
 .exact NF _ _
 .exact fJ _
def L3:∀(l:kJ zA) (s:zA) (b:Bool),(∀x∈l,x.size<=1000000)->(Dq s b l).size<=s.size+Z l*1000001
 |[],s,b,_=>by simp[Dq]
 |x::l,s,b,h=>by
  rw[Dq];have d:=L3 l (s++(if b then⟨#[44]⟩else⟨#[40]⟩)++BN x) true (λy c=>h y (gu _ c));have e:=KT x;have f:=h x (gJ ..);have a:(if b then⟨#[44]⟩else⟨#[40]⟩:zA).size=1:=by cases b<;>rfl
  rw[fV,fV,a]at d;rw[fD];omega
def V4{p:Cg}(a:Z p.zC<=1000)(c:∀x∈p.zC,x.size<=1000000)(f:p.name.size<=1000000):(Fi p).size<=2000000000:=by
 unfold Fi;have d:=L3 p.zC p.name false c;have b:(⟨#[41,46]⟩:zA).size=2:=rfl;have e:Z p.zC*1000001<=1000*1000001:=gK _ a;rw[fV,b];omega
set_option maxRecDepth 100000
theorem N7(p:DF)(w:kq)(h:Dc w p)(hl:Z p.f.zC<=1000)(M:∀x∈p.f.zC,x.size<=1000000)(Bx:p.f.name.size<=1000000):
  Calls prog 55 #[.agg (AI p).toArray] w λe Q=>e=j3 (O (Fi p.f))/\Ac [] w Q:=by
 obtain⟨⟨n,a⟩,tv⟩:=p;have Ax:Hid (∀x∈a,x.size<=1000000):=M;simp only at hl Bx;obtain⟨l,m,e⟩:=Aj h;simp only at e;subst e;have HA:Hid (w.ownsRow 0 98 1 (U l (Z a) m) (Z a) (a.flatMap Ah)):=h;obtain⟨R,D⟩:=kK (Fi ⟨n,a⟩);rw[D];have L:Hid (Dq n (decide (0<0)) (a.drop 0)++⟨#[41,46]⟩=R):=D;have B:=Ab (kN w [O n,U l (Z a) m] 56);have C:=Ab ((kL [] w).alloc (.cells [O n,U l (Z a) m].toArray 56));have j:Hid ((w.alloc (.cells [O n,U l (Z a) m].toArray 56)).heap.size=w.heap.size+1):=by show _=_;simp
 have b:=Ab (ML (dF.new (w.alloc (.cells [O n,U l (Z a) m].toArray 56))) (Aa j) n (by have:ByteArray.empty.size=0:=rfl;omega));clear h D M;simp only[AI];go_enter func55,ntmps55;go_wp2_with fail
 refine b.mono ?_;clear b;rintro _ w2 ⟨rfl,c⟩;rw[ByteArray.empty_append]at c;have b:=Ab c;clear c;have z:=(B.kept b.2).cell 1;simp at z;generalize w.alloc (.cells [O n,U l (Z a) m].toArray 56)=w1 at B C j b;generalize w.heap.size=N at B j z⊢;go_wp2
 go_loopg [12] (Z a) (λgk i wr=>∃(k:Nat) (s:zA),i=X .i64 k/\k<=Z a/\gk=Z a-k/\s.size<=1000000+k*1000001/\Hid (Dq s (decide (0<k)) (a.drop k)++⟨#[41,46]⟩=R)/\Hid (dF w1 s wr))
 case atStart=>exact⟨0,n,rfl,by omega,rfl,by omega,L,b⟩
 case round=>
  clear L b z;obtain⟨k,s,rfl,hk,I,EM,t,b⟩:=hrel;have F:=Ab I;clear I;have BT:k*1000001<=1000*1000001:=gK _ (by omega);by_cases u:k<Z a
  .obtain⟨g,CL,P,d0⟩:=Lr (Ad HA (C.trans b.2)) k u;simp only[fg]at P;obtain⟨rfl,_,rfl⟩:=P;have hx:=Aa Ax a[k] (fj u);have hy:=KT a[k];have o:Hid (Dq (s++(if decide (0<k)then⟨#[44]⟩else⟨#[40]⟩)++BN a[k]) true (a.drop (k+1))++⟨#[41,46]⟩=R):=by
    have h:=Aa t;rw[fQ u,Dq]at h;exact h
   have A:=Ab (λw=>Ol a[k] w hx);obtain⟨T,G⟩:=kK (BN a[k]);rw[G]at hy o A;have CW:(⟨#[40]⟩:zA).size=1:=rfl;have EK:(⟨#[44]⟩:zA).size=1:=rfl;clear t G;by_cases v:k=0
   ·(have S:((k:Int)==0)=true:=by rw[v];rfl);have y:Hid (Dq (s++⟨#[40]⟩++T) (decide (0<k+1)) (a.drop (k+1))++⟨#[41,46]⟩=R):=by
     have h:=Aa o;rw[ic (show¬0<k by omega)]at h;rw[ix (show 0<k+1 by omega)];exact h
    have d:=Ab (Qg b j 40 40 rfl (by omega));clear o v b;(go_wp2_with fail);refine d.mono ?_;clear d;rintro _ r ⟨rfl,c⟩;have b:=Ab c;clear c;have d:=Ab (ML b j T (by rw[fV];omega));have q:=Ab (A r);(go_wp2_with fail);refine q.mono ?_;rintro _ _ ⟨rfl,rfl⟩;clear q;(go_wp2_with fail);refine d.mono ?_;clear d b;rintro _ E ⟨rfl,c⟩;have b:=Ab c;clear c;go_wp2
    go_roundg (Z a-(k+1))
    case measure=>have:=Aa F;omega
    case rel=>exact⟨k+1,_,by go_num,by omega,rfl,by rw[fV,fV];omega,y,b⟩
   ·(have S:((k:Int)==0)=false:=by rw[gm];omega);have y:Hid (Dq (s++⟨#[44]⟩++T) (decide (0<k+1)) (a.drop (k+1))++⟨#[41,46]⟩=R):=by
     have h:=Aa o;rw[ix (show 0<k by omega)]at h;rw[ix (show 0<k+1 by omega)];exact h
    have d:=Ab (Qg b j 44 44 rfl (by omega));clear o v b;(go_wp2_with fail);refine d.mono ?_;clear d;rintro _ r ⟨rfl,c⟩;have b:=Ab c;clear c;have d:=Ab (ML b j T (by rw[fV];omega));have q:=Ab (A r);(go_wp2_with fail);refine q.mono ?_;rintro _ _ ⟨rfl,rfl⟩;clear q;(go_wp2_with fail);refine d.mono ?_;clear d b;rintro _ E ⟨rfl,c⟩;have b:=Ab c;clear c;go_wp2
    go_roundg (Z a-(k+1))
    case measure=>have:=Aa F;omega
    case rel=>exact⟨k+1,_,by go_num,by omega,rfl,by rw[fV,fV];omega,y,b⟩
  .have HE:Hid (s++⟨#[41,46]⟩=R):=by
    have h:=Aa t;rw[gr (by omega)]at h;exact h
   have EY:(⟨#[41,46]⟩:zA).size=2:=rfl;have d:=Ab (ML b j ⟨#[41,46]⟩ (by omega));clear b t;(go_wp2_with fail);refine d.mono ?_;clear d;rintro _ r ⟨rfl,c⟩;rw[Aa HE]at c;have d:=Ab (XB c j);clear c;(go_wp2_with fail);refine d.mono ?_;clear d;rintro _ E ⟨rfl,H⟩;have W:=Ab (C.trans H);clear H;go_wp2;go_ret;exact⟨rfl,W⟩
theorem NG(S z:Nat)(F:Option Addr)(I:Nat)(a:kJ DF)(w:kq)(W:w.cell? ⟨S,z,Y⟩=V (U F (Z a) I))(h:Iw w (U F (Z a) I) a)(EX:Z a<=10000)
  (l:∀p∈a,p.f.name.size<=1000000/\∀x∈p.f.zC,x.size<=1000000):
  Calls prog 27 #[j2 (V ⟨S,z,Y⟩)] w λe t=>e=j3 (O (Ra kB (a.map DF.f)))/\Ac [] w t:=by
 have HS:=Ab h;have HT:Hid (∀(p:DF) wr,p∈a->Ac [] w wr->Calls prog 55 #[.agg (AI p).toArray] wr λe t=>e=j3 (O (Fi p.f))/\Ac [] wr t):=λp wr c B=>N7 p wr ((h.each p c).1.kept B) (h.each p c).2 (l p c).2 (l p c).1
 have Bx:Hid (∀p∈a,(Fi p.f).size<=2000000000):=λp c=>V4 (h.each p c).2 (l p c).2 (l p c).1
 obtain⟨R,y⟩:=kK (Ra kB (a.map DF.f));rw[y];have G:Hid (Ra kB ((a.drop 0).map DF.f)=R):=y;have b:=Ab (dF.new w);have BA:=Ab W;clear h y l W;have EM:(⟨#[10]⟩:zA).size=1:=rfl;have c1:=b.2.cellAt BA;obtain⟨N,T⟩:=kK w.heap.size;have HN:=Ab T;clear T;go_enter func27,ntmps27;go_wp2
 go_loopg [11] (Z a) (λgk i wr=>∃(k:Nat) (s:zA),i=X .i64 k/\k<=Z a/\gk=Z a-k/\s.size<=k*2000000001/\Hid (Ra s ((a.drop k).map DF.f)=R)/\Hid (dF w s wr))
 case atStart=>exact⟨0,kB,rfl,by omega,rfl,by simp,G,b⟩
 case round=>
  clear G b c1;obtain⟨k,s,rfl,B,E,EY,q,b⟩:=hrel;have HG:=Ab E;clear E;have CC:k*2000000001<=10000*2000000001:=gK _ (by omega);by_cases o:k<Z a
  .obtain⟨g,EK,n,v,H,Q,P,M,d0,d1⟩:=JW (HS.kept b.2) k o;simp only[fg]at P;obtain⟨rfl,_,rfl⟩:=P;have j:=Ab (HT a[k] _ (fj o) (b.2.alloc (.cells #[O n,U H (Z v) Q] 56)));have d:=Ab (b.kept ((kL [] wr).alloc (.cells #[O n,U H (Z v) Q] 56)));have u:=Aa Bx a[k] (fj o);have r:Hid (Ra (s++Fi a[k].f++⟨#[10]⟩) ((a.drop (k+1)).map DF.f)=R):=by
    have h:=Aa q;rw[fQ o,fS,Ra]at h;exact h
   rw[M]at j u r;simp only[AI]at j u r;generalize Fi ⟨n,v⟩=FT at j u r;clear M q b;(go_wp2_with fail);refine j.mono ?_;rintro _ w3 ⟨rfl,C⟩;have L:=Ab (ML (d.kept C) rfl FT (by omega));clear j C d;(go_wp2_with fail);refine L.mono ?_;clear L;rintro _ w4 ⟨rfl,m⟩;have A:=Ab (Qg m rfl 10 10 rfl (by rw[fV];omega));clear m;(go_wp2_with fail);refine A.mono ?_;clear A;rintro _ w5 ⟨rfl,m⟩;have b:=Ab m;clear m;go_wp2
   go_roundg (Z a-(k+1))
   case measure=>have:=Aa HG;omega
   case rel=>exact⟨k+1,_,by go_num,by omega,rfl,by rw[fV,fV];omega,r,b⟩
  .have HE:Hid (s=R):=by
    have h:=Aa q;rw[gr (by omega)]at h;exact h
   have d:=Ab (XB b rfl);rw[Aa HE]at d;clear b q;(go_wp2_with fail);refine d.mono ?_;clear d;rintro _ w4 ⟨rfl,D⟩;have HF:=Ab D;clear D;go_wp2;go_ret;exact⟨rfl,HF⟩
