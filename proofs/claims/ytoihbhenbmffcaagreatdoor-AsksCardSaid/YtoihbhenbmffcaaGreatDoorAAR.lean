import Derived.Shelf.Strings.BuilderK
import Derived.Test.YtoihbhenbmffcaaGreatDoorAAO
set_option linter.all false
set_option maxHeartbeats 0
open Option renaming none->Y,some->V
open Go.Value renaming slice->U,int->X,string->O,pointer->m2,ownBlock->pI
open Go.Ending renaming returned->oa
open Or renaming inl->oi,inr->oj
open Go renaming World->py,Value->p5
open Go.World renaming ownsRow->p9
namespace Go.Proofs.YtoihbhenbmffcaaGreatDoor
open Go.Shelf Go.RowKit
open Go.Proofs.Tryz
def gZ:Ren:=⟨fun|166=>75|167=>77|169=>78|240=>125|276=>168|n=>n,fun|37=>143|70=>142|72=>145|75=>147|80=>50|127=>223|164=>272|n=>n,fun|n=>n⟩
theorem Z7:Lays.n166 prog gZ:=⟨by kernel_rfl,func75.trans (congrArg V (by kernel_rfl)),func125.trans (congrArg V (by kernel_rfl)),func168.trans (congrArg V (by kernel_rfl)),underlying0,isAgg0,sizeOf0,zeroValue0,underlying3,isAgg3,sizeOf3,zeroValue3,underlying4,isAgg4,sizeOf4,zeroValue4,underlying9,isAgg9,sizeOf9,zeroValue9,underlying20,isAgg20,sizeOf20,zeroValue20,underlying143,isAgg143,sizeOf143,zeroValue143,underlying142,isAgg142,sizeOf142,zeroValue142,underlying145,isAgg145,sizeOf145,zeroValue145,underlying147,isAgg147,sizeOf147,zeroValue147,underlying272,isAgg272,sizeOf272,zeroValue272⟩
theorem gF:Lays.n169 prog gZ:=⟨by kernel_rfl,func78.trans (congrArg V (by kernel_rfl)),underlying0,isAgg0,sizeOf0,zeroValue0,underlying3,isAgg3,sizeOf3,zeroValue3,underlying9,isAgg9,sizeOf9,zeroValue9,underlying143,isAgg143,sizeOf143,zeroValue143,underlying142,isAgg142,sizeOf142,zeroValue142,underlying145,isAgg145,sizeOf145,zeroValue145,underlying223,isAgg223,sizeOf223,zeroValue223⟩
theorem io:Builder.Extra prog gZ:={sizeBuilder:=by kernel_rfl,liesBuilder:=by kernel_rfl,t5:=underlying5,a5:=isAgg5,z5:=sizeOf5,v5:=zeroValue5,infoByte:=by kernel_rfl,cellsByte:=by kernel_rfl,sizeByte:=by kernel_rfl,neB5:=by decide}
def Po(B b:Nat)(l:pM UInt8)(w:py)(h:Lib.IsBuilderF 145 5 B b (Lib.byteCells l) w)(c:B<=w.heap.size):
  Calls prog 78 #[m2 (V ⟨b,0,Y⟩)] w λe a=>e=oa (O ⟨l.toArray⟩)/\(Lib.IsBuilderF 145 5 B b (Lib.byteCells l) a/\Below B w a/\Lib.OthersKept 5 (V b) w a):=
 Any.Builder_String_any_k gF io B b l w h c
end Go.Proofs.YtoihbhenbmffcaaGreatDoor
namespace Go.Proofs.YtoihbhenbmffcaaGreatDoor
open Go.RowKit Go.Proofs.Tryz
variable{v w u:py}
def Ic(k:Ac [] v w)(h:Below v.heap.size w u):Ac [] v u:=
 ⟨h.os.trans k.os,h.tape.trans k.tape,h.output.trans k.output,mp k.size h.size,λi a b=>(h.block i a).trans (k.block i a b)⟩
def Hi(s x:zA):Lib.strCells (s++x)=Lib.strCells s++Lib.strCells x:=by simp[Lib.strCells,po]
end Go.Proofs.YtoihbhenbmffcaaGreatDoor
namespace Go.Proofs.YtoihbhenbmffcaaGreatDoor
open Go.Shelf Go.RowKit
open Go.Proofs.Tryz
variable{P:Program}{a:Act}{Q:Exit->Act->py->Prop}{o:Option Addr}{n:Nat}{w v u:py}{z:p5}
def KU(N:Nat)(s:zA)(M:pM Nat)(w:py):Prop:=
 ∃(p:p5) (ad:Option Addr) (cp:Nat),(p=m2 Y\/p=m2 (V ⟨N,0,Y⟩))/\AF w N [p,U ad s.size cp] 145/\p9 w (N+1) 5 1 (U ad s.size cp) s.size (Lib.strCells s)/\M=N::(U ad s.size cp).ownBlock.toList
def KU.lt{N:Nat}{s:zA}{M:pM Nat}{w:py}(h:KU N s M w):∀k∈M,N<=k/\k<w.heap.size:=by
 obtain⟨p,e,d,_,c,b,rfl⟩:=h;intro k a;rcases kZ.1 a with rfl|a
 .exact⟨lC _,c.lt⟩
 .have:=b.lt k (by simpa using a);omega
def KU.kept{N:Nat}{s:zA}{M L:pM Nat}{w w':py}(h:KU N s M w)(k:Ac L w w')(a:∀i∈M,i∉L):KU N s M w':=by
 obtain⟨p,g,d,b,e,c,rfl⟩:=h;exact⟨p,g,d,b,e.kept k (a N (by simp)),Ai c k (λi f=>a i (by simp[f])),rfl⟩
def KU.new(w:py):KU w.heap.size ByteArray.empty [w.heap.size] (w.alloc (.cells #[m2 Y,U Y 0 0] 145)):=
 ⟨m2 Y,Y,0,oi rfl,pP w [m2 Y,U Y 0 0] 145,lH _ _ _ _,rfl⟩
def ZF:Lays.n240 prog gZ:={Z7 with}
def I0(N:Nat)(p v:p5)(w:py)(b:p=m2 Y\/p=m2 (V ⟨N,0,Y⟩))(h:AF w N [p,v] 145):
  Calls prog 125 #[m2 (V ⟨N,0,Y⟩)] w λe a=>e=oa (.tuple #[])/\AF a N [m2 (V ⟨N,0,Y⟩),v] 145/\Ac [N] w a:=by
 rcases b with rfl|rfl
 .refine(Any.Builder_copyCheck_fresh ZF io.toX72 N w (h.cell 0) (by unfold AF at h;simp[World.shape?,h];rfl) (h.frozen 0)).mono ?_;rintro e a ⟨rfl,rfl⟩;exact⟨rfl,h.set 0 _,(pO _ w).setCell (by simp) _⟩
 .refine(Any.Builder_copyCheck_used ZF io.toX72 N w (h.cell 0)).mono ?_;rintro e a ⟨rfl,rfl⟩;exact⟨rfl,h,pO _ _⟩
def dv(N:Nat)(s:zA)(M:pM Nat)(w w':py):Prop:=∃M',KU N s M' w'/\Ac M w w'/\∀k∈M',(k∈M\/w.heap.size<=k)/\k<w'.heap.size
set_option maxRecDepth 100000
theorem Ur(N:Nat)(s:zA)(M:pM Nat)(d:UInt8)(w:py)(h:KU N s M w)(hl:s.size+1<=140737488355328):
  Calls prog 77 #[m2 (V ⟨N,0,Y⟩),X .u8 (d.toNat:Int)] w λe B=>e=oa .nilIface/\dv N (s++⟨#[d]⟩) M w B:=by
 obtain⟨P,T,C,G,Q⟩:=mg Tryz.z7;obtain⟨p,r,y,t,z,l,rfl⟩:=h;have n:=Ab (I0 N p _ w t z);have F:=l.lt;clear t z;go_enter func77,ntmps77;go_wp2_with fail
 refine n.mono ?_;rintro _ a ⟨rfl,b,f⟩;have A:=Ai l f (λi R v=>by simp at v;subst v;have:=(l.lt i R).1;omega);have L:=b.cell 1;have f1:=b.frozen 1;simp at L;have AT:=f.size;have AO:=b.lt;clear n F;go_wp2_with (at_builtin;refine lG _ rfl (.tmp 11) (.tmp 13) _ rfl (N+1) 5 P _ 1 1 underlying143 T C G Q rfl (by omega) (U r s.size y) s.size (Lib.strCells s) rfl (A.alloc _) ⟨a.heap.size,0,Y⟩ 1 1 [X .u8 (d.toNat:Int)] rfl rfl (lI (lP a _)) (by simp[Value.oneCell']) (by omega) (by unfold maxLen;omega) (by omega) (by simp;omega) (a.heap.size+1) (by simp) ?_;intro x u S o m I AB;have g:=(b.alloc (.cells #[X .u8 (d.toNat:Int)] 5)).grown m (λe=>by have:=(A.lt N e).1;omega);have D:=g.cell 1;have W:=g.frozen 1;simp at D)
 go_ret;refine⟨rfl,N::(U (V ⟨x,0,Y⟩) (s.size+1) u).ownBlock.toList,?_,?_,?_⟩
 .have j:(s++⟨#[d]⟩:zA).size=s.size+1:=by rw[lh];rfl
  refine⟨_,V ⟨x,0,Y⟩,u,oj rfl,by rw[j];exact g.set 1 _,?_,by rw[j]⟩;rw[j,Hi];exact Ag o (λh=>by have:=(o.lt _ h).1;simp at this;omega) _
 .have H:=((f.mono (N:=N::(U r s.size y).ownBlock.toList) (by simp)).alloc (.cells #[X .u8 (d.toNat:Int)] 5)).grown m (λq E=>oi (by simp[E]));exact H.setCell (oi (by simp)) _
 .intro k c;have Ax:a.heap.size<=S.heap.size:=by have:=m.size;simp at this;omega
  rcases kZ.1 c with rfl|c
  .exact⟨oi (by simp),by simp;omega⟩
  .simp only[pI,Option.toList_some,kY]at c;subst c;refine⟨?_,by simp;omega⟩;rcases I with h|h
   .exact oi (by simp[h])
   .exact oj (by omega)
def Sw(w:py)(j:Nat)(f:TypeId)(i:TypeInfo)(o:prog.info? 5=V i)(r:i.zero=V (X .u8 0))(p:i.size=1)(t:i.bytes=1)(v:p5)(n:Nat)(m:pM p5)(h:p9 w j 5 1 v n m)(s:zA)(z:n+s.size<=140737488355328)(B:j<=w.heap.size):
  ∃c b,(Builtin.append_ #[143,9] f #[v,O s]).run prog w=.ok c b/\p9 b j 5 1 c (n+s.size) (m++Lib.strCells s)/\w.grownBy b v.ownBlock/\∀g,c.ownBlock=V g->v.ownBlock=V g\/w.heap.size<=g:=by
 obtain⟨c,b,l,C,x,D⟩:=Lib.run_append_own_string (P:=prog) w j 143 9 f 5 i underlying143 underlying9 o r p t v n m h s (by unfold maxLen;omega) z B;refine⟨c,b,l,C,x,λg a=>?_⟩;rcases h.2 with⟨rfl,rfl⟩|⟨q,k,u,rfl,H,F,I,G,E,L⟩
 .by_cases y:s.size=0
  .rw[D.2 ⟨rfl,y⟩]at a;simp[pI]at a
  .have e:=run_append_nil_string (P:=prog) w 143 9 f 5 i (X .u8 0) underlying143 underlying9 o r s (by omega) (by omega) (by rw[t];omega);rw[l]at e;have d:=(Result.ok.inj e).1;rw[d]at a;simp[pI]at a;exact oj (by omega)
 .by_cases A:n+s.size<=k
  ·(have M:u.size=k:=by simpa using E);have e:=Lib.run_append_room_string (P:=prog) w 143 9 f 5 i underlying143 underlying9 o p q n k u F s A (by omega);rw[l]at e;have d:=(Result.ok.inj e).1;rw[d]at a;exact oi a
  .have e:=Lib.run_append_grow_string (P:=prog) w 143 9 f 5 i (X .u8 0) underlying143 underlying9 o r ⟨q,0,Y⟩ n k m (by rw[p];simpa using h.1) (h.cells (g:=q) rfl) s (by omega) (by omega) (by rw[t];exact growslice_fits (by omega) (by omega));rw[l]at e;have d:=(Result.ok.inj e).1;rw[d]at a;simp[pI]at a;exact oj (by omega)
def wpList_append_run{w d:py}{b:Array Oper}{f:pM Oper}{o:Oper}(g:o.guard=Y)(c x:Operand)(t u:TypeId)(i:o.op=.call {callee:=.builtin .append,args:=#[c,x],argTypes:=#[t,u]}){v e y:p5}(l:a.eval c=v)(m:a.eval x=y)
  (j:(Builtin.append_ #[t,u] o.type #[v,y]).run P w=.ok e d) (h:wpList P b Q f (a.put o.dst e) d):wpList P b Q (o::f) a w:=by
 refine wpList_plain g λn k=>?_
 unfold Oper.wp execOp;simp only[i,resolve,invoke,builtin,oV,Sem.run_pure,Result.andThen_ok,List.map_toArray,lE,m8,l,m,j];exact k _ _ h
def QT{N:Nat}{s x:zA}(D:p9 w (N+1) 5 1 (U o s.size n) s.size (Lib.strCells s))(r:AF v N [m2 (V ⟨N,0,Y⟩),U o s.size n] 145)(l:Ac [N] w v)(q:p9 v (N+1) 5 1 (U o s.size n) s.size (Lib.strCells s))
  (b:p9 u (N+1) 5 1 z (s.size+x.size) (Lib.strCells s++Lib.strCells x)) (j:Ac (U o s.size n).ownBlock.toList v u) (p:∀g,z.ownBlock=V g->(U o s.size n).ownBlock=V g\/v.heap.size<=g):
  dv N (s++x) (N::(U o s.size n).ownBlock.toList) w (u.setCell ⟨N,1,Y⟩ z):=by
 have m:=r.kept j (λe=>by have:=(q.lt N (by simpa using e)).1;omega);have f:(s++x:zA).size=s.size+x.size:=lh;have B:=l.size;have E:=j.size;have A:=m.lt;obtain⟨c,d,rfl⟩:=Ak b;refine⟨N::(U c (s.size+x.size) d).ownBlock.toList,?_,?_,?_⟩
 .refine⟨_,c,d,oj rfl,by rw[f];exact m.set 1 _,?_,by rw[f]⟩;rw[f,Hi];exact Ag b (λh=>by have:=(b.lt _ h).1;simp at this;omega) _
 .have t:=(l.mono (N:=N::(U o s.size n).ownBlock.toList) (by simp)).trans (j.mono (λi y=>lY _ y));exact t.setCell (oi (by simp)) _
 .intro k a;rcases kZ.1 a with rfl|a
  .exact⟨oi (by simp),by simp;omega⟩
  ·(have a:(U c (s.size+x.size) d).ownBlock=V k:=by simpa using a);have C:=(b.lt k a).2;refine⟨?_,by simp;omega⟩;rcases p k a with h|h
   .exact oi (by simp[h])
   .exact oj (by omega)
theorem Xd(N:Nat)(s:zA)(M:pM Nat)(x:zA)(w:py)(h:KU N s M w)(F:s.size+x.size<=140737488355328):
  Calls prog 75 #[m2 (V ⟨N,0,Y⟩),O x] w λe u=>e=oa (.tuple #[X .i64 x.size,.nilIface])/\dv N (s++x) M w u:=by
 obtain⟨C,I,v,A,E⟩:=mg Tryz.z7;obtain⟨p,S,cp,n,t,b,rfl⟩:=h;have l:=Ab (I0 N p _ w n t);clear n t;go_enter func75,ntmps75;go_wp2_with fail
 refine l.mono ?_;rintro _ k ⟨rfl,a,d⟩;have c:=Ai b d (λi G r=>by simp at r;subst r;have:=(b.lt i G).1;omega);have B:=a.cell 1;have Q:=a.frozen 1;simp at B;have R:=a.lt;obtain⟨P,w5,o,f,j,m⟩:=Sw k (N+1) 143 C I v A E _ _ _ c x F (by omega);obtain⟨T,W,rfl⟩:=Ak f;have D:=Ab o;have H:=Ab (QT b a d c f ((pO _ k).grown j (λq z=>oi (by simp[z]))) m);have g:=a.grown j (λe=>by have:=(c.lt N e).1;omega);have y:=g.cell 1;have L:=g.frozen 1;simp at y;clear l b a d c f j m g o;go_wp2_with (at_builtin;refine wpList_append_run rfl (.tmp 12) (.tmp 13) 143 9 rfl rfl rfl D ?_)
 go_ret2;exact⟨rfl,H⟩
theorem Qf(N n:Nat)(a:Option Addr)(b:Nat)(c:pM p5)(d:UInt8)(w:py)(x:p9 w (N+1) 5 1 (U a n b) n c)(j:d.toNat<=127)(C:n+1<=140737488355328)(H:N<w.heap.size):
  Calls prog 143 #[U a n b,X .i32 (d.toNat:Int)] w λe f=>∃g i,e=oa (U (V ⟨g,0,Y⟩) (n+1) i)/\p9 f (N+1) 5 1 (U (V ⟨g,0,Y⟩) (n+1) i) (n+1) (c++[X .u8 (d.toNat:Int)])/\Ac (U a n b).ownBlock.toList w f/\((U a n b).ownBlock=V g\/w.heap.size<=g):=by
 obtain⟨s,z,k,p,t⟩:=mg Tryz.z7;obtain⟨D,l⟩:∃D:Nat,d.toNat=D:=⟨_,rfl⟩;rw[l]at j⊢;have E:IntKind.u32.wrap (D:Int)=D:=by rw[IntKind.wrap_u32];omega
 have A:IntKind.u8.wrap (D:Int)=D:=by rw[IntKind.wrap_u8];omega
 have F:(D:Int)<=127:=by omega
 go_enter func143,ntmps143;go_wp2_with (at_builtin;refine lG _ rfl (.tmp 8) (.tmp 11) _ rfl (N+1) 5 s _ 1 1 underlying143 z k p t rfl (by omega) (U a n b) n c rfl (x.alloc _) ⟨w.heap.size,0,Y⟩ 1 1 [X .u8 (D:Int)] rfl rfl (lI (lP w _)) (by simp[Value.oneCell']) (by omega) (by unfold maxLen;omega) (by omega) (by simp;omega) (w.heap.size+1) (by simp) ?_;intro v u G o y r B)
 go_ret;exact⟨v,u,rfl,o,((pO _ w).alloc _).grown y (λq m=>oi (by simp[m])),r.imp id (λh=>by omega)⟩
theorem aV(N:Nat)(s:zA)(M:pM Nat)(d:UInt8)(w:py)(h:KU N s M w)(H:d.toNat<=127)(T:s.size+1<=140737488355328):
  Calls prog 95 #[m2 (V ⟨N,0,Y⟩),X .i32 (d.toNat:Int)] w λe L=>(∃v,e=oa v)/\dv N (s++⟨#[d]⟩) M w L:=by
 obtain⟨p,j,k,E,G,o,rfl⟩:=h;have A:=Ab (I0 N p _ w E G);clear E G;go_enter func95,ntmps95;go_wp2_with fail
 refine A.mono ?_;rintro _ u ⟨rfl,c,t⟩;have r:=Ai o t (λi W F=>by simp at F;subst F;have:=(o.lt i W).1;omega);have R:=c.cell 1;simp at R;have S:=c.lt;have y:=Ab (Qf N s.size j k (Lib.strCells s) d u r H T S);have z:Hid (∀a g b,p9 a (N+1) 5 1 (U (V ⟨g,0,Y⟩) (s.size+1) b) (s.size+1) (Lib.strCells s++[X .u8 (d.toNat:Int)])->Ac (U j s.size k).ownBlock.toList u a->((U j s.size k).ownBlock=V g\/u.heap.size<=g)->dv N (s++⟨#[d]⟩) (N::(U j s.size k).ownBlock.toList) w (a.setCell ⟨N,1,Y⟩ (U (V ⟨g,0,Y⟩) (s.size+1) b))/\AF a N [m2 (V ⟨N,0,Y⟩),U j s.size k] 145):=by
  intro a g b m f n;exact⟨QT (x:=⟨#[d]⟩) o c t r m f (λq B=>by simp[pI]at B;subst B;exact n),c.kept f (λe=>by have:=(r.lt N (by simpa using e)).1;omega)⟩
 generalize(d.toNat:Int)=D at y z⊢;clear A o c t r;go_wp2_with fail
 refine y.mono ?_;rintro _ a ⟨g,b,rfl,m,f,n⟩;obtain⟨C,l⟩:=z a g b m f n;have P:=l.cell 1;have yf:=l.frozen 1;simp at P;have Q:=(l.set 1 (U (V ⟨g,0,Y⟩) (s.size+1) b)).cell 1;simp at Q;have I:=Ab C;clear C l z y m f n;go_wp2;go_ret2;exact⟨⟨_,rfl⟩,I⟩
def WR(N:Nat)(s:zA)(M:pM Nat)(w:py)(h:KU N s M w):
  Calls prog 78 #[m2 (V ⟨N,0,Y⟩)] w λe a=>e=oa (O s)/\Below N w a/\Lib.OthersKept 5 (V N) w a:=by
 obtain⟨p,l,i,f,c,b,rfl⟩:=h;have d:Lib.BuilderAtF 145 5 N N p (Lib.byteCells s.data.toList) w:=by
  have k:(Lib.byteCells s.data.toList).length=s.size:=by rw[Lib.byteCells_length];rfl
  refine⟨lC _,U l s.size i,c,?_,λe=>by have:=(b.lt N e).1;omega⟩;rw[k];exact World.ownsRowF_of (Am b (by omega))
 refine(Po N N s.data.toList w ?_ (Nat.le_of_lt c.lt)).mono ?_
 .rcases f with rfl|rfl
  .exact oi d
  .exact oj d
 .rintro e a ⟨rfl,_,g,j⟩;exact⟨by simp,g,j⟩
