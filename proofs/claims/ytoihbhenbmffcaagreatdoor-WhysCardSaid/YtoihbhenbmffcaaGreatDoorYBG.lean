import Derived.Test.YtoihbhenbmffcaaGreatDoorYAI
import Derived.Test.YtoihbhenbmffcaaGreatDoorYBC
set_option linter.all false
set_option maxHeartbeats 0
open List renaming length->Z
open Option renaming none->Y,some->V
open Go.Value renaming slice->U,int->X,string->O,pointer->j3,ownBlock->jN
open Go.Obj renaming cells->j1
open Go.Ending renaming returned->j4
open Or renaming inl->j5,inr->j6
open Go renaming World->j7
open Go.World renaming ownsRow->jG
namespace Go.Proofs.YtoihbhenbmffcaaGreatDoor
open Go.RowKit Go.Proofs.Tryz
def dJ(w0:j7)(s:g0)(w:j7):Prop:=Lib.IsBuilderF 145 5 w0.heap.size w0.heap.size (Lib.strCells s) w/\Ac [] w0 w
def dJ.new(w:j7):dJ w ByteArray.empty (w.alloc (j1 #[j3 Y,U Y 0 0] 145)):=
 ⟨Lib.IsBuilderF.of (Lib.fresh_isBuilder 145 5 w),(Ac.refl [] w).alloc _⟩
def IK{w0 w w':j7}(k:Ac [] w0 w)(h:Below w0.heap.size w w'):Ac [] w0 w':=
 ⟨h.os.trans k.os,h.tape.trans k.tape,h.output.trans k.output,fJ k.size h.size,λi a b=>(h.block i a).trans (k.block i a b)⟩
def Gx(s x:g0):Lib.strCells (s++x)=Lib.strCells s++Lib.strCells x:=by simp[Lib.strCells,jt]
def O5{w0 w:j7}{s:g0}{N:Nat}(h:dJ w0 s w)(f:w0.heap.size=N)(x:g0)(b:s.size+x.size<=140737488355328):
  Calls prog 75 #[j3 (V ⟨N,0,Y⟩),O x] w λe a=>e=j4 (.tuple #[X .i64 x.size,.nilIface])/\dJ w0 (s++x) a:=by
 subst f;refine(Zj _ _ _ x w h.1 (by rw[Lib.strCells_length];exact b) h.2.size).mono ?_;rintro e a ⟨rfl,d,c,_⟩;refine⟨rfl,j6 ?_,IK h.2 c⟩;rw[Gx];exact d
def TW{w0 w:j7}{s:g0}{N:Nat}(h:dJ w0 s w)(j:w0.heap.size=N)(d:UInt8)(c:Int)(b:(d.toNat:Int)=c)(f:s.size+1<=140737488355328):
  Calls prog 77 #[j3 (V ⟨N,0,Y⟩),X .u8 c] w λe a=>e=j4 .nilIface/\dJ w0 (s++⟨#[d]⟩) a:=by
 subst j b;refine(XH _ _ _ _ w h.1 (by rw[Lib.strCells_length];exact f) h.2.size).mono ?_;rintro e a ⟨rfl,i,g,_⟩;refine⟨rfl,j6 ?_,IK h.2 g⟩;rw[Gx];exact i
def cJ{w0 w:j7}{s:g0}{N:Nat}(h:dJ w0 s w)(c:w0.heap.size=N):
  Calls prog 78 #[j3 (V ⟨N,0,Y⟩)] w λe a=>e=j4 (O s)/\Ac [] w0 a:=by
 subst c;refine(Ns _ _ s.data.toList w h.1 h.2.size).mono ?_;rintro e a ⟨rfl,_,b,_⟩;exact⟨by simp,IK h.2 b⟩
def Nc:∀(k:Nat) (s:g0),(EU k s).size<=s.size
 |0,s=>eM _
 |k+1,s=>by
  rw[EU];split
  .have:=Nc k (s.extract 1 s.size);rw[gh]at this;omega
  .exact eM _
def KQ(s:g0):(BN s).size<=s.size:=by
 unfold BN;split
 .exact Nc _ _
 .exact eM _
def LR:∀(l:List g0) (s:g0) (b:Bool),(∀x∈l,x.size<=1000000)->(Dg s b l).size<=s.size+Z l*1000001
 |[],s,b,_=>by simp[Dg]
 |x::l,s,b,h=>by
  rw[Dg];have d:=LR l (s++(if b then⟨#[44]⟩else⟨#[40]⟩)++BN x) true (λy c=>h y (fu _ c));have e:=KQ x;have f:=h x (fI ..);have a:(if b then⟨#[44]⟩else⟨#[40]⟩:g0).size=1:=by cases b<;>rfl
  rw[eO,eO,a]at d;rw[eF];omega
def VA{p:CV}(a:Z p.zB<=1000)(c:∀x∈p.zB,x.size<=1000000)(f:p.name.size<=1000000):(Gy p).size<=2000000000:=by
 unfold Gy;have d:=LR p.zB p.name false c;have b:(⟨#[41,46]⟩:g0).size=2:=rfl;have e:Z p.zB*1000001<=1000*1000001:=fV _ a;rw[eO,b];omega
set_option maxRecDepth 100000
theorem Nw(p:Fe)(w:j7)(h:DL w p)(hl:Z p.f.zB<=1000)(M:∀x∈p.f.zB,x.size<=1000000)(A1:p.f.name.size<=1000000):
  Calls prog 76 #[.agg (AW p).toArray] w λe Q=>e=j4 (O (Gy p.f))/\Ac [] w Q:=by
 obtain⟨⟨n,a⟩,tv⟩:=p;have Ax:Hid (∀x∈a,x.size<=1000000):=M;simp only at hl A1;obtain⟨l,m,e⟩:=Ak h;simp only at e;subst e;have HA:Hid (jG w 0 170 1 (U l (Z a) m) (Z a) (a.flatMap Ah)):=h;obtain⟨R,D⟩:∃R,Gy ⟨n,a⟩=R:=⟨_,rfl⟩;rw[D];have L:Hid (Dg n (decide (0<0)) (a.drop 0)++⟨#[41,46]⟩=R):=D;have B:=Ab (AI.new w [O n,U l (Z a) m] 104);have C:=Ab ((Ac.refl [] w).alloc (j1 [O n,U l (Z a) m].toArray 104));have j:Hid ((w.alloc (j1 [O n,U l (Z a) m].toArray 104)).heap.size=w.heap.size+1):=by show _=_;simp
 have b:=Ab (O5 (dJ.new (w.alloc (j1 [O n,U l (Z a) m].toArray 104))) (Aa j) n (by have:ByteArray.empty.size=0:=rfl;omega));clear h D M;simp only[AW];go_enter func76,ntmps76;go_wp2_with fail
 refine b.mono ?_;clear b;rintro _ w2 ⟨rfl,c⟩;rw[ByteArray.empty_append]at c;have b:=Ab c;clear c;have z:=(B.kept b.2 (by simp)).cell 1;simp at z;generalize w.alloc (j1 [O n,U l (Z a) m].toArray 104)=w1 at B C j b;generalize w.heap.size=N at B j z⊢;go_wp2
 go_loopg [12] (Z a) (λgk i wr=>∃(k:Nat) (s:g0),i=X .i64 k/\k<=Z a/\gk=Z a-k/\s.size<=1000000+k*1000001/\Hid (Dg s (decide (0<k)) (a.drop k)++⟨#[41,46]⟩=R)/\Hid (dJ w1 s wr))
 case atStart=>exact⟨0,n,rfl,by omega,rfl,by omega,L,b⟩
 case round=>
  clear L b z;obtain⟨k,s,rfl,hk,I,B9,t,b⟩:=hrel;have F:=Ab I;clear I;have Bx:k*1000001<=1000*1000001:=fV _ (by omega);by_cases u:k<Z a
  .obtain⟨g,BT,P,d0⟩:=Lk (Ad HA (C.trans b.2) (by simp)) k u;simp only[ei]at P;obtain⟨rfl,_,rfl⟩:=P;have hx:=Aa Ax a[k] (eo u);have hy:=KQ a[k];have o:Hid (Dg (s++(if decide (0<k)then⟨#[44]⟩else⟨#[40]⟩)++BN a[k]) true (a.drop (k+1))++⟨#[41,46]⟩=R):=by
    have h:=Aa t;rw[eQ u,Dg]at h;exact h
   have A:=Ab (λw=>NO a[k] w hx);obtain⟨T,G⟩:∃T,BN a[k]=T:=⟨_,rfl⟩;rw[G]at hy o A;have B0:(⟨#[40]⟩:g0).size=1:=rfl;have B2:(⟨#[44]⟩:g0).size=1:=rfl;clear t G;by_cases v:k=0
   ·(have S:((k:Int)==0)=true:=by rw[v];rfl);have y:Hid (Dg (s++⟨#[40]⟩++T) (decide (0<k+1)) (a.drop (k+1))++⟨#[41,46]⟩=R):=by
     have h:=Aa o;rw[fO (show¬0<k by omega)]at h;rw[gG (show 0<k+1 by omega)];exact h
    have d:=Ab (TW b j 40 40 rfl (by omega));clear o v b;(go_wp2_with fail);refine d.mono ?_;clear d;rintro _ r ⟨rfl,c⟩;have b:=Ab c;clear c;have d:=Ab (O5 b j T (by rw[eO];omega));have q:=Ab (A r);(go_wp2_with fail);refine q.mono ?_;rintro _ _ ⟨rfl,rfl⟩;clear q;(go_wp2_with fail);refine d.mono ?_;clear d b;rintro _ E ⟨rfl,c⟩;have b:=Ab c;clear c;go_wp2
    go_roundg (Z a-(k+1))
    case measure=>have:=Aa F;omega
    case rel=>exact⟨k+1,_,by go_num,by omega,rfl,by rw[eO,eO];omega,y,b⟩
   ·(have S:((k:Int)==0)=false:=by rw[ff];omega);have y:Hid (Dg (s++⟨#[44]⟩++T) (decide (0<k+1)) (a.drop (k+1))++⟨#[41,46]⟩=R):=by
     have h:=Aa o;rw[gG (show 0<k by omega)]at h;rw[gG (show 0<k+1 by omega)];exact h
    have d:=Ab (TW b j 44 44 rfl (by omega));clear o v b;(go_wp2_with fail);refine d.mono ?_;clear d;rintro _ r ⟨rfl,c⟩;have b:=Ab c;clear c;have d:=Ab (O5 b j T (by rw[eO];omega));have q:=Ab (A r);(go_wp2_with fail);refine q.mono ?_;rintro _ _ ⟨rfl,rfl⟩;clear q;(go_wp2_with fail);refine d.mono ?_;clear d b;rintro _ E ⟨rfl,c⟩;have b:=Ab c;clear c;go_wp2
    go_roundg (Z a-(k+1))
    case measure=>have:=Aa F;omega
    case rel=>exact⟨k+1,_,by go_num,by omega,rfl,by rw[eO,eO];omega,y,b⟩
  .have HE:Hid (s++⟨#[41,46]⟩=R):=by
    have h:=Aa t;rw[fq (by omega)]at h;exact h
   have CL:(⟨#[41,46]⟩:g0).size=2:=rfl;have d:=Ab (O5 b j ⟨#[41,46]⟩ (by omega));clear b t;(go_wp2_with fail);refine d.mono ?_;clear d;rintro _ r ⟨rfl,c⟩;rw[Aa HE]at c;have d:=Ab (cJ c j);clear c;(go_wp2_with fail);refine d.mono ?_;clear d;rintro _ E ⟨rfl,H⟩;have W:=Ab (C.trans H);clear H;go_wp2;go_ret;exact⟨rfl,W⟩
end Go.Proofs.YtoihbhenbmffcaaGreatDoor
namespace Go.Proofs.YtoihbhenbmffcaaGreatDoor
open Go.Shelf Go.RowKit
open Go.Proofs.Tryz
def Od(N:Nat)(s:g0)(M:List Nat)(w:j7):Prop:=
 ∃(p:Value) (ad:Option Addr) (cp:Nat),(p=j3 Y\/p=j3 (V ⟨N,0,Y⟩))/\AI w N [p,U ad s.size cp] 145/\jG w (N+1) 5 1 (U ad s.size cp) s.size (Lib.strCells s)/\M=N::(U ad s.size cp).ownBlock.toList
def Od.lt{N:Nat}{s:g0}{M:List Nat}{w:j7}(h:Od N s M w):∀k∈M,N<=k/\k<w.heap.size:=by
 obtain⟨p,e,d,_,c,b,rfl⟩:=h;intro k a;rcases ey.1 a with rfl|a
 .exact⟨eM _,c.lt⟩
 .have:=b.lt k (by simpa using a);omega
def Od.kept{N:Nat}{s:g0}{M L:List Nat}{w w':j7}(h:Od N s M w)(k:Ac L w w')(a:∀i∈M,i∉L):Od N s M w':=by
 obtain⟨p,g,d,b,e,c,rfl⟩:=h;exact⟨p,g,d,b,e.kept k (a N (by simp)),Al c k (λi f=>a i (by simp[f])),rfl⟩
def Od.new(w:j7):Od w.heap.size ByteArray.empty [w.heap.size] (w.alloc (j1 #[j3 Y,U Y 0 0] 145)):=
 ⟨j3 Y,Y,0,j5 rfl,AI.new w [j3 Y,U Y 0 0] 145,eU _ _ _ _,rfl⟩
def Wy:Lays.n240 prog cd:={WY with}
def KF(N:Nat)(p v:Value)(w:j7)(b:p=j3 Y\/p=j3 (V ⟨N,0,Y⟩))(h:AI w N [p,v] 145):
  Calls prog 125 #[j3 (V ⟨N,0,Y⟩)] w λe a=>e=j4 (.tuple #[])/\AI a N [j3 (V ⟨N,0,Y⟩),v] 145/\Ac [N] w a:=by
 rcases b with rfl|rfl
 .refine(Any.Builder_copyCheck_fresh Wy cD.toX72 N w (h.cell 0) (by unfold AI at h;simp[World.shape?,h];rfl) (h.frozen 0)).mono ?_;rintro e a ⟨rfl,rfl⟩;exact⟨rfl,h.set 0 _,(Ac.refl _ w).setCell (by simp) _⟩
 .refine(Any.Builder_copyCheck_used Wy cD.toX72 N w (h.cell 0)).mono ?_;rintro e a ⟨rfl,rfl⟩;exact⟨rfl,h,Ac.refl _ _⟩
def cY(N:Nat)(s:g0)(M:List Nat)(w w':j7):Prop:=∃M',Od N s M' w'/\Ac M w w'/\∀k∈M',(k∈M\/w.heap.size<=k)/\k<w'.heap.size
set_option maxRecDepth 100000
theorem YQ(N:Nat)(s:g0)(M:List Nat)(d:UInt8)(w:j7)(h:Od N s M w)(hl:s.size+1<=140737488355328):
  Calls prog 77 #[j3 (V ⟨N,0,Y⟩),X .u8 (d.toNat:Int)] w λe B=>e=j4 .nilIface/\cY N (s++⟨#[d]⟩) M w B:=by
 obtain⟨P,T,C,G,Q⟩:=fC Tryz.yW;obtain⟨p,r,y,t,z,l,rfl⟩:=h;have n:=Ab (KF N p _ w t z);have F:=l.lt;clear t z;go_enter func77,ntmps77;go_wp2_with fail
 refine n.mono ?_;rintro _ a ⟨rfl,b,f⟩;have A:=Al l f (λi R v=>by simp at v;subst v;have:=(l.lt i R).1;omega);have L:=b.cell 1;have f1:=b.frozen 1;simp at L;have A0:=f.size;have AT:=b.lt;clear n F;go_wp2_with (at_builtin;refine eP _ rfl (.tmp 11) (.tmp 13) _ rfl (N+1) 5 P _ 1 1 underlying143 T C G Q rfl (by omega) (U r s.size y) s.size (Lib.strCells s) rfl (A.alloc _) ⟨a.heap.size,0,Y⟩ 1 1 [X .u8 (d.toNat:Int)] rfl rfl (eS (fe a _)) (by simp[Value.oneCell']) (by omega) (by unfold maxLen;omega) (by omega) (by simp;omega) (a.heap.size+1) (by simp) ?_;intro x u S o m I AB;have g:=(b.alloc (j1 #[X .u8 (d.toNat:Int)] 5)).grown m (λe=>by have:=(A.lt N e).1;omega);have D:=g.cell 1;have W:=g.frozen 1;simp at D)
 go_ret;refine⟨rfl,N::(U (V ⟨x,0,Y⟩) (s.size+1) u).ownBlock.toList,?_,?_,?_⟩
 .have j:(s++⟨#[d]⟩:g0).size=s.size+1:=by rw[eO];rfl
  refine⟨_,V ⟨x,0,Y⟩,u,j6 rfl,by rw[j];exact g.set 1 _,?_,by rw[j]⟩;rw[j,Gx];exact Ag o (λh=>by have:=(o.lt _ h).1;simp at this;omega) _
 .have H:=((f.mono (N:=N::(U r s.size y).ownBlock.toList) (by simp)).alloc (j1 #[X .u8 (d.toNat:Int)] 5)).grown m (λq E=>j5 (by simp[E]));exact H.setCell (j5 (by simp)) _
 .intro k c;have Ax:a.heap.size<=S.heap.size:=by have:=m.size;simp at this;omega
  rcases ey.1 c with rfl|c
  .exact⟨j5 (by simp),by simp;omega⟩
  .simp only[jN,Option.toList_some,ex]at c;subst c;refine⟨?_,by simp;omega⟩;rcases I with h|h
   .exact j5 (by simp[h])
   .exact j6 (by omega)
def Qg(w:j7)(base:Nat)(f:TypeId)(i:TypeInfo)(m:prog.info? 5=V i)(q:i.zero=V (X .u8 0))(o:i.size=1)(r:i.bytes=1)(v:Value)(n:Nat)(l:List Value)(h:jG w base 5 1 v n l)(s:g0)(y:n+s.size<=140737488355328)(A:base<=w.heap.size):
  ∃c b,(Builtin.append_ #[143,9] f #[v,O s]).run prog w=.ok c b/\jG b base 5 1 c (n+s.size) (l++Lib.strCells s)/\w.grownBy b v.ownBlock/\∀g,c.ownBlock=V g->v.ownBlock=V g\/w.heap.size<=g:=by
 obtain⟨c,b,k,B,u,C⟩:=Lib.run_append_own_string (P:=prog) w base 143 9 f 5 i underlying143 underlying9 m q o r v n l h s (by unfold maxLen;omega) y A;refine⟨c,b,k,B,u,λg a=>?_⟩;rcases h.2 with⟨rfl,rfl⟩|⟨p,j,t,rfl,G,E,H,F,D,I⟩
 .by_cases x:s.size=0
  .rw[C.2 ⟨rfl,x⟩]at a;simp[jN]at a
  .have e:=run_append_nil_string (P:=prog) w 143 9 f 5 i (X .u8 0) underlying143 underlying9 m q s (by omega) (by omega) (by rw[r];omega);rw[k]at e;have d:=(Result.ok.inj e).1;rw[d]at a;simp[jN]at a;exact j6 (by omega)
 .by_cases z:n+s.size<=j
  ·(have L:t.size=j:=by simpa using D);have e:=Lib.run_append_room_string (P:=prog) w 143 9 f 5 i underlying143 underlying9 m o p n j t E s z (by omega);rw[k]at e;have d:=(Result.ok.inj e).1;rw[d]at a;exact j5 a
  .have e:=Lib.run_append_grow_string (P:=prog) w 143 9 f 5 i (X .u8 0) underlying143 underlying9 m q ⟨p,0,Y⟩ n j l (by rw[o];simpa using h.1) (h.cells (g:=p) rfl) s (by omega) (by omega) (by rw[r];exact growslice_fits (by omega) (by omega));rw[k]at e;have d:=(Result.ok.inj e).1;rw[d]at a;simp[jN]at a;exact j6 (by omega)
def wpList_append_run{P:Program}{w w':j7}{ops:Array Oper}{d:List Oper}{o:Oper}{a:Act}{Q:Exit->Act->j7->Prop}(e:o.guard=Y)(b x:Operand)(t u:TypeId)(f:o.op=.call {callee:=.builtin .append,args:=#[b,x],argTypes:=#[t,u]}){v c y:Value}(j:a.eval b=v)(k:a.eval x=y)
  (g:(Builtin.append_ #[t,u] o.type #[v,y]).run P w=.ok c w') (h:wpList P ops Q d (a.put o.dst c) w'):wpList P ops Q (o::d) a w:=by
 refine wpList_plain e λl i=>?_
 unfold Oper.wp execOp;simp only[f,resolve,invoke,builtin,je,Sem.run_pure,Result.andThen_ok,List.map_toArray,eR,gU,j,k,g];exact i _ _ h
def Vq{N:Nat}{s x:g0}{a:Option Addr}{b:Nat}{w d p:j7}{j:Value}(E:jG w (N+1) 5 1 (U a s.size b) s.size (Lib.strCells s))(t:AI d N [j3 (V ⟨N,0,Y⟩),U a s.size b] 145)(q:Ac [N] w d)(z:jG d (N+1) 5 1 (U a s.size b) s.size (Lib.strCells s))
  (f:jG p (N+1) 5 1 j (s.size+x.size) (Lib.strCells s++Lib.strCells x)) (l:Ac (U a s.size b).ownBlock.toList d p) (y:∀g,j.ownBlock=V g->(U a s.size b).ownBlock=V g\/d.heap.size<=g):
  cY N (s++x) (N::(U a s.size b).ownBlock.toList) w (p.setCell ⟨N,1,Y⟩ j):=by
 have r:=t.kept l (λe=>by have:=(z.lt N (by simpa using e)).1;omega);have m:(s++x:g0).size=s.size+x.size:=eO;have D:=q.size;have B:=l.size;have C:=r.lt;obtain⟨n,o,rfl⟩:=Ak f;refine⟨N::(U n (s.size+x.size) o).ownBlock.toList,?_,?_,?_⟩
 .refine⟨_,n,o,j6 rfl,by rw[m];exact r.set 1 _,?_,by rw[m]⟩;rw[m,Gx];exact Ag f (λh=>by have:=(f.lt _ h).1;simp at this;omega) _
 .have u:=(q.mono (N:=N::(U a s.size b).ownBlock.toList) (by simp)).trans (l.mono (λi v=>fu _ v));exact u.setCell (j5 (by simp)) _
 .intro k c;rcases ey.1 c with rfl|c
  .exact⟨j5 (by simp),by simp;omega⟩
  ·(have c:(U n (s.size+x.size) o).ownBlock=V k:=by simpa using c);have A:=(f.lt k c).2;refine⟨?_,by simp;omega⟩;rcases y k c with h|h
   .exact j5 (by simp[h])
   .exact j6 (by omega)
theorem Z8(N:Nat)(s:g0)(M:List Nat)(x:g0)(w:j7)(h:Od N s M w)(F:s.size+x.size<=140737488355328):
  Calls prog 75 #[j3 (V ⟨N,0,Y⟩),O x] w λe u=>e=j4 (.tuple #[X .i64 x.size,.nilIface])/\cY N (s++x) M w u:=by
 obtain⟨C,I,v,A,E⟩:=fC Tryz.yW;obtain⟨p,S,cp,n,t,b,rfl⟩:=h;have l:=Ab (KF N p _ w n t);clear n t;go_enter func75,ntmps75;go_wp2_with fail
 refine l.mono ?_;rintro _ k ⟨rfl,a,d⟩;have c:=Al b d (λi G r=>by simp at r;subst r;have:=(b.lt i G).1;omega);have B:=a.cell 1;have Q:=a.frozen 1;simp at B;have R:=a.lt;obtain⟨P,w5,o,f,j,m⟩:=Qg k (N+1) 143 C I v A E _ _ _ c x F (by omega);obtain⟨T,W,rfl⟩:=Ak f;have D:=Ab o;have H:=Ab (Vq b a d c f ((Ac.refl _ k).grown j (λq z=>j5 (by simp[z]))) m);have g:=a.grown j (λe=>by have:=(c.lt N e).1;omega);have y:=g.cell 1;have L:=g.frozen 1;simp at y;clear l b a d c f j m g o;go_wp2_with (at_builtin;refine wpList_append_run rfl (.tmp 12) (.tmp 13) 143 9 rfl rfl rfl D ?_)
 go_ret2;exact⟨rfl,H⟩
def ZJ(N:Nat)(s:g0)(M:List Nat)(w:j7)(h:Od N s M w):
  Calls prog 78 #[j3 (V ⟨N,0,Y⟩)] w λe a=>e=j4 (O s)/\Below N w a/\Lib.OthersKept 5 (V N) w a:=by
 obtain⟨p,l,i,f,c,b,rfl⟩:=h;have d:Lib.BuilderAtF 145 5 N N p (Lib.byteCells s.data.toList) w:=by
  have k:Z (Lib.byteCells s.data.toList)=s.size:=by rw[Lib.byteCells_length];rfl
  refine⟨eM _,U l s.size i,c,?_,λe=>by have:=(b.lt N e).1;omega⟩;rw[k];exact World.ownsRowF_of (Am b (by omega))
 refine(Ns N N s.data.toList w ?_ (Nat.le_of_lt c.lt)).mono ?_
 .rcases f with rfl|rfl
  .exact j5 d
  .exact j6 d
 .rintro e a ⟨rfl,_,g,j⟩;exact⟨by simp,g,j⟩
