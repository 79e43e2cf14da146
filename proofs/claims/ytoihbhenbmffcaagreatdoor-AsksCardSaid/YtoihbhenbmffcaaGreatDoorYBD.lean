import Derived.Test.YtoihbhenbmffcaaGreatDoorYAH
import Derived.Test.YtoihbhenbmffcaaGreatDoorYBA
set_option linter.all false
set_option maxHeartbeats 0
namespace Go.Proofs.YtoihbhenbmffcaaGreatDoor
open Go.RowKit Go.Proofs.Tryz
theorem TR{w0 w w':World}(k:Ac [] w0 w)(h:Below w0.heap.size w w'):Ac [] w0 w':=
 ⟨h.os.trans k.os,h.tape.trans k.tape,h.output.trans k.output,da k.size h.size,λi a b=>(h.block i a).trans (k.block i a b)⟩
theorem Le(s x:cR):Lib.strCells (s++x)=Lib.strCells s++Lib.strCells x:=by simp[Lib.strCells,fR]
end Go.Proofs.YtoihbhenbmffcaaGreatDoor
namespace Go.Proofs.YtoihbhenbmffcaaGreatDoor
open Go.Shelf Go.RowKit
open Go.Proofs.Tryz
def Li(N:Nat)(s:cR)(M:List Nat)(w:World):Prop:=
 ∃(p:Value) (ad:Option Addr) (cp:Nat),(p=.pointer none\/p=.pointer (some ⟨N,0,none⟩))/\AE w N [p,.slice ad s.size cp] 145/\w.ownsRow (N+1) 5 1 (.slice ad s.size cp) s.size (Lib.strCells s)/\M=N::(Value.slice ad s.size cp).ownBlock.toList
theorem Li.lt{N:Nat}{s:cR}{M:List Nat}{w:World}(h:Li N s M w):∀k∈M,N<=k/\k<w.heap.size:=by
 obtain⟨p,e,d,_,c,b,rfl⟩:=h;intro k a;rcases bS.1 a with rfl|a
 .exact⟨bZ _,c.lt⟩
 .have:=b.lt k (by simpa using a);omega
theorem Li.kept{N:Nat}{s:cR}{M L:List Nat}{w w':World}(h:Li N s M w)(k:Ac L w w')(a:∀i∈M,i∉L):Li N s M w':=by
 obtain⟨p,g,d,b,e,c,rfl⟩:=h;exact⟨p,g,d,b,e.kept k (a N (by simp)),Al c k (λi f=>a i (by simp[f])),rfl⟩
theorem Li.new(w:World):Li w.heap.size ByteArray.empty [w.heap.size] (w.alloc (.cells #[.pointer none,.slice none 0 0] 145)):=
 ⟨.pointer none,none,0,Or.inl rfl,AE.new w [.pointer none,.slice none 0 0] 145,ck _ _ _ _,rfl⟩
theorem Vx:Lays.n240 prog aw:={ZT with}
theorem Hb(N:Nat)(p v:Value)(w:World)(b:p=.pointer none\/p=.pointer (some ⟨N,0,none⟩))(h:AE w N [p,v] 145):
  Calls prog 125 #[.pointer (some ⟨N,0,none⟩)] w λe a=>e=.returned (.tuple #[])/\AE a N [.pointer (some ⟨N,0,none⟩),v] 145/\Ac [N] w a:=by
 rcases b with rfl|rfl
 .refine(Any.Builder_copyCheck_fresh Vx aV.toX72 N w (h.cell 0) (by unfold AE at h;simp[World.shape?,h];rfl) (h.frozen 0)).mono ?_;rintro e a ⟨rfl,rfl⟩;exact⟨rfl,h.set 0 _,(Ac.refl _ w).setCell (by simp) _⟩
 .refine(Any.Builder_copyCheck_used Vx aV.toX72 N w (h.cell 0)).mono ?_;rintro e a ⟨rfl,rfl⟩;exact⟨rfl,h,Ac.refl _ _⟩
def Zh(N:Nat)(s:cR)(M:List Nat)(w w':World):Prop:=∃M',Li N s M' w'/\Ac M w w'/\∀k∈M',(k∈M\/w.heap.size<=k)/\k<w'.heap.size
set_option maxRecDepth 100000
theorem XC(N:Nat)(s:cR)(M:List Nat)(d:UInt8)(w:World)(h:Li N s M w)(X:s.size+1<=140737488355328):
  Calls prog 77 #[.pointer (some ⟨N,0,none⟩),.int .u8 (d.toNat:Int)] w λe B=>e=.returned .nilIface/\Zh N (s++⟨#[d]⟩) M w B:=by
 obtain⟨K,Q,C,G,L⟩:=cU Tryz.g9;obtain⟨p,r,y,t,z,l,rfl⟩:=h;have n:=Ab (Hb N p _ w t z);have F:=l.lt;clear t z;go_enter func77,ntmps77;go_wp2_with fail
 refine(Aa n).mono ?_;rintro _ a ⟨rfl,b,f⟩;have A:=Al l f (λi O v=>by simp at v;subst v;have:=(l.lt i O).1;omega);have J:=b.cell 1;have U:=b.frozen 1;simp at J;have W:=f.size;have V:=b.lt;clear n F;go_wp2_with (at_builtin;refine cd _ rfl (.tmp 11) (.tmp 13) _ rfl (N+1) 5 K _ 1 1 underlying143 Q C G L rfl (by omega) (.slice r s.size y) s.size (Lib.strCells s) rfl (A.alloc _) ⟨a.heap.size,0,none⟩ 1 1 [.int .u8 (d.toNat:Int)] rfl rfl (cj (cA a _)) (by simp[Value.oneCell']) (by omega) (by unfold maxLen;omega) (by omega) (by simp;omega) (a.heap.size+1) (by simp) ?_;intro x u P o m I T;have g:=(b.alloc (.cells #[.int .u8 (d.toNat:Int)] 5)).grown m (λe=>by have:=(A.lt N e).1;omega);have D:=g.cell 1;have R:=g.frozen 1;simp at D)
 go_ret;refine⟨rfl,N::(Value.slice (some ⟨x,0,none⟩) (s.size+1) u).ownBlock.toList,?_,?_,?_⟩
 .have j:(s++⟨#[d]⟩:cR).size=s.size+1:=by rw[cH];rfl
  refine⟨_,some ⟨x,0,none⟩,u,Or.inr rfl,by rw[j];exact g.set 1 _,?_,by rw[j]⟩;rw[j,Le];exact Ag o (λh=>by have:=(o.lt _ h).1;simp at this;omega) _
 .have H:=((f.mono (N:=N::(Value.slice r s.size y).ownBlock.toList) (by simp)).alloc (.cells #[.int .u8 (d.toNat:Int)] 5)).grown m (λq E=>Or.inl (by simp[E]));exact H.setCell (Or.inl (by simp)) _
 .intro k c;have S:a.heap.size<=P.heap.size:=by have:=m.size;simp at this;omega
  rcases bS.1 c with rfl|c
  .exact⟨Or.inl (by simp),by simp;omega⟩
  .simp only[Value.ownBlock,Option.toList_some,bO]at c;subst c;refine⟨?_,by simp;omega⟩;rcases I with h|h
   .exact Or.inl (by simp[h])
   .exact Or.inr (by omega)
theorem Px(w:World)(base:Nat)(f:TypeId)(i:TypeInfo)(m:prog.info? 5=some i)(q:i.zero=some (.int .u8 0))(o:i.size=1)(r:i.bytes=1)(v:Value)(n:Nat)(l:List Value)(h:w.ownsRow base 5 1 v n l)(s:cR)(y:n+s.size<=140737488355328)(A:base<=w.heap.size):
  ∃c b,(Builtin.append_ #[143,9] f #[v,.string s]).run prog w=.ok c b/\b.ownsRow base 5 1 c (n+s.size) (l++Lib.strCells s)/\w.grownBy b v.ownBlock/\∀g,c.ownBlock=some g->v.ownBlock=some g\/w.heap.size<=g:=by
 obtain⟨c,b,k,B,u,C⟩:=Lib.run_append_own_string (P:=prog) w base 143 9 f 5 i underlying143 underlying9 m q o r v n l h s (by unfold maxLen;omega) y A;refine⟨c,b,k,B,u,λg a=>?_⟩;rcases h.2 with⟨rfl,rfl⟩|⟨p,j,t,rfl,G,E,H,F,D,I⟩
 .by_cases x:s.size=0
  .rw[C.2 ⟨rfl,x⟩]at a;simp[Value.ownBlock]at a
  .have e:=run_append_nil_string (P:=prog) w 143 9 f 5 i (.int .u8 0) underlying143 underlying9 m q s (by omega) (by omega) (by rw[r];omega);rw[k]at e;have d:=(Result.ok.inj e).1;rw[d]at a;simp[Value.ownBlock]at a;exact Or.inr (by omega)
 .by_cases z:n+s.size<=j
  ·(have J:t.size=j:=by simpa using D);have e:=Lib.run_append_room_string (P:=prog) w 143 9 f 5 i underlying143 underlying9 m o p n j t E s z (by omega);rw[k]at e;have d:=(Result.ok.inj e).1;rw[d]at a;exact Or.inl a
  .have e:=Lib.run_append_grow_string (P:=prog) w 143 9 f 5 i (.int .u8 0) underlying143 underlying9 m q ⟨p,0,none⟩ n j l (by rw[o];simpa using h.1) (h.cells (g:=p) rfl) s (by omega) (by omega) (by rw[r];exact growslice_fits (by omega) (by omega));rw[k]at e;have d:=(Result.ok.inj e).1;rw[d]at a;simp[Value.ownBlock]at a;exact Or.inr (by omega)
theorem wpList_append_run{P:Program}{w w':World}{ops:Array Oper}{d:List Oper}{o:Oper}{a:Act}{Q:Exit->Act->World->Prop}(e:o.guard=none)(b x:Operand)(t u:TypeId)(f:o.op=.call {callee:=.builtin .append,args:=#[b,x],argTypes:=#[t,u]}){v c y:Value}(j:a.eval b=v)(k:a.eval x=y)
  (g:(Builtin.append_ #[t,u] o.type #[v,y]).run P w=.ok c w') (h:wpList P ops Q d (a.put o.dst c) w'):wpList P ops Q (o::d) a w:=by
 refine wpList_plain e λK i=>?_
 unfold Oper.wp execOp;simp only[f,resolve,invoke,builtin,fx,Sem.run_pure,Result.andThen_ok,List.map_toArray,cu,eW,j,k,g];exact i _ _ h
theorem Oh{N:Nat}{s x:cR}{a:Option Addr}{b:Nat}{w d p:World}{j:Value}(E:w.ownsRow (N+1) 5 1 (.slice a s.size b) s.size (Lib.strCells s))(t:AE d N [.pointer (some ⟨N,0,none⟩),.slice a s.size b] 145)(q:Ac [N] w d)(z:d.ownsRow (N+1) 5 1 (.slice a s.size b) s.size (Lib.strCells s))
  (f:p.ownsRow (N+1) 5 1 j (s.size+x.size) (Lib.strCells s++Lib.strCells x)) (l:Ac (Value.slice a s.size b).ownBlock.toList d p) (y:∀g,j.ownBlock=some g->(Value.slice a s.size b).ownBlock=some g\/d.heap.size<=g):
  Zh N (s++x) (N::(Value.slice a s.size b).ownBlock.toList) w (p.setCell ⟨N,1,none⟩ j):=by
 have r:=t.kept l (λe=>by have:=(z.lt N (by simpa using e)).1;omega);have m:(s++x:cR).size=s.size+x.size:=cH;have D:=q.size;have B:=l.size;have C:=r.lt;obtain⟨n,o,rfl⟩:=Aj f;refine⟨N::(Value.slice n (s.size+x.size) o).ownBlock.toList,?_,?_,?_⟩
 .refine⟨_,n,o,Or.inr rfl,by rw[m];exact r.set 1 _,?_,by rw[m]⟩;rw[m,Le];exact Ag f (λh=>by have:=(f.lt _ h).1;simp at this;omega) _
 .have u:=(q.mono (N:=N::(Value.slice a s.size b).ownBlock.toList) (by simp)).trans (l.mono (λi v=>cF _ v));exact u.setCell (Or.inl (by simp)) _
 .intro k c;rcases bS.1 c with rfl|c
  .exact⟨Or.inl (by simp),by simp;omega⟩
  ·(have c:(Value.slice n (s.size+x.size) o).ownBlock=some k:=by simpa using c);have A:=(f.lt k c).2;refine⟨?_,by simp;omega⟩;rcases y k c with h|h
   .exact Or.inl (by simp[h])
   .exact Or.inr (by omega)
theorem YM(N:Nat)(s:cR)(M:List Nat)(x:cR)(w:World)(h:Li N s M w)(F:s.size+x.size<=140737488355328):
  Calls prog 75 #[.pointer (some ⟨N,0,none⟩),.string x] w λe u=>e=.returned (.tuple #[.int .i64 x.size,.nilIface])/\Zh N (s++x) M w u:=by
 obtain⟨C,I,v,A,E⟩:=cU Tryz.g9;obtain⟨p,P,S,n,t,b,rfl⟩:=h;have l:=Ab (Hb N p _ w n t);clear n t;go_enter func75,ntmps75;go_wp2_with fail
 refine(Aa l).mono ?_;rintro _ k ⟨rfl,a,d⟩;have c:=Al b d (λi G r=>by simp at r;subst r;have:=(b.lt i G).1;omega);have B:=a.cell 1;have L:=a.frozen 1;simp at B;have O:=a.lt;obtain⟨K,T,o,f,j,m⟩:=Px k (N+1) 143 C I v A E _ _ _ c x F (by omega);obtain⟨Q,R,rfl⟩:=Aj f;have D:=Ab o;have H:=Ab (Oh b a d c f ((Ac.refl _ k).grown j (λq z=>Or.inl (by simp[z]))) m);have g:=a.grown j (λe=>by have:=(c.lt N e).1;omega);have y:=g.cell 1;have J:=g.frozen 1;simp at y;clear l b a d c f j m g o;go_wp2_with (at_builtin;refine wpList_append_run rfl (.tmp 12) (.tmp 13) 143 9 rfl rfl rfl (Aa D) ?_)
 go_ret2;exact⟨rfl,Aa H⟩
theorem Nz(N n:Nat)(a:Option Addr)(b:Nat)(c:List Value)(d:UInt8)(w:World)(x:w.ownsRow (N+1) 5 1 (.slice a n b) n c)(j:d.toNat<=127)(C:n+1<=140737488355328)(H:N<w.heap.size):
  Calls prog 143 #[.slice a n b,.int .i32 (d.toNat:Int)] w λe f=>∃g i,e=.returned (.slice (some ⟨g,0,none⟩) (n+1) i)/\f.ownsRow (N+1) 5 1 (.slice (some ⟨g,0,none⟩) (n+1) i) (n+1) (c++[.int .u8 (d.toNat:Int)])/\Ac (Value.slice a n b).ownBlock.toList w f/\((Value.slice a n b).ownBlock=some g\/w.heap.size<=g):=by
 obtain⟨s,z,k,p,t⟩:=cU Tryz.g9;obtain⟨D,l⟩:∃D:Nat,d.toNat=D:=⟨_,rfl⟩;rw[l]at j⊢;have E:IntKind.u32.wrap (D:Int)=D:=by rw[IntKind.wrap_u32];omega
 have A:IntKind.u8.wrap (D:Int)=D:=by rw[IntKind.wrap_u8];omega
 have F:(D:Int)<=127:=by omega
 go_enter func143,ntmps143;go_wp2_with (at_builtin;refine cd _ rfl (.tmp 8) (.tmp 11) _ rfl (N+1) 5 s _ 1 1 underlying143 z k p t rfl (by omega) (.slice a n b) n c rfl (x.alloc _) ⟨w.heap.size,0,none⟩ 1 1 [.int .u8 (D:Int)] rfl rfl (cj (cA w _)) (by simp[Value.oneCell']) (by omega) (by unfold maxLen;omega) (by omega) (by simp;omega) (w.heap.size+1) (by simp) ?_;intro v u G o y r B)
 go_ret;exact⟨v,u,rfl,o,((Ac.refl _ w).alloc _).grown y (λq m=>Or.inl (by simp[m])),r.imp id (λh=>by omega)⟩
theorem Wq(N:Nat)(s:cR)(M:List Nat)(d:UInt8)(w:World)(h:Li N s M w)(H:d.toNat<=127)(Q:s.size+1<=140737488355328):
  Calls prog 95 #[.pointer (some ⟨N,0,none⟩),.int .i32 (d.toNat:Int)] w λe J=>(∃v,e=.returned v)/\Zh N (s++⟨#[d]⟩) M w J:=by
 obtain⟨p,j,k,E,G,o,rfl⟩:=h;have A:=Ab (Hb N p _ w E G);clear E G;go_enter func95,ntmps95;go_wp2_with fail
 refine(Aa A).mono ?_;rintro _ u ⟨rfl,c,t⟩;have r:=Al o t (λi R F=>by simp at F;subst F;have:=(o.lt i R).1;omega);have O:=c.cell 1;simp at O;have P:=c.lt;have y:=Ab (Nz N s.size j k (Lib.strCells s) d u r H Q P);have z:Hid (∀a g b,a.ownsRow (N+1) 5 1 (.slice (some ⟨g,0,none⟩) (s.size+1) b) (s.size+1) (Lib.strCells s++[.int .u8 (d.toNat:Int)])->Ac (Value.slice j s.size k).ownBlock.toList u a->((Value.slice j s.size k).ownBlock=some g\/u.heap.size<=g)->Zh N (s++⟨#[d]⟩) (N::(Value.slice j s.size k).ownBlock.toList) w (a.setCell ⟨N,1,none⟩ (.slice (some ⟨g,0,none⟩) (s.size+1) b))/\AE a N [.pointer (some ⟨N,0,none⟩),.slice j s.size k] 145):=by
  intro a g b m f n;exact⟨Oh (x:=⟨#[d]⟩) o c t r m f (λq B=>by simp[Value.ownBlock]at B;subst B;exact n),c.kept f (λe=>by have:=(r.lt N (by simpa using e)).1;omega)⟩
 generalize(d.toNat:Int)=D at y z⊢;clear A o c t r;go_wp2_with fail
 refine(Aa y).mono ?_;rintro _ a ⟨g,b,rfl,m,f,n⟩;obtain⟨C,l⟩:=Aa z a g b m f n;have K:=l.cell 1;have S:=l.frozen 1;simp at K;have L:=(l.set 1 (.slice (some ⟨g,0,none⟩) (s.size+1) b)).cell 1;simp at L;have I:=Ab C;clear C l z y m f n;go_wp2;go_ret2;exact⟨⟨_,rfl⟩,Aa I⟩
theorem Yt(N:Nat)(s:cR)(M:List Nat)(w:World)(h:Li N s M w):
  Calls prog 78 #[.pointer (some ⟨N,0,none⟩)] w λe a=>e=.returned (.string s)/\Below N w a/\Lib.OthersKept 5 (some N) w a:=by
 obtain⟨p,l,i,f,c,b,rfl⟩:=h;have d:Lib.BuilderAtF 145 5 N N p (Lib.byteCells s.data.toList) w:=by
  have k:(Lib.byteCells s.data.toList).length=s.size:=by rw[Lib.byteCells_length];rfl
  refine⟨bZ _,.slice l s.size i,c,?_,λe=>by have:=(b.lt N e).1;omega⟩;rw[k];exact World.ownsRowF_of (Ak b (by omega))
 refine(Sl N N s.data.toList w ?_ (Nat.le_of_lt c.lt)).mono ?_
 .rcases f with rfl|rfl
  .exact Or.inl d
  .exact Or.inr d
 .rintro e a ⟨rfl,_,g,j⟩;exact⟨by simp,g,j⟩
