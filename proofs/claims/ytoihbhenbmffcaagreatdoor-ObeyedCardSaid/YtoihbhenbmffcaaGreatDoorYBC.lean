import Derived.Test.YtoihbhenbmffcaaGreatDoorYAH
import Derived.Test.YtoihbhenbmffcaaGreatDoorYAZ
set_option linter.all false
set_option maxHeartbeats 0
open List renaming length->Z
open Option renaming none->Y,some->V
open Go.Value renaming slice->U,int->X,string->O,pointer->kt,ownBlock->lX
open Go.Obj renaming cells->j2
open Go.Ending renaming returned->lo
open Or renaming inl->lx,inr->ly
open Go renaming World->l9,Value->lN
open Go.World renaming ownsRow->lQ
open ByteArray renaming empty->lU
namespace Go.Proofs.YtoihbhenbmffcaaGreatDoor
open Go.RowKit Go.Proofs.Tryz
def eL(w0:l9)(s:zA)(w:l9):Prop:=Lib.IsBuilderF 145 5 w0.heap.size w0.heap.size (Lib.strCells s) w/\Ac [] w0 w
def eL.new(w:l9):eL w lU (w.alloc (j2 #[kt Y,U Y 0 0] 145)):=
 ⟨Lib.IsBuilderF.of (Lib.fresh_isBuilder 145 5 w),(me [] w).alloc _⟩
def GZ{w0 w w':l9}(k:Ac [] w0 w)(h:Below w0.heap.size w w'):Ac [] w0 w':=
 ⟨h.os.trans k.os,h.tape.trans k.tape,h.output.trans k.output,iQ k.size h.size,λi a b=>(h.block i a).trans (k.block i a b)⟩
def eL.kept{w0 w w':l9}{s:zA}(h:eL w0 s w)(k:Ac [] w w'):eL w0 s w':=by
 have a:∀p,Lib.BuilderAtF 145 5 w0.heap.size w0.heap.size p (Lib.strCells s) w->Lib.BuilderAtF 145 5 w0.heap.size w0.heap.size p (Lib.strCells s) w':=by
  rintro p ⟨l,v,b,c,j⟩;refine⟨l,v,(k.block _ (iK.1 b).1 (by simp)).trans b,⟨c.1,?_⟩,j⟩;rcases c.2 with q|⟨g,m,e,f,i,n,d,o⟩
  .exact .inl q
  .exact .inr ⟨g,m,e,f,i,n,(k.block g (iK.1 d).1 (by simp)).trans d,o⟩
 exact⟨h.1.imp (a _) (a _),h.2.trans k⟩
def GJ(s x:zA):Lib.strCells (s++x)=Lib.strCells s++Lib.strCells x:=by simp[Lib.strCells,lF]
def ML{w0 w:l9}{s:zA}{N:Nat}(h:eL w0 s w)(f:w0.heap.size=N)(x:zA)(b:s.size+x.size<=140737488355328):
  Calls prog 75 #[kt (V ⟨N,0,Y⟩),O x] w λe a=>e=lo (.tuple #[X .i64 x.size,.nilIface])/\eL w0 (s++x) a:=by
 subst f;refine(ax _ _ _ x w h.1 (by rw[Lib.strCells_length];exact b) h.2.size).mono ?_;rintro e a ⟨rfl,d,c,_⟩;refine⟨rfl,ly ?_,GZ h.2 c⟩;rw[GJ];exact d
def Qn{w0 w:l9}{s:zA}{N:Nat}(h:eL w0 s w)(j:w0.heap.size=N)(d:UInt8)(c:Int)(b:(d.toNat:Int)=c)(f:s.size+1<=140737488355328):
  Calls prog 77 #[kt (V ⟨N,0,Y⟩),X .u8 c] w λe a=>e=lo .nilIface/\eL w0 (s++⟨#[d]⟩) a:=by
 subst j b;refine(YR _ _ _ _ w h.1 (by rw[Lib.strCells_length];exact f) h.2.size).mono ?_;rintro e a ⟨rfl,i,g,_⟩;refine⟨rfl,ly ?_,GZ h.2 g⟩;rw[GJ];exact i
def Yt{w0 w:l9}{s:zA}{N:Nat}(h:eL w0 s w)(c:w0.heap.size=N):
  Calls prog 78 #[kt (V ⟨N,0,Y⟩)] w λe a=>e=lo (O s)/\Ac [] w0 a:=by
 subst c;refine(NW _ _ s.data.toList w h.1 h.2.size).mono ?_;rintro e a ⟨rfl,_,b,_⟩;exact⟨by simp,GZ h.2 b⟩
def NC:∀(k:Nat) (s:zA),(Fb k s).size<=s.size
 |0,s=>ig _
 |k+1,s=>by
  rw[Fb];split
  .have:=NC k (s.extract 1 s.size);rw[iW]at this;omega
  .exact ig _
def Lj(s:zA):(BL s).size<=s.size:=by
 unfold BL;split
 .exact NC _ _
 .exact ig _
def Me:∀(l:mc zA) (s:zA) (b:Bool),(∀x∈l,x.size<=1000000)->(Dl s b l).size<=s.size+Z l*1000001
 |[],s,b,_=>by simp[Dl]
 |x::l,s,b,h=>by
  rw[Dl];have d:=Me l (s++(if b then⟨#[44]⟩else⟨#[40]⟩)++BL x) true (λy c=>h y (iB _ c));have e:=Lj x;have f:=h x (iV ..);have a:(if b then⟨#[44]⟩else⟨#[40]⟩:zA).size=1:=by cases b<;>rfl
  rw[gZ,gZ,a]at d;rw[gW];omega
def PG{p:CG}(a:Z p.zC<=1000)(c:∀x∈p.zC,x.size<=1000000)(f:p.name.size<=1000000):(E0 p).size<=2000000000:=by
 unfold E0;have d:=Me p.zC p.name false c;have b:(⟨#[41,46]⟩:zA).size=2:=rfl;have e:Z p.zC*1000001<=1000*1000001:=iS _ a;rw[gZ,b];omega
set_option maxRecDepth 100000
theorem J9(p:EN)(w:l9)(h:DS w p)(hl:Z p.f.zC<=1000)(M:∀x∈p.f.zC,x.size<=1000000)(A2:p.f.name.size<=1000000):
  Calls prog 76 #[.agg (AW p).toArray] w λe Q=>e=lo (O (E0 p.f))/\Ac [] w Q:=by
 obtain⟨⟨n,a⟩,tv⟩:=p;have Ax:Hid (∀x∈a,x.size<=1000000):=M;simp only at hl A2;obtain⟨l,m,e⟩:=Al h;simp only at e;subst e;have HA:Hid (lQ w 0 170 1 (U l (Z a) m) (Z a) (a.flatMap Ah)):=h;obtain⟨R,D⟩:∃R,E0 ⟨n,a⟩=R:=⟨_,rfl⟩;rw[D];have L:Hid (Dl n (decide (0<0)) (a.drop 0)++⟨#[41,46]⟩=R):=D;have B:=Ab (mf w [O n,U l (Z a) m] 104);have C:=Ab ((me [] w).alloc (j2 [O n,U l (Z a) m].toArray 104));have j:Hid ((w.alloc (j2 [O n,U l (Z a) m].toArray 104)).heap.size=w.heap.size+1):=by show _=_;simp
 have b:=Ab (ML (eL.new (w.alloc (j2 [O n,U l (Z a) m].toArray 104))) (Aa j) n (by have:ByteArray.empty.size=0:=rfl;omega));clear h D M;simp only[AW];go_enter func76,ntmps76;go_wp2_with fail
 refine b.mono ?_;clear b;rintro _ w2 ⟨rfl,c⟩;rw[ByteArray.empty_append]at c;have b:=Ab c;clear c;have z:=(B.kept b.2 (by simp)).cell 1;simp at z;generalize w.alloc (j2 [O n,U l (Z a) m].toArray 104)=w1 at B C j b;generalize w.heap.size=N at B j z⊢;go_wp2
 go_loopg [12] (Z a) (λgk i wr=>∃(k:Nat) (s:zA),i=X .i64 k/\k<=Z a/\gk=Z a-k/\s.size<=1000000+k*1000001/\Hid (Dl s (decide (0<k)) (a.drop k)++⟨#[41,46]⟩=R)/\Hid (eL w1 s wr))
 case atStart=>exact⟨0,n,rfl,by omega,rfl,by omega,L,b⟩
 case round=>
  clear L b z;obtain⟨k,s,rfl,hk,I,CC,t,b⟩:=hrel;have F:=Ab I;clear I;have BA:k*1000001<=1000*1000001:=iS _ (by omega);by_cases u:k<Z a
  .obtain⟨g,B0,P,d0⟩:=LJ (Ad HA (C.trans b.2) (by simp)) k u;simp only[gM]at P;obtain⟨rfl,_,rfl⟩:=P;have hx:=Aa Ax a[k] (gL u);have hy:=Lj a[k];have o:Hid (Dl (s++(if decide (0<k)then⟨#[44]⟩else⟨#[40]⟩)++BL a[k]) true (a.drop (k+1))++⟨#[41,46]⟩=R):=by
    have h:=Aa t;rw[ij u,Dl]at h;exact h
   have A:=Ab (λw=>I6 a[k] w hx);obtain⟨T,G⟩:∃T,BL a[k]=T:=⟨_,rfl⟩;rw[G]at hy o A;have B2:(⟨#[40]⟩:zA).size=1:=rfl;have B9:(⟨#[44]⟩:zA).size=1:=rfl;clear t G;by_cases v:k=0
   ·(have S:((k:Int)==0)=true:=by rw[v];rfl);have y:Hid (Dl (s++⟨#[40]⟩++T) (decide (0<k+1)) (a.drop (k+1))++⟨#[41,46]⟩=R):=by
     have h:=Aa o;rw[i9 (show¬0<k by omega)]at h;rw[jH (show 0<k+1 by omega)];exact h
    have d:=Ab (Qn b j 40 40 rfl (by omega));clear o v b;(go_wp2_with fail);refine d.mono ?_;clear d;rintro _ r ⟨rfl,c⟩;have b:=Ab c;clear c;have d:=Ab (ML b j T (by rw[gZ];omega));have q:=Ab (A r);(go_wp2_with fail);refine q.mono ?_;rintro _ _ ⟨rfl,rfl⟩;clear q;(go_wp2_with fail);refine d.mono ?_;clear d b;rintro _ E ⟨rfl,c⟩;have b:=Ab c;clear c;go_wp2
    go_roundg (Z a-(k+1))
    case measure=>have:=Aa F;omega
    case rel=>exact⟨k+1,_,by go_num,by omega,rfl,by rw[gZ,gZ];omega,y,b⟩
   ·(have S:((k:Int)==0)=false:=by rw[iw];omega);have y:Hid (Dl (s++⟨#[44]⟩++T) (decide (0<k+1)) (a.drop (k+1))++⟨#[41,46]⟩=R):=by
     have h:=Aa o;rw[jH (show 0<k by omega)]at h;rw[jH (show 0<k+1 by omega)];exact h
    have d:=Ab (Qn b j 44 44 rfl (by omega));clear o v b;(go_wp2_with fail);refine d.mono ?_;clear d;rintro _ r ⟨rfl,c⟩;have b:=Ab c;clear c;have d:=Ab (ML b j T (by rw[gZ];omega));have q:=Ab (A r);(go_wp2_with fail);refine q.mono ?_;rintro _ _ ⟨rfl,rfl⟩;clear q;(go_wp2_with fail);refine d.mono ?_;clear d b;rintro _ E ⟨rfl,c⟩;have b:=Ab c;clear c;go_wp2
    go_roundg (Z a-(k+1))
    case measure=>have:=Aa F;omega
    case rel=>exact⟨k+1,_,by go_num,by omega,rfl,by rw[gZ,gZ];omega,y,b⟩
  .have HE:Hid (s++⟨#[41,46]⟩=R):=by
    have h:=Aa t;rw[iC (by omega)]at h;exact h
   have DT:(⟨#[41,46]⟩:zA).size=2:=rfl;have d:=Ab (ML b j ⟨#[41,46]⟩ (by omega));clear b t;(go_wp2_with fail);refine d.mono ?_;clear d;rintro _ r ⟨rfl,c⟩;rw[Aa HE]at c;have d:=Ab (Yt c j);clear c;(go_wp2_with fail);refine d.mono ?_;clear d;rintro _ E ⟨rfl,H⟩;have W:=Ab (C.trans H);clear H;go_wp2;go_ret;exact⟨rfl,W⟩
theorem TU(Q y:Nat)(E:Option Addr)(H:Nat)(fs:mc EN)(w:l9)(T:w.cell? ⟨Q,y,Y⟩=V (U E (Z fs) H))(h:Iw w (U E (Z fs) H) fs)(CC:Z fs<=10000)
  (j:∀p∈fs,p.f.name.size<=1000000/\∀x∈p.f.zC,x.size<=1000000):
  Calls prog 42 #[kt (V ⟨Q,y,Y⟩)] w λe r=>e=lo (O (Tl lU (fs.map EN.f)))/\Ac [] w r:=by
 have HS:=Ab h;have HT:Hid (∀(p:EN) wr,p∈fs->Ac [] w wr->Calls prog 76 #[.agg (AW p).toArray] wr λe r=>e=lo (O (E0 p.f))/\Ac [] wr r):=λp wr b A=>J9 p wr ((h.each p b).1.kept A) (h.each p b).2 (j p b).2 (j p b).1
 have A1:Hid (∀p∈fs,(E0 p.f).size<=2000000000):=λp b=>PG (h.each p b).2 (j p b).2 (j p b).1
 obtain⟨R,v⟩:∃R,Tl lU (fs.map EN.f)=R:=⟨_,rfl⟩;rw[v];have F:Hid (Tl lU ((fs.drop 0).map EN.f)=R):=v;have a:=Ab (eL.new w);have A2:=Ab T;clear h v j T;have B9:(⟨#[10]⟩:zA).size=1:=rfl;have c1:=a.2.cellAt A2;obtain⟨N,S⟩:∃N,w.heap.size=N:=⟨_,rfl⟩;have HN:=Ab S;clear S;go_enter func42,ntmps42;go_wp2
 go_loopg [11] (Z fs) (λgk i wr=>∃(k:Nat) (s:zA),i=X .i64 k/\k<=Z fs/\gk=Z fs-k/\s.size<=k*2000000001/\Hid (Tl s ((fs.drop k).map EN.f)=R)/\Hid (eL w s wr))
 case atStart=>exact⟨0,lU,rfl,by omega,rfl,by simp,F,a⟩
 case round=>
  clear F a c1;obtain⟨k,s,rfl,A,D,CL,o,a⟩:=hrel;have HG:=Ab D;clear D;have BS:k*2000000001<=10000*2000000001:=iS _ (by omega);by_cases m:k<Z fs
  .obtain⟨g,B2,n,u,G,P,M,L,d0,d1⟩:=ID (HS.kept a.2) k m;simp only[gM]at M;obtain⟨rfl,_,rfl⟩:=M;have d:=Ab (HT fs[k] _ (gL m) (a.2.alloc (j2 #[O n,U G (Z u) P] 104)));have c:=Ab (a.kept ((me [] wr).alloc (j2 #[O n,U G (Z u) P] 104)));have t:=Aa A1 fs[k] (gL m);have q:Hid (Tl (s++E0 fs[k].f++⟨#[10]⟩) ((fs.drop (k+1)).map EN.f)=R):=by
    have h:=Aa o;rw[ij m,ii,Tl]at h;exact h
   rw[L]at d t q;simp only[AW]at d t q;generalize E0 ⟨n,u⟩=FT at d t q;clear L o a;(go_wp2_with fail);refine d.mono ?_;rintro _ w3 ⟨rfl,B⟩;have I:=Ab (ML (c.kept B) rfl FT (by omega));clear d B c;(go_wp2_with fail);refine I.mono ?_;clear I;rintro _ W ⟨rfl,l⟩;have z:=Ab (Qn l rfl 10 10 rfl (by rw[gZ];omega));clear l;(go_wp2_with fail);refine z.mono ?_;clear z;rintro _ w5 ⟨rfl,l⟩;have a:=Ab l;clear l;go_wp2
   go_roundg (Z fs-(k+1))
   case measure=>have:=Aa HG;omega
   case rel=>exact⟨k+1,_,by go_num,by omega,rfl,by rw[gZ,gZ];omega,q,a⟩
  .have HE:Hid (s=R):=by
    have h:=Aa o;rw[iC (by omega)]at h;exact h
   have c:=Ab (Yt a rfl);rw[Aa HE]at c;clear a o;(go_wp2_with fail);refine c.mono ?_;clear c;rintro _ W ⟨rfl,C⟩;have HF:=Ab C;clear C;go_wp2;go_ret;exact⟨rfl,HF⟩
end Go.Proofs.YtoihbhenbmffcaaGreatDoor
namespace Go.Proofs.YtoihbhenbmffcaaGreatDoor
open Go.Shelf Go.RowKit
open Go.Proofs.Tryz
def J0(N:Nat)(s:zA)(M:mc Nat)(w:l9):Prop:=
 ∃(p:lN) (ad:Option Addr) (cp:Nat),(p=kt Y\/p=kt (V ⟨N,0,Y⟩))/\AH w N [p,U ad s.size cp] 145/\lQ w (N+1) 5 1 (U ad s.size cp) s.size (Lib.strCells s)/\M=N::(U ad s.size cp).ownBlock.toList
def J0.lt{N:Nat}{s:zA}{M:mc Nat}{w:l9}(h:J0 N s M w):∀k∈M,N<=k/\k<w.heap.size:=by
 obtain⟨p,e,d,_,c,b,rfl⟩:=h;intro k a;rcases gP.1 a with rfl|a
 .exact⟨ig _,c.lt⟩
 .have:=b.lt k (by simpa using a);omega
def J0.kept{N:Nat}{s:zA}{M L:mc Nat}{w w':l9}(h:J0 N s M w)(k:Ac L w w')(a:∀i∈M,i∉L):J0 N s M w':=by
 obtain⟨p,g,d,b,e,c,rfl⟩:=h;exact⟨p,g,d,b,e.kept k (a N (by simp)),Ai c k (λi f=>a i (by simp[f])),rfl⟩
def J0.new(w:l9):J0 w.heap.size lU [w.heap.size] (w.alloc (j2 #[kt Y,U Y 0 0] 145)):=
 ⟨kt Y,Y,0,lx rfl,mf w [kt Y,U Y 0 0] 145,ip _ _ _ _,rfl⟩
def XG:Lays.n240 prog dK:={Ya with}
def Hy(N:Nat)(p v:lN)(w:l9)(b:p=kt Y\/p=kt (V ⟨N,0,Y⟩))(h:AH w N [p,v] 145):
  Calls prog 125 #[kt (V ⟨N,0,Y⟩)] w λe a=>e=lo (.tuple #[])/\AH a N [kt (V ⟨N,0,Y⟩),v] 145/\Ac [N] w a:=by
 rcases b with rfl|rfl
 .refine(Any.Builder_copyCheck_fresh XG dY.toX72 N w (h.cell 0) (by unfold AH at h;simp[World.shape?,h];rfl) (h.frozen 0)).mono ?_;rintro e a ⟨rfl,rfl⟩;exact⟨rfl,h.set 0 _,(me _ w).setCell (by simp) _⟩
 .refine(Any.Builder_copyCheck_used XG dY.toX72 N w (h.cell 0)).mono ?_;rintro e a ⟨rfl,rfl⟩;exact⟨rfl,h,me _ _⟩
def am(N:Nat)(s:zA)(M:mc Nat)(w w':l9):Prop:=∃M',J0 N s M' w'/\Ac M w w'/\∀k∈M',(k∈M\/w.heap.size<=k)/\k<w'.heap.size
set_option maxRecDepth 100000
theorem SF(N:Nat)(s:zA)(M:mc Nat)(d:UInt8)(w:l9)(h:J0 N s M w)(hl:s.size+1<=140737488355328):
  Calls prog 77 #[kt (V ⟨N,0,Y⟩),X .u8 (d.toNat:Int)] w λe B=>e=lo .nilIface/\am N (s++⟨#[d]⟩) M w B:=by
 obtain⟨P,T,C,G,Q⟩:=iR Tryz.yH;obtain⟨p,r,y,t,z,l,rfl⟩:=h;have n:=Ab (Hy N p _ w t z);have F:=l.lt;clear t z;go_enter func77,ntmps77;go_wp2_with fail
 refine n.mono ?_;rintro _ a ⟨rfl,b,f⟩;have A:=Ai l f (λi R v=>by simp at v;subst v;have:=(l.lt i R).1;omega);have L:=b.cell 1;have f1:=b.frozen 1;simp at L;have A1:=f.size;have A0:=b.lt;clear n F;go_wp2_with (at_builtin;refine io _ rfl (.tmp 11) (.tmp 13) _ rfl (N+1) 5 P _ 1 1 underlying143 T C G Q rfl (by omega) (U r s.size y) s.size (Lib.strCells s) rfl (A.alloc _) ⟨a.heap.size,0,Y⟩ 1 1 [X .u8 (d.toNat:Int)] rfl rfl (iu (iD a _)) (by simp[Value.oneCell']) (by omega) (by unfold maxLen;omega) (by omega) (by simp;omega) (a.heap.size+1) (by simp) ?_;intro x u S o m I AO;have g:=(b.alloc (j2 #[X .u8 (d.toNat:Int)] 5)).grown m (λe=>by have:=(A.lt N e).1;omega);have D:=g.cell 1;have W:=g.frozen 1;simp at D)
 go_ret;refine⟨rfl,N::(U (V ⟨x,0,Y⟩) (s.size+1) u).ownBlock.toList,?_,?_,?_⟩
 .have j:(s++⟨#[d]⟩:zA).size=s.size+1:=by rw[gZ];rfl
  refine⟨_,V ⟨x,0,Y⟩,u,ly rfl,by rw[j];exact g.set 1 _,?_,by rw[j]⟩;rw[j,GJ];exact Ag o (λh=>by have:=(o.lt _ h).1;simp at this;omega) _
 .have H:=((f.mono (N:=N::(U r s.size y).ownBlock.toList) (by simp)).alloc (j2 #[X .u8 (d.toNat:Int)] 5)).grown m (λq E=>lx (by simp[E]));exact H.setCell (lx (by simp)) _
 .intro k c;have Ax:a.heap.size<=S.heap.size:=by have:=m.size;simp at this;omega
  rcases gP.1 c with rfl|c
  .exact⟨lx (by simp),by simp;omega⟩
  .simp only[lX,Option.toList_some,gN]at c;subst c;refine⟨?_,by simp;omega⟩;rcases I with h|h
   .exact lx (by simp[h])
   .exact ly (by omega)
def QW(w:l9)(base:Nat)(f:TypeId)(i:TypeInfo)(m:prog.info? 5=V i)(q:i.zero=V (X .u8 0))(o:i.size=1)(r:i.bytes=1)(v:lN)(n:Nat)(l:mc lN)(h:lQ w base 5 1 v n l)(s:zA)(y:n+s.size<=140737488355328)(A:base<=w.heap.size):
  ∃c b,(Builtin.append_ #[143,9] f #[v,O s]).run prog w=.ok c b/\lQ b base 5 1 c (n+s.size) (l++Lib.strCells s)/\w.grownBy b v.ownBlock/\∀g,c.ownBlock=V g->v.ownBlock=V g\/w.heap.size<=g:=by
 obtain⟨c,b,k,B,u,C⟩:=Lib.run_append_own_string (P:=prog) w base 143 9 f 5 i underlying143 underlying9 m q o r v n l h s (by unfold maxLen;omega) y A;refine⟨c,b,k,B,u,λg a=>?_⟩;rcases h.2 with⟨rfl,rfl⟩|⟨p,j,t,rfl,G,E,H,F,D,I⟩
 .by_cases x:s.size=0
  .rw[C.2 ⟨rfl,x⟩]at a;simp[lX]at a
  .have e:=run_append_nil_string (P:=prog) w 143 9 f 5 i (X .u8 0) underlying143 underlying9 m q s (by omega) (by omega) (by rw[r];omega);rw[k]at e;have d:=(Result.ok.inj e).1;rw[d]at a;simp[lX]at a;exact ly (by omega)
 .by_cases z:n+s.size<=j
  ·(have L:t.size=j:=by simpa using D);have e:=Lib.run_append_room_string (P:=prog) w 143 9 f 5 i underlying143 underlying9 m o p n j t E s z (by omega);rw[k]at e;have d:=(Result.ok.inj e).1;rw[d]at a;exact lx a
  .have e:=Lib.run_append_grow_string (P:=prog) w 143 9 f 5 i (X .u8 0) underlying143 underlying9 m q ⟨p,0,Y⟩ n j l (by rw[o];simpa using h.1) (h.cells (g:=p) rfl) s (by omega) (by omega) (by rw[r];exact growslice_fits (by omega) (by omega));rw[k]at e;have d:=(Result.ok.inj e).1;rw[d]at a;simp[lX]at a;exact ly (by omega)
def wpList_append_run{P:Program}{w w':l9}{ops:Array Oper}{d:mc Oper}{o:Oper}{a:Act}{Q:Exit->Act->l9->Prop}(e:o.guard=Y)(b x:Operand)(t u:TypeId)(f:o.op=.call {callee:=.builtin .append,args:=#[b,x],argTypes:=#[t,u]}){v c y:lN}(j:a.eval b=v)(k:a.eval x=y)
  (g:(Builtin.append_ #[t,u] o.type #[v,y]).run P w=.ok c w') (h:wpList P ops Q d (a.put o.dst c) w'):wpList P ops Q (o::d) a w:=by
 refine wpList_plain e λl i=>?_
 unfold Oper.wp execOp;simp only[f,resolve,invoke,builtin,lh,Sem.run_pure,Result.andThen_ok,List.map_toArray,ii,jM,j,k,g];exact i _ _ h
def Px{N:Nat}{s x:zA}{a:Option Addr}{b:Nat}{w d p:l9}{j:lN}(E:lQ w (N+1) 5 1 (U a s.size b) s.size (Lib.strCells s))(t:AH d N [kt (V ⟨N,0,Y⟩),U a s.size b] 145)(q:Ac [N] w d)(z:lQ d (N+1) 5 1 (U a s.size b) s.size (Lib.strCells s))
  (f:lQ p (N+1) 5 1 j (s.size+x.size) (Lib.strCells s++Lib.strCells x)) (l:Ac (U a s.size b).ownBlock.toList d p) (y:∀g,j.ownBlock=V g->(U a s.size b).ownBlock=V g\/d.heap.size<=g):
  am N (s++x) (N::(U a s.size b).ownBlock.toList) w (p.setCell ⟨N,1,Y⟩ j):=by
 have r:=t.kept l (λe=>by have:=(z.lt N (by simpa using e)).1;omega);have m:(s++x:zA).size=s.size+x.size:=gZ;have D:=q.size;have B:=l.size;have C:=r.lt;obtain⟨n,o,rfl⟩:=Al f;refine⟨N::(U n (s.size+x.size) o).ownBlock.toList,?_,?_,?_⟩
 .refine⟨_,n,o,ly rfl,by rw[m];exact r.set 1 _,?_,by rw[m]⟩;rw[m,GJ];exact Ag f (λh=>by have:=(f.lt _ h).1;simp at this;omega) _
 .have u:=(q.mono (N:=N::(U a s.size b).ownBlock.toList) (by simp)).trans (l.mono (λi v=>iB _ v));exact u.setCell (lx (by simp)) _
 .intro k c;rcases gP.1 c with rfl|c
  .exact⟨lx (by simp),by simp;omega⟩
  ·(have c:(U n (s.size+x.size) o).ownBlock=V k:=by simpa using c);have A:=(f.lt k c).2;refine⟨?_,by simp;omega⟩;rcases y k c with h|h
   .exact lx (by simp[h])
   .exact ly (by omega)
theorem Vm(N:Nat)(s:zA)(M:mc Nat)(x:zA)(w:l9)(h:J0 N s M w)(F:s.size+x.size<=140737488355328):
  Calls prog 75 #[kt (V ⟨N,0,Y⟩),O x] w λe u=>e=lo (.tuple #[X .i64 x.size,.nilIface])/\am N (s++x) M w u:=by
 obtain⟨C,I,v,A,E⟩:=iR Tryz.yH;obtain⟨p,S,cp,n,t,b,rfl⟩:=h;have l:=Ab (Hy N p _ w n t);clear n t;go_enter func75,ntmps75;go_wp2_with fail
 refine l.mono ?_;rintro _ k ⟨rfl,a,d⟩;have c:=Ai b d (λi G r=>by simp at r;subst r;have:=(b.lt i G).1;omega);have B:=a.cell 1;have Q:=a.frozen 1;simp at B;have R:=a.lt;obtain⟨P,w5,o,f,j,m⟩:=QW k (N+1) 143 C I v A E _ _ _ c x F (by omega);obtain⟨T,W,rfl⟩:=Al f;have D:=Ab o;have H:=Ab (Px b a d c f ((me _ k).grown j (λq z=>lx (by simp[z]))) m);have g:=a.grown j (λe=>by have:=(c.lt N e).1;omega);have y:=g.cell 1;have L:=g.frozen 1;simp at y;clear l b a d c f j m g o;go_wp2_with (at_builtin;refine wpList_append_run rfl (.tmp 12) (.tmp 13) 143 9 rfl rfl rfl D ?_)
 go_ret2;exact⟨rfl,H⟩
theorem OR(N n:Nat)(a:Option Addr)(b:Nat)(c:mc lN)(d:UInt8)(w:l9)(x:lQ w (N+1) 5 1 (U a n b) n c)(j:d.toNat<=127)(C:n+1<=140737488355328)(H:N<w.heap.size):
  Calls prog 143 #[U a n b,X .i32 (d.toNat:Int)] w λe f=>∃g i,e=lo (U (V ⟨g,0,Y⟩) (n+1) i)/\lQ f (N+1) 5 1 (U (V ⟨g,0,Y⟩) (n+1) i) (n+1) (c++[X .u8 (d.toNat:Int)])/\Ac (U a n b).ownBlock.toList w f/\((U a n b).ownBlock=V g\/w.heap.size<=g):=by
 obtain⟨s,z,k,p,t⟩:=iR Tryz.yH;obtain⟨D,l⟩:∃D:Nat,d.toNat=D:=⟨_,rfl⟩;rw[l]at j⊢;have E:IntKind.u32.wrap (D:Int)=D:=by rw[IntKind.wrap_u32];omega
 have A:IntKind.u8.wrap (D:Int)=D:=by rw[IntKind.wrap_u8];omega
 have F:(D:Int)<=127:=by omega
 go_enter func143,ntmps143;go_wp2_with (at_builtin;refine io _ rfl (.tmp 8) (.tmp 11) _ rfl (N+1) 5 s _ 1 1 underlying143 z k p t rfl (by omega) (U a n b) n c rfl (x.alloc _) ⟨w.heap.size,0,Y⟩ 1 1 [X .u8 (D:Int)] rfl rfl (iu (iD w _)) (by simp[Value.oneCell']) (by omega) (by unfold maxLen;omega) (by omega) (by simp;omega) (w.heap.size+1) (by simp) ?_;intro v u G o y r B)
 go_ret;exact⟨v,u,rfl,o,((me _ w).alloc _).grown y (λq m=>lx (by simp[m])),r.imp id (λh=>by omega)⟩
theorem YI(N:Nat)(s:zA)(M:mc Nat)(d:UInt8)(w:l9)(h:J0 N s M w)(H:d.toNat<=127)(T:s.size+1<=140737488355328):
  Calls prog 95 #[kt (V ⟨N,0,Y⟩),X .i32 (d.toNat:Int)] w λe L=>(∃v,e=lo v)/\am N (s++⟨#[d]⟩) M w L:=by
 obtain⟨p,j,k,E,G,o,rfl⟩:=h;have A:=Ab (Hy N p _ w E G);clear E G;go_enter func95,ntmps95;go_wp2_with fail
 refine A.mono ?_;rintro _ u ⟨rfl,c,t⟩;have r:=Ai o t (λi W F=>by simp at F;subst F;have:=(o.lt i W).1;omega);have R:=c.cell 1;simp at R;have S:=c.lt;have y:=Ab (OR N s.size j k (Lib.strCells s) d u r H T S);have z:Hid (∀a g b,lQ a (N+1) 5 1 (U (V ⟨g,0,Y⟩) (s.size+1) b) (s.size+1) (Lib.strCells s++[X .u8 (d.toNat:Int)])->Ac (U j s.size k).ownBlock.toList u a->((U j s.size k).ownBlock=V g\/u.heap.size<=g)->am N (s++⟨#[d]⟩) (N::(U j s.size k).ownBlock.toList) w (a.setCell ⟨N,1,Y⟩ (U (V ⟨g,0,Y⟩) (s.size+1) b))/\AH a N [kt (V ⟨N,0,Y⟩),U j s.size k] 145):=by
  intro a g b m f n;exact⟨Px (x:=⟨#[d]⟩) o c t r m f (λq B=>by simp[lX]at B;subst B;exact n),c.kept f (λe=>by have:=(r.lt N (by simpa using e)).1;omega)⟩
 generalize(d.toNat:Int)=D at y z⊢;clear A o c t r;go_wp2_with fail
 refine y.mono ?_;rintro _ a ⟨g,b,rfl,m,f,n⟩;obtain⟨C,l⟩:=z a g b m f n;have P:=l.cell 1;have yf:=l.frozen 1;simp at P;have Q:=(l.set 1 (U (V ⟨g,0,Y⟩) (s.size+1) b)).cell 1;simp at Q;have I:=Ab C;clear C l z y m f n;go_wp2;go_ret2;exact⟨⟨_,rfl⟩,I⟩
def U5(N:Nat)(s:zA)(M:mc Nat)(w:l9)(h:J0 N s M w):
  Calls prog 78 #[kt (V ⟨N,0,Y⟩)] w λe a=>e=lo (O s)/\Below N w a/\Lib.OthersKept 5 (V N) w a:=by
 obtain⟨p,l,i,f,c,b,rfl⟩:=h;have d:Lib.BuilderAtF 145 5 N N p (Lib.byteCells s.data.toList) w:=by
  have k:Z (Lib.byteCells s.data.toList)=s.size:=by rw[Lib.byteCells_length];rfl
  refine⟨ig _,U l s.size i,c,?_,λe=>by have:=(b.lt N e).1;omega⟩;rw[k];exact World.ownsRowF_of (Am b (by omega))
 refine(NW N N s.data.toList w ?_ (Nat.le_of_lt c.lt)).mono ?_
 .rcases f with rfl|rfl
  .exact lx d
  .exact ly d
 .rintro e a ⟨rfl,_,g,j⟩;exact⟨by simp,g,j⟩
