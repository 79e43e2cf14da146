import Derived.Test.YtoihbhenbmffcaaGreatDoorYAT
import Derived.Test.YtoihbhenbmffcaaGreatDoorYAG
set_option linter.all false
set_option maxHeartbeats 0
namespace Go.Proofs.YtoihbhenbmffcaaGreatDoor
open Go.RowKit Go.Proofs.Tryz
def A6(l:PL):Bool:=l.sort==0||l.sort==1
def AI(l:PL):List A3:=if A6 l then l.ts else[l.l,l.r]
theorem ML(l:PL)(p:Option Addr)(n o:Nat)(w:World):
  Calls prog 135 #[.agg (Aq (l,.slice p n o)).toArray] w λe q=>e=.returned (.bool (A6 l))/\Ac [] w q:=by
 have j:=(Ac.refl [] w).alloc (.cells (Aq (l,.slice p n o)).toArray 217);obtain⟨i,a,m,c,d,f,g⟩:=l;have r:Hid (∀b,A6 ⟨i,a,m,c,d,f,g⟩=b->(a==0||a==1)=b):=λb h=>h
 simp only[Aq]at j⊢;go_enter func135,ntmps135;cases h0:(a==0)with
 |true=>
  have k:Hid (A6 ⟨i,a,m,c,d,f,g⟩=true):=by show _=_;unfold A6;simp only;rw[h0];rfl
  go_wp2;go_ret;rw[k.out];exact⟨rfl,j⟩
 |false=>
  have k:Hid (A6 ⟨i,a,m,c,d,f,g⟩=(a==1)):=by show _=_;unfold A6;simp only;rw[h0];rfl
  go_wp2;go_ret;rw[k.out];exact⟨rfl,j⟩
theorem WL{w:World}{N:Nat}{cs:List Value}{t:TypeId}(h:AE w N cs t){n size:Nat}(a:cs.length=n*size)(b:n<=maxLen):w.ownsRow 0 t size (.slice (some ⟨N,0,none⟩) n n) n cs:=by
 refine⟨a,Or.inr ⟨N,n,cs.toArray,rfl,b8 _,h,bZ _,b,by simpa using a,?_⟩⟩;rw[<-a];simp
theorem KN(l:PL)(c:Option Addr)(d:Nat)(w:World)(h:Jf w 0 (l,.slice c l.ts.length d)):
  Calls prog 137 #[.agg (Aq (l,.slice c l.ts.length d)).toArray] w λe p=>∃z A,e=.returned (.slice z (AI l).length A)/\p.ownsRow 0 215 2 (.slice z (AI l).length A) (AI l).length ((AI l).flatMap Ao)/\Ac [] w p:=by
 have j:=Ab ((Ac.refl [] w).alloc (.cells (Aq (l,.slice c l.ts.length d)).toArray 217));have o:=Ab (AE.new w (Aq (l,.slice c l.ts.length d)) 217);have r:=Ab (Ad h (Aa j) (by simp));have t:Hid (∀w,Calls prog 135 #[.agg (Aq (l,.slice c l.ts.length d)).toArray] w λe p=>e=.returned (.bool (A6 l))/\Ac [] w p):=λw=>ML l c l.ts.length d w
 clear h;obtain⟨k,i,n,m,f,a,b⟩:=l;simp only[Aq]at j o r t⊢;go_enter func137,ntmps137;go_wp2_with fail
 change Calls _ _ _ (w.alloc (.cells [.int .i64 k,.int .i64 i,.int .i64 n,.string m,.slice c f.length d,.int .i32 a.v,.string a.s,.int .i32 b.v,.string b.s].toArray 217)) _;generalize w.alloc (.cells [.int .i64 k,.int .i64 i,.int .i64 n,.string m,.slice c f.length d,.int .i32 a.v,.string a.s,.int .i32 b.v,.string b.s].toArray 217)=w1 at j o r⊢;generalize w.heap.size=N at o⊢;refine(Aa t w1).mono ?_;rintro e u ⟨rfl,q⟩;have g:=(Aa o).kept q (by simp);have y:=Ab ((Aa j).trans q);have F:=Ab (Ad (Aa r) q (by simp));have H:=g.cell 4;have E:=g.cell 5;have G:=g.cell 6;have C:=g.cell 7;have B:=g.cell 8;simp at H E G C B;clear g o r j q t;cases hh:A6 ⟨k,i,n,m,f,a,b⟩with
 |true=>
  have x:Hid (AI ⟨k,i,n,m,f,a,b⟩=f):=by show _=_;unfold AI;rw[hh];rfl
  clear hh;go_wp2;go_ret;rw[x.out];exact⟨c,d,rfl,Aa F,Aa y⟩
 |false=>
  have x:Hid (AI ⟨k,i,n,m,f,a,b⟩=[a,b]):=by show _=_;unfold AI;rw[hh];rfl
  clear hh;have D:Hid ((u.alloc (.cells [.int .i32 a.v,.string a.s,.int .i32 b.v,.string b.s].toArray 215)).ownsRow 0 215 2 (.slice (some ⟨u.heap.size,0,none⟩) 2 2) 2 [.int .i32 a.v,.string a.s,.int .i32 b.v,.string b.s]):=WL (AE.new u _ 215) rfl (by unfold maxLen;omega);go_wp2;go_ret;rw[x.out];exact⟨_,_,rfl,Aa D,(Aa y).alloc _⟩
theorem Tryz.zB:(Tryz.prog.info? 187).map (λi=>(i.zero,i.size,i.bytes))=some (some (.agg #[.int .i64 0,.string ⟨#[]⟩,.slice none 0 0]),3,48):=by kernel_rfl
theorem Rh(p:JF):(Aq p).length=9:=rfl
theorem Q4(p:Gp):(AF p).length=3:=rfl
theorem Rk(p:A3):(Ao p).length=2:=rfl
theorem Hu{w:World}{base:Nat}{C:Value}{e:List JF}(h:BI w base C e)(k:Nat)(a:k<e.length):
  ∃g o l d f,C=.slice (some ⟨g,0,none⟩) e.length o/\e[k]=(l,.slice d l.ts.length f)/\Jf w base (l,.slice d l.ts.length f)/\
   w.cell? ⟨g,k*9,none⟩=some (.int .i64 l.place)/\w.cell? ⟨g,k*9+1,none⟩=some (.int .i64 l.sort)/\w.cell? ⟨g,k*9+2,none⟩=some (.int .i64 l.ap)/\w.cell? ⟨g,k*9+3,none⟩=some (.string l.an)/\w.cell? ⟨g,k*9+4,none⟩=some (.slice d l.ts.length f)/\
   w.cell? ⟨g,k*9+5,none⟩=some (.int .i32 l.l.v)/\w.cell? ⟨g,k*9+6,none⟩=some (.string l.l.s)/\w.cell? ⟨g,k*9+7,none⟩=some (.int .i32 l.r.v)/\w.cell? ⟨g,k*9+8,none⟩=some (.string l.r.s):=by
 obtain⟨g,o,D,_,b⟩:=Av h.row (λc _=>Rh c) k a;have u:=(h.each _ (bL a)).1;obtain⟨d,f,m⟩:=Aj u;have t:=b k a 0 (by omega);have n:=b k a 1 (by omega);have i:=b k a 2 (by omega);have j:=b k a 3 (by omega);have z:=b k a 4 (by omega);have x:=b k a 5 (by omega);have q:=b k a 6 (by omega);have p:=b k a 7 (by omega);have y:=b k a 8 (by omega);obtain⟨l,A,B⟩:∃l A,e[k]=(l,A):=⟨_,_,rfl⟩;rw[B]at t n i j z x q p y u m;simp only at m;subst m;simp[Aq]at t n i j z x q p y;exact⟨g,o,l,d,f,D,B,u,t,n,i,j,z,x,q,p,y⟩
def AJ(db:List JF):List Gp:=(db.filter λp=>A6 p.1).map λp=>⟨p.1.ap,p.1.an,p.2⟩
def Bi(c:C0):List Gp:=⟨c.hp,c.hn,c.hv⟩::AJ c.db
theorem Nw{a:List JF}{k:Nat}(b:k<a.length):AJ (a.take (k+1))=AJ (a.take k)++(if A6 a[k].1 then[⟨a[k].1.ap,a[k].1.an,a[k].2⟩] else[]):=by
 unfold AJ;rw[bM b,dZ,cW]
 congr 1
 by_cases h:A6 a[k].1=true<;>simp[h]
theorem Dt(a:List JF):(AJ a).length<=a.length:=by
 unfold AJ;rw[bX];exact dw _ _
set_option maxRecDepth 100000
theorem Ke(D:Option Addr)(M:Nat)(a:List JF)(w:World)(h:BI w 0 (.slice D a.length M) a)(FP:a.length<=1000):
  Calls prog 92 #[.slice D a.length M] w λe B=>∃f j,e=.returned (.slice f (AJ a).length j)/\B.ownsRow w.heap.size 187 3 (.slice f (AJ a).length j) (AJ a).length ((AJ a).flatMap AF)/\Ac [] w B:=by
 obtain⟨i0,FC,R,X,Bx⟩:=cU Tryz.zB;have V:=Ab h;clear h;go_enter func92,ntmps92;go_wp2
 go_loopg [3,8] a.length (λgk o i wr=>∃(k:Nat) (b:List Gp) (f:Option Addr) (j:Nat),o=.slice f b.length j/\i=.int .i64 k/\k<=a.length/\b.length<=k/\gk=a.length-k/\Hid (b=AJ (a.take k))/\wr.ownsRow w.heap.size 187 3 (.slice f b.length j) b.length (b.flatMap AF)/\Hid (Ac [] w wr))
 case atStart=>exact⟨0,[],none,0,rfl,rfl,by omega,by simp,rfl,by show _=_;simp[AJ],ck _ _ _ _,Ac.refl _ _⟩
 case round=>
  obtain⟨k,b,f,j,rfl,rfl,G,FW,I,q,v,p⟩:=hrel;have H:=Ab I;clear I;by_cases A:k<a.length
  .have N:=(Aa V).kept (Aa p) (by simp);have Ha:=(Aa p).size;obtain⟨g,FO,l,c,d,E,L,BA,d0,W,P,Q,d4,d5,Z,Y,d8⟩:=Hu N k A;simp only[bK]at E;obtain⟨rfl,_,rfl⟩:=E;have s:=Ab (Nw A);rw[L]at s;clear N BA L;have z:=Ab (ML l c l.ts.length d (wr.alloc (.cells (Aq (l,.slice c l.ts.length d)).toArray 217)));simp only[Aq]at z;have O:=Ab (AE.new wr (Aq (l,.slice c l.ts.length d)) 217);have C:=Ab ((Aa p).alloc (.cells (Aq (l,.slice c l.ts.length d)).toArray 217));have F:=Ab (bQ v (.cells (Aq (l,.slice c l.ts.length d)).toArray 217));(go_wp2_with fail);refine(Aa z).mono ?_;rintro e m ⟨rfl,n⟩;have u:=(Aa O).kept n (by simp);have K:=Ab ((Aa C).trans n);have x:=Ad (Aa F) n (by simp);have J:=n.size;(have FL:wr.heap.size+1<=m.heap.size:=by simpa using J);have c2:=u.cell 2;have c3:=u.cell 3;have c4:=u.cell 4;simp[Aq]at c2 c3 c4;clear u n O C F z d0 W P Q d4 d5 Z Y d8 v p J;cases hh:A6 l with
   |false=>
    (have y:Hid (b=AJ (a.take (k+1))):=by show _=_;rw[Aa s,hh,Aa q];simp);clear hh q s;go_wp2
    go_roundg (a.length-(k+1))
    case measure=>have:=Aa H;omega
    case rel=>exact⟨k+1,b,f,j,rfl,by go_num,by omega,by omega,rfl,y,x,K⟩
   |true=>
    (have y:Hid (b++[⟨l.ap,l.an,.slice c l.ts.length d⟩]=AJ (a.take (k+1))):=by show _=_;rw[Aa s,hh,Aa q];simp);clear hh q s;have AB:=cA m (.cells (AF ⟨l.ap,l.an,.slice c l.ts.length d⟩).toArray 187);have ES:=bQ x (.cells (AF ⟨l.ap,l.an,.slice c l.ts.length d⟩).toArray 187);(have T:Hid (∀r,(m.alloc (.cells (AF ⟨l.ap,l.an,.slice c l.ts.length d⟩).toArray 187)).grownBy r (Value.slice f b.length j).ownBlock->Ac [] w r):=λr S=>((Aa K).alloc _).grown S (λk G=>Or.inr ((x.lt k G).1)));go_wp2_with (at_builtin;refine cd _ rfl (.tmp 14) (.tmp 17) _ rfl w.heap.size 187 i0 _ 3 48 underlying163 FC R X Bx rfl (by omega) (.slice f b.length j) b.length (b.flatMap AF) rfl ES ⟨m.heap.size,0,none⟩ 1 1 (AF ⟨l.ap,l.an,.slice c l.ts.length d⟩) rfl rfl (cj (cs:=(AF ⟨l.ap,l.an,.slice c l.ts.length d⟩).toArray) (t:=187) (fr:=(0,0)) AB) (by simp[Value.oneCell',AF]) (by omega) (by unfold maxLen;omega) (by omega) (by simp;omega) (m.heap.size+1) (by simp) ?_;intro g1 U r B9 Ax FF Go)
    go_roundg (a.length-(k+1))
    case measure=>have:=Aa H;omega
    case rel=>exact⟨k+1,b++[⟨l.ap,l.an,.slice c l.ts.length d⟩],some ⟨g1,0,none⟩,U,by simp,by go_num,by omega,by simp;omega,rfl,y,by simpa using B9,Aa T r Ax⟩
  .have HE:Hid (b=AJ a):=by
    have h:=Aa q;rw[bP (by omega)]at h;exact h
   go_wp2;go_ret;rw[<-HE.out];exact⟨f,j,rfl,v,Aa p⟩
theorem Wy(w:World)(base:Nat)(b:List JF)(v:Value)(h:BI w base v b):∀u∈(AJ b).flatMap AF,u.oneCell'=true:=by
 intro u f;obtain⟨t,d,a⟩:=cO.1 f;obtain⟨p,c,rfl⟩:=bV.1 d;obtain⟨i,g,e⟩:=Aj (h.each p (cn.1 c).1).1;simp only[AF,bS,di,or_false]at a;rcases a with rfl|rfl|rfl
 .rfl
 .rfl
 .rw[e];rfl
theorem JS(c:C0)(w:World)(h:IP w 0 c.hv c.bv c.eB c.db)(R:c.db.length<=1000):
    Calls prog 119 #[.agg (A9 c).toArray] w λe t=>∃v z,e=.returned (.slice v (Bi c).length z)/\t.ownsRow w.heap.size 187 3 (.slice v (Bi c).length z) (Bi c).length ((Bi c).flatMap AF)/\Ac [] w t:=by
  obtain⟨T,P,K,Q,S⟩:=cU Tryz.zB
  obtain⟨f,i,b,hv,bv,a⟩:=c
  simp only at h R
  obtain⟨g,d,rfl⟩:=Aj h.head
  obtain⟨l,m,rfl⟩:=Aj h.body.row
  have M:Hid (∀wr,Ac [] w wr->Calls prog 92 #[.slice l a.length m] wr λe t=>∃v z,e=.returned (.slice v (AJ a).length z)/\t.ownsRow wr.heap.size 187 3 (.slice v (AJ a).length z) (AJ a).length ((AJ a).flatMap AF)/\Ac [] wr t):=λwr p=>Ke l m a wr (h.body.kept p (by simp)) R
  have E:=Ab (Wy w 0 a _ h.body)
  have Ax:=Dt a
  have A:Hid (Bi ⟨f,i,b,.slice g b.length d,.slice l a.length m,a⟩=[⟨f,i,.slice g b.length d⟩]++AJ a):=rfl
  generalize Bi ⟨f,i,b,.slice g b.length d,.slice l a.length m,a⟩=AT at A⊢
  generalize AJ a=BA at M E Ax A
  clear h
  simp only[A9]
  have q:=Ab (AE.new w [.int .i64 f,.string i,.slice g b.length d,.slice l a.length m] 189)
  have x:=Ab ((Ac.refl [] w).alloc (.cells [.int .i64 f,.string i,.slice g b.length d,.slice l a.length m].toArray 189))
  go_enter func119,ntmps119
  go_wp2_with fail
  change Code.wp _ _ _ _ (w.alloc (.cells [.int .i64 f,.string i,.slice g b.length d,.slice l a.length m].toArray 189))
  have F:(w.alloc (.cells [.int .i64 f,.string i,.slice g b.length d,.slice l a.length m].toArray 189)).heap.size=w.heap.size+1:=by simp
  generalize w.alloc (.cells [.int .i64 f,.string i,.slice g b.length d,.slice l a.length m].toArray 189)=w1 at q x F⊢
  obtain⟨N,C⟩:∃N,w.heap.size=N:=⟨_,rfl⟩
  rw[C]at q F⊢
  have c0:=(Aa q).cell 0
  have c1:=(Aa q).cell 1
  have c2:=(Aa q).cell 2
  have c3:=(Aa q).cell 3
  simp at c0 c1 c2 c3
  have H:=Ab C
  have G:AT.length=1+BA.length:=by rw[Aa A];simp;omega
  have Y:Hid (∀(r:World) (o:Option Addr) (n:Nat),r.ownsRow N 187 3 (.slice o (1+BA.length) n) (1+BA.length) (AF ⟨f,i,.slice g b.length d⟩++BA.flatMap AF)->r.ownsRow N 187 3 (.slice o AT.length n) AT.length (AT.flatMap AF)):=by
    intro r o n ho
    rw[G,Aa A,cw]
    simpa using ho
  have L:=Ab G
  have EK:Hid ((w1.drew.alloc (.cells (AF ⟨f,i,.slice g b.length d⟩).toArray 187)).ownsRow N 187 3 (.slice (some ⟨N+1,0,none⟩) 1 1) 1 (AF ⟨f,i,.slice g b.length d⟩)):=by
    have V:=AE.new w1.drew (AF ⟨f,i,.slice g b.length d⟩) 187
    rw[show w1.drew.heap.size=N+1 from F]at V
    exact⟨rfl,Or.inr ⟨N+1,1,_,rfl,by omega,V,bZ _,by unfold maxLen;omega,rfl,rfl⟩⟩
  have CC:Hid (∀j:World,N<=j.heap.size->(j.alloc (.cells (AF ⟨f,i,.slice g b.length d⟩).toArray 187)).ownsRow N 187 3 (.slice (some ⟨j.heap.size,0,none⟩) 1 1) 1 (AF ⟨f,i,.slice g b.length d⟩)):=λj p=>⟨rfl,Or.inr ⟨j.heap.size,1,_,rfl,p,AE.new j _ 187,bZ _,by unfold maxLen;omega,rfl,rfl⟩⟩
  clear C G
  go_region_law
    (first
      | (go_simp;go_at_call 92;refine(Aa M _ (by first|exact(Aa x).drew|exact((Aa x).drew).alloc _)).mono ?_;rintro e j ⟨U,W,rfl,X,u⟩;
         have O:=u.size;
         first
           | (have AB:=Ad (Aa EK) u (by simp);have D:=((Aa x).drew.alloc _).trans u;have Bx:N+2<=j.heap.size:=by simp at O;omega)
           | (have I:=(Aa q).drew.kept u (by simp);have Z:=I.cell 0;have e1:=I.cell 1;have e2:=I.cell 2;simp at Z e1 e2;have D:=(Aa x).drew.trans u;have Bx:N+1<=j.heap.size:=by simp at O;omega))
      | (refine Iz _ (by rfl) _ _ _ (by rfl) N 187 T _ 3 48 underlying163 P K Q S rfl (by omega) (some ⟨N+1,0,none⟩) 1 1 (AF ⟨f,i,.slice g b.length d⟩) (by rfl) AB _ U BA.length W (BA.flatMap AF) (by rfl) X (Aa E) (by unfold maxLen;omega) (by omega) (by omega) ?_;intro o n r s y J;have B:=Ab (And.intro (Aa Y r o n s) (D.grown y (λk p=>Or.inr (by simp[Value.ownBlock]at p;have:=Aa H;omega))));clear s y J)
      | (refine Iz _ (by rfl) _ _ _ (by rfl) N 187 T _ 3 48 underlying163 P K Q S rfl (by omega) (some ⟨j.heap.size,0,none⟩) 1 1 (AF ⟨f,i,.slice g b.length d⟩) (by rfl) (Aa CC j (by omega)) _ U BA.length W (BA.flatMap AF) (by rfl) (bQ X _) (Aa E) (by unfold maxLen;omega) (by omega) (by simp;omega) ?_;intro o n r s y J;have B:=Ab (And.intro (Aa Y r o n s) ((D.alloc _).grown y (λk p=>Or.inr (by simp[Value.ownBlock]at p;have:=Aa H;omega))));clear s y J))
  all_goals
    go_wp2
    go_ret
    rw[Aa H,Aa L]
    exact⟨o,n,rfl,by have h:=(Aa B).1;rw[Aa L]at h;exact h,(Aa B).2⟩
def AU(db:List JF):List A3:=db.flatMap λp=>AI p.1
def Bn(c:C0):List A3:=c.eB++AU c.db
theorem NB{a:List JF}{k:Nat}(b:k<a.length):AU (a.take (k+1))=AU (a.take k)++AI a[k].1:=by
 unfold AU;rw[bM b,cw];simp
theorem JC(ts:List A3):∀u∈ts.flatMap Ao,u.oneCell'=true:=by
 intro u a;obtain⟨t,_,h⟩:=cO.1 a;simp[Ao]at h;rcases h with rfl|rfl<;>rfl
theorem V5{w:World}{base:Nat}{e:TypeId}{size:Nat}{c:Option Addr}{n d:Nat}{b:List Value}(h:w.ownsRow base e size (.slice c n d) n b)(o:0<n):
  ∃g,c=some ⟨g,0,none⟩/\b.length=n*size/\(∀j u,b[j]?=some u->w.cell? ((⟨g,0,none⟩:Addr).add j)=some u)/\base<=g/\g<w.heap.size:=by
 rcases h.2 with⟨a,k⟩|⟨g,i,f,a,l,m⟩
 .omega
 .simp only[bK]at a;obtain⟨rfl,_,rfl⟩:=a;exact⟨g,rfl,h.1,h.cells rfl,(h.lt g rfl)⟩
structure NF(c:C0):Prop where
 head:0<c.eB.length/\c.eB.length<=1000
 lits:c.db.length<=1000
 each:∀p∈c.db,(A6 p.1=true->0<p.1.ts.length)/\p.1.ts.length<=1000
theorem NF.gC{c:C0}(h:NF c){p:JF}(a:p∈c.db):0<(AI p.1).length/\(AI p.1).length<=1000:=by
 have:=h.each p a;unfold AI;split
 .rename_i b;exact⟨this.1 b,this.2⟩
 .simp
set_option maxRecDepth 512
theorem Xz(n:Nat)(w:World)(r:0<n)(v:n<=2000000):
  Calls prog 228 #[.slice none 0 0,.int .i64 n] w λe j=>∃g G,e=.returned (.slice (some ⟨g,0,none⟩) 0 G)/\j.ownsRow w.heap.size 215 2 (.slice (some ⟨g,0,none⟩) 0 G) 0 []/\Ac [] w j:=by
 obtain⟨f,s,q,y,m⟩:=cU Tryz.gP;have l:(Builtin.firstCells f.size 0 (.slice none 0 0)).run prog w.drew=.ok ([]:List Value).toArray w.drew:=run_firstCells_none w.drew f.size 0 0 0;have k:∀i,(Builtin.append_ #[185,3] i #[.slice none 0 0,.int .i64 (n:Int)]).run prog w=
   .ok (.slice (some ⟨w.heap.size,0,none⟩) n (grownCap w n 0 215)) (w.drew.alloc (.cells (([]:List Value).toArray++Builtin.zeroCells (Value.agg #[.int .i32 0,.string ⟨#[]⟩]:Value).cells n++Builtin.zeroCells (Value.agg #[.int .i32 0,.string ⟨#[]⟩]:Value).cells (grownCap w n 0 215-n)) 215)):=λi=>by
  have h:=Lib.run_append_grow_zeros w 185 3 i 215 f _ .i64 .i64 underlying185 underlying3 s q none 0 0 [] l n r (by omega) (by omega) (by omega) (by rw[m];omega) (by rw[m,cV];exact growslice_fits (by omega) (by omega));simp only[cV]at h;exact h
 obtain⟨G,b⟩:∃G,G=grownCap w n 0 215:=⟨_,rfl⟩;obtain⟨a,c⟩:∃a:Array Value,a=([]:List Value).toArray++Builtin.zeroCells (Value.agg #[.int .i32 0,.string ⟨#[]⟩]:Value).cells n++Builtin.zeroCells (Value.agg #[.int .i32 0,.string ⟨#[]⟩]:Value).cells (G-n):=⟨_,rfl⟩;rw[<-b,<-c]at k;have t:n<=G:=by rw[b];exact grownCap_ge w _ _ _
 have d:G<=maxLen:=by rw[b];exact grownCap_le_maxLen w n 0 215 (by unfold maxLen;omega)
 have p:a.size=G*2:=by
  rw[c];simp[Builtin.zeroCells,Value.cells];omega
 have u:G<=9223372036854775807:=by unfold maxLen at d;omega
 have o:Hid ((w.alloc (.cells a 215)).ownsRow w.heap.size 215 2 (.slice (some ⟨w.heap.size,0,none⟩) 0 G) 0 []/\Ac [] w (w.alloc (.cells a 215))):=
  ⟨⟨rfl,Or.inr ⟨w.heap.size,G,a,rfl,bZ _,cA w _,b8 _,d,p,by simp⟩⟩,(Ac.refl [] w).alloc _⟩
 have x:(0:Int)<(n:Int):=by omega
 have z:¬((n:Int)<0):=by omega
 clear l c b p d;go_enter func228,ntmps228;go_wp2_with (at_builtin;refine Lib.wpList_append_run _ rfl _ _ _ _ rfl _ _ rfl rfl _ _ (k _) ?_)
 go_ret;exact⟨_,G,rfl,(Aa o).1,(Aa o).2.drew⟩
set_option maxRecDepth 100000
theorem SD(O:Nat)(E:Option Addr)(z:Nat)(v:Option Addr)(C:Nat)(a b:List A3)(I W:Nat)(w:World)(r:AE w O [.slice E a.length z,.slice v b.length C] 185)(P:w.ownsRow I 215 2 (.slice E a.length z) a.length (a.flatMap Ao))(K:w.ownsRow W 215 2 (.slice v b.length C) b.length (b.flatMap Ao))(R:0<a.length)(AT:a.length+b.length<=2000000):
  Calls prog 213 #[.slice (some ⟨O,0,none⟩) 2 2] w λe J=>∃d h,e=.returned (.slice d (a++b).length h)/\J.ownsRow w.heap.size 215 2 (.slice d (a++b).length h) (a++b).length ((a++b).flatMap Ao)/\Ac [] w J:=by
 obtain⟨U,AB,L,Q,V⟩:=cU Tryz.gP;have HV:=Ab r;have H1:=Ab P;have H2:=Ab K;have s:=r.cell 0;have q:=r.cell 1;simp at s q;have Z:=Ab (Xz (a.length+b.length) w (by omega) AT);have AO:Hid ((a++b).length=a.length+b.length):=by show _=_;simp
 generalize hAB:a++b=ab at AO⊢;have BT:=Ab hAB;have EK:=Ab R;clear r P K hAB R;have B9:¬((a.length:Int)<0):=by omega
 have EX:¬((a.length:Int)+(b.length:Int)<0):=by omega
 go_enter func213,ntmps213;go_wp2
 go_loopg [3,11] 2 (λgk o i wr=>∃k:Nat,i=.int .i64 k/\((k=0/\o=.int .i64 0)\/(k=1/\o=.int .i64 a.length)\/(k=2/\o=.int .i64 ((a.length:Int)+(b.length:Int))))/\gk=2-k/\w=wr)
 case atStart=>exact⟨0,rfl,Or.inl ⟨rfl,rfl⟩,rfl,rfl⟩
 case round=>
  obtain⟨k,rfl,l,B,rfl⟩:=hrel;rcases l with⟨rfl,rfl⟩|⟨rfl,rfl⟩|⟨rfl,rfl⟩
  .go_wp2
   go_roundg 1
   case measure=>omega
   case rel=>exact⟨1,by go_num,Or.inr (Or.inl ⟨rfl,by go_num⟩),rfl,rfl⟩
  .go_wp2
   go_roundg 0
   case measure=>omega
   case rel=>exact⟨2,by go_num,Or.inr (Or.inr ⟨rfl,by go_num⟩),rfl,rfl⟩
  ·(go_wp2_with fail);refine(Aa Z).mono ?_;rintro e w2 ⟨g,G,rfl,Y,X⟩;have M:=Ab Y;have S:=Ab X;clear Z Y X s q;go_wp2
   go_loopg [6,27] 2 (λgk o i wr=>∃(k:Nat) (c:List A3) (d:Option Addr) (h:Nat),o=.slice d c.length h/\i=.int .i64 k/\((k=0/\Hid (c=[]))\/(k=1/\Hid (c=a))\/(k=2/\Hid (c=ab)))/\gk=2-k/\c.length<=a.length+b.length/\(wr.ownsRow w.heap.size 215 2 (.slice d c.length h) c.length (c.flatMap Ao))/\Hid (Ac [] w wr))
   case atStart=>exact⟨0,[],_,_,rfl,rfl,Or.inl ⟨rfl,rfl⟩,rfl,by simp,Aa M,S⟩
   case round=>
    clear M S;obtain⟨k,c,d,h,rfl,rfl,l,B,CL,p,j⟩:=hrel;have N:=Ab B;clear B;have CC:=(Aa j).size;rcases l with⟨rfl,m⟩|⟨rfl,m⟩|⟨rfl,m⟩
    .have s:=((Aa HV).kept (Aa j) (by simp)).cell 0;simp at s;have H:=Ad (Aa H1) (Aa j) (by simp);(have T:c.length=0:=by rw[Aa m];rfl);(have y:Hid (∀f,wr.grownBy f (Value.slice d c.length h).ownBlock->Ac [] w f):=λf x=>(Aa j).grown x (λk l=>Or.inr ((p.lt k l).1)));(have F:Hid (c++a=a):=by show _=_;rw[Aa m];rfl);have n:=Ab T;clear T;go_wp2_with (at_builtin;refine GS _ rfl (.tmp 31) (.tmp 32) _ rfl w.heap.size 215 U _ 2 24 underlying185 AB L Q V rfl (by omega) d c.length h (c.flatMap Ao) rfl p I E a.length z (a.flatMap Ao) rfl H (JC _) (by have:=Aa n;unfold maxLen;omega) (by have:=Aa n;omega) (by omega) ?_;intro A u f t D AH)
     go_roundg 1
     case measure=>have:=Aa N;omega
     case rel=>exact⟨1,c++a,A,u,by simp,by go_num,Or.inr (Or.inl ⟨rfl,F⟩),rfl,by simp;have:=Aa n;omega,by simpa using t,Aa y f D⟩
    .have q:=((Aa HV).kept (Aa j) (by simp)).cell 1;simp at q;have H:=Ad (Aa H2) (Aa j) (by simp);(have n:Hid (c.length=a.length):=by show _=_;rw[Aa m]);(have y:Hid (∀f,wr.grownBy f (Value.slice d c.length h).ownBlock->Ac [] w f):=λf x=>(Aa j).grown x (λk l=>Or.inr ((p.lt k l).1)));(have F:Hid (c++b=ab):=by show _=_;rw[Aa m];exact Aa BT);go_wp2_with (at_builtin;refine GS _ rfl (.tmp 31) (.tmp 32) _ rfl w.heap.size 215 U _ 2 24 underlying185 AB L Q V rfl (by omega) d c.length h (c.flatMap Ao) rfl p W v b.length C (b.flatMap Ao) rfl H (JC _) (by have:=Aa n;unfold maxLen;omega) (by have:=Aa n;omega) (by omega) ?_;intro A u f t D AH)
     go_roundg 0
     case measure=>have:=Aa N;omega
     case rel=>exact⟨2,c++b,A,u,by simp,by go_num,Or.inr (Or.inr ⟨rfl,F⟩),rfl,by simp;have:=Aa n;omega,by simpa using t,Aa y f D⟩
    .go_wp2;go_ret;rw[<-Aa m];exact⟨d,h,rfl,p,Aa j⟩
theorem NZ(B:Option Addr)(L:Nat)(a:List JF)(w:World)(h:BI w 0 (.slice B a.length L) a)(HC:a.length<=1000)(f:∀p∈a,0<(AI p.1).length/\(AI p.1).length<=1000):
  Calls prog 139 #[.slice B a.length L] w λe y=>∃c d,e=.returned (.slice c (AU a).length d)/\y.ownsRow w.heap.size 215 2 (.slice c (AU a).length d) (AU a).length ((AU a).flatMap Ao)/\Ac [] w y:=by
 obtain⟨i0,FL,Q,Y,AO⟩:=cU Tryz.gP;have W:=Ab h;have FF:=Ab f;clear h f;go_enter func139,ntmps139;go_wp2
 go_loopg [3,8] a.length (λgk o i wr=>∃(k:Nat) (b:List A3) (c:Option Addr) (d:Nat),o=.slice c b.length d/\i=.int .i64 k/\k<=a.length/\b.length<=k*1000/\gk=a.length-k/\Hid (b=AU (a.take k))/\wr.ownsRow w.heap.size 215 2 (.slice c b.length d) b.length (b.flatMap Ao)/\Hid (Ac [] w wr))
 case atStart=>exact⟨0,[],none,0,rfl,rfl,by omega,by simp,rfl,by show _=_;simp[AU],ck _ _ _ _,Ac.refl _ _⟩
 case round=>
  obtain⟨k,b,c,d,rfl,rfl,E,HD,F,u,s,j⟩:=hrel;have U:=Ab F;clear F;by_cases t:k<a.length
  .have M:=(Aa W).kept (Aa j) (by simp);have HI:=(Aa j).size;obtain⟨g,Ha,l,q,r,C,J,I,d0,X,O,P,d4,d5,d6,Z,d8⟩:=Hu M k t;simp only[bK]at C;obtain⟨rfl,_,rfl⟩:=C;have x:=Ab (NB t);have f:=Aa FF a[k] (bL t);rw[J]at x f;simp only at f;have v:=Ab (KN l q r (wr.alloc (.cells (Aq (l,.slice q l.ts.length r)).toArray 217)) (Ad I ((Ac.refl [] wr).alloc _) (by simp)));clear M I J;simp only[Aq]at v;have z:=Ab ((Aa j).alloc (.cells (Aq (l,.slice q l.ts.length r)).toArray 217));have D:=Ab (bQ s (.cells (Aq (l,.slice q l.ts.length r)).toArray 217));(go_wp2_with fail);refine(Aa v).mono ?_;rintro e A ⟨FP,ES,rfl,N,n⟩;have B9:=Ab ((Aa z).trans n);have K:=Ad (Aa D) n (by simp);have G:=n.size;(have FW:wr.heap.size+1<=A.heap.size:=by simpa using G);obtain⟨S,rfl,CL,H,_,_⟩:=V5 N f.1;have Bx:=Ab H;(have EY:Hid (b++AI l=AU (a.take (k+1))):=by show _=_;rw[Aa x,Aa u]);(have T:Hid (∀m,A.grownBy m (Value.slice c b.length d).ownBlock->Ac [] w m):=λm R=>(Aa B9).grown R (λk E=>Or.inr ((K.lt k E).1)));clear n z D v d0 X O P d4 d5 d6 Z d8 s j G N H x u;(have FA:(b++AI l).length<=(k+1)*1000:=by simp;omega);(have Go:k<=1000:=by omega);go_wp2_with (at_builtin;refine cd _ rfl (.tmp 12) (.tmp 14) _ rfl w.heap.size 215 i0 _ 2 24 underlying185 FL Q Y AO rfl (by omega) (.slice c b.length d) b.length (b.flatMap Ao) rfl K ⟨S,0,none⟩ (AI l).length ES ((AI l).flatMap Ao) rfl CL (Aa Bx) (JC _) (by omega) (by unfold maxLen;omega) (by omega) (by omega) _ rfl ?_;intro g1 V m BA AB FO HH)
   go_roundg (a.length-(k+1))
   case measure=>have:=Aa U;omega
   case rel=>exact⟨k+1,b++AI l,some ⟨g1,0,none⟩,V,by simp,by go_num,by omega,FA,rfl,EY,by simpa using BA,Aa T m AB⟩
  .have HE:Hid (b=AU a):=by
    have h:=Aa u;rw[bP (by omega)]at h;exact h
   go_wp2;go_ret;rw[<-HE.out];exact⟨c,d,rfl,s,Aa j⟩
theorem He{a:List JF}(h:∀p∈a,(AI p.1).length<=1000):(AU a).length<=a.length*1000:=by
 unfold AU
 induction a with
 |nil=>simp
 |cons p l ih=>
  have c:=h p (by simp);have d:=ih (λq b=>h q (by simp[b]));simp only[cg,cc,bU];omega
theorem Ow(c:C0)(w:World)(h:IP w 0 c.hv c.bv c.eB c.db)(G:NF c):
  Calls prog 184 #[.agg (A9 c).toArray] w λe k=>∃f j,e=.returned (.slice f (Bn c).length j)/\k.ownsRow w.heap.size 215 2 (.slice f (Bn c).length j) (Bn c).length ((Bn c).flatMap Ao)/\Ac [] w k:=by
 have z:Hid (∀p∈c.db,0<(AI p.1).length/\(AI p.1).length<=1000):=λp g=>G.gC g
 obtain⟨g,q,b,hv,bv,a⟩:=c;obtain⟨⟨I,W⟩,C,S⟩:=G;simp only at h I W C z;clear S;obtain⟨i,d,rfl⟩:=Aj h.head;obtain⟨l,o,rfl⟩:=Aj h.body.row;have K:=He (λp g=>(Aa z p g).2);have AB:(AU a).length<=1000000:=by omega
 have B:Hid (∀wr,Ac [] w wr->Calls prog 139 #[.slice l a.length o] wr λe k=>∃f j,e=.returned (.slice f (AU a).length j)/\k.ownsRow wr.heap.size 215 2 (.slice f (AU a).length j) (AU a).length ((AU a).flatMap Ao)/\Ac [] wr k):=λwr r=>NZ l o a wr (h.body.kept r (by simp)) C (Aa z)
 have X:=Ab h.head;have u:Hid (Bn ⟨g,q,b,.slice i b.length d,.slice l a.length o,a⟩=b++AU a):=rfl;generalize Bn ⟨g,q,b,.slice i b.length d,.slice l a.length o,a⟩=TV at u⊢;generalize AU a=BT at B AB u;have F:Hid (∀(wr:World) (m:Option Addr) (n A:Nat),Ac [] w wr->wr.ownsRow A 215 2 (.slice m BT.length n) BT.length (BT.flatMap Ao)->Calls prog 213 #[.slice (some ⟨wr.heap.size,0,none⟩) 2 2] (wr.alloc (.cells #[.slice i b.length d,.slice m BT.length n] 185)) λe k=>∃f j,e=.returned (.slice f TV.length j)/\k.ownsRow w.heap.size 215 2 (.slice f TV.length j) TV.length (TV.flatMap Ao)/\Ac [] w k):=by
  intro wr m n A r U;have t:=(Ac.refl [] wr).alloc (.cells #[.slice i b.length d,.slice m BT.length n] 185);refine(SD wr.heap.size i d m n b BT 0 A _ (AE.new wr [.slice i b.length d,.slice m BT.length n] 185) (Ad (Aa X) (r.trans t) (by simp)) (Ad U t (by simp)) I (by omega)).mono ?_;rintro e k ⟨f,j,rfl,R,V⟩;rw[Aa u];exact⟨f,j,rfl,Ak R (by have:=(r.trans t).size;exact this),(r.trans t).trans V⟩
 clear h K;simp only[A9];have s:=Ab (AE.new w [.int .i64 g,.string q,.slice i b.length d,.slice l a.length o] 189);have y:=Ab ((Ac.refl [] w).alloc (.cells [.int .i64 g,.string q,.slice i b.length d,.slice l a.length o].toArray 189));go_enter func184,ntmps184;go_wp2_with fail
 change Code.wp _ _ _ _ (w.alloc (.cells [.int .i64 g,.string q,.slice i b.length d,.slice l a.length o].toArray 189));generalize w.alloc (.cells [.int .i64 g,.string q,.slice i b.length d,.slice l a.length o].toArray 189)=w1 at s y⊢;obtain⟨N,v⟩:∃N,w.heap.size=N:=⟨_,rfl⟩;rw[v]at s F⊢;have Q:=(Aa s).cell 2;have T:=(Aa s).cell 3;simp at Q T;have Z:=Ab v;clear v
 go_region_law
  (first
   |(go_simp;go_at_call 139;refine(Aa B _ (Aa y).drew).mono ?_;rintro e wt ⟨m,n,rfl,J,x⟩;have O:=((Aa s).drew.kept x (by simp)).cell 2;simp at O;have Y:=Ab ((Aa y).drew.trans x);have M:=Ab J;clear J x)
   |(go_simp;go_at_call 213;refine(Aa F wt m n _ (Aa Y) (Aa M)).mono ?_;rintro e w9 ⟨P,L,rfl,H,E⟩;have D:=Ab (And.intro H E);clear H E))
 all_goals
  go_wp2;go_ret;rw[Aa Z];exact⟨P,L,rfl,(Aa D).1,(Aa D).2⟩
def Fz(db:List JF):List cR:=(db.filter λp=>A6 p.1).map λp=>p.1.an
def BR(c:C0):List cR:=c.hn::Fz c.db
theorem XA(c:C0):(Bi c).map Gp.name=BR c:=by
 simp[Bi,BR,AJ,Fz]
theorem GV{c:C0}{w:World}(h:IP w 0 c.hv c.bv c.eB c.db):∀a∈Bi c,∃f n d,a.tv=.slice f n d:=by
 intro a b;rcases bS.1 b with rfl|b
 .obtain⟨f,d,e⟩:=Aj h.head;exact⟨_,_,_,e⟩
 .unfold AJ at b;obtain⟨p,g,rfl⟩:=bV.1 b;obtain⟨f,d,e⟩:=Aj (h.body.each p (cn.1 g).1).1;exact⟨_,_,_,e⟩
theorem IC{w:World}{base:Nat}{v:Value}{l:List Gp}(h:w.ownsRow base 187 3 v l.length (l.flatMap AF))(k:Nat)(a:k<l.length):
  ∃g b,v=.slice (some ⟨g,0,none⟩) l.length b/\w.cell? ⟨g,k*3,none⟩=some (.int .i64 l[k].place)/\w.cell? ⟨g,k*3+1,none⟩=some (.string l[k].name)/\w.cell? ⟨g,k*3+2,none⟩=some l[k].tv:=by
 obtain⟨g,b,j,_,d⟩:=Av h (λc _=>Q4 c) k a;have e:=d k a 0 (by omega);have i:=d k a 1 (by omega);have f:=d k a 2 (by omega);simp[AF]at e i f;exact⟨g,b,j,e,i,f⟩
structure L4(base:Nat)(lv:Value)(l:List cR)(xs:List cR)(w:World)(l':List cR)(ad':Option Addr)(cp':Nat)(w':World):Prop where
 en:Cy E2 l'
 mem:∀y,y∈l'↔y∈xs\/y∈l
 ge:l.length<=l'.length
 le:l'.length<=l.length+xs.length
 own:w'.ownsRow base 9 1 (.slice ad' l'.length cp') l'.length (l'.flatMap Ae)
 kept:Ac lv.ownBlock.toList w w'
 new:∀k,(Value.slice ad' l'.length cp').ownBlock=some k->lv.ownBlock=some k\/w.heap.size<=k
theorem KZ(c:C0)(a:Option Addr)(cap:Nat)(l:List cR)(base:Nat)(w:World)(h:IP w 0 c.hv c.bv c.eB c.db)(EK:c.db.length<=1000)
  (V:w.ownsRow base 9 1 (.slice a l.length cap) l.length (l.flatMap Ae)) (HP:l.length<=900000) (hr:Cy E2 l) (HI:base<=w.heap.size):
  Calls prog 164 #[.slice a l.length cap,.agg (A9 c).toArray] w λe w'=>∃N Bx U,e=.returned (.slice Bx N.length U)/\L4 base (.slice a l.length cap) l (BR c) w N Bx U w':=by
 have s:=Ab (JS c (w.alloc (.cells (A9 c).toArray 189)) (h.kept ((Ac.refl [] w).alloc _) (by simp)) EK);have Q:=Ab (GV h);have C:=Ab (XA c);have CC:Hid ((Bi c).length<=1001):=by
  show _<=_;have:=Dt c.db;simp[Bi];omega
 obtain⟨hp,hn,u,hv,bv,r⟩:=c;simp only at h;obtain⟨BA,L,rfl⟩:=Aj h.head;obtain⟨S,R,rfl⟩:=Aj h.body.row;generalize Bi ⟨hp,hn,u,.slice BA u.length L,.slice S r.length R,r⟩=aT at s Q C CC;generalize BR ⟨hp,hn,u,.slice BA u.length L,.slice S r.length R,r⟩=ns at C⊢;have W:=Ab V;have Ha:=Ab hr;clear h V hr;simp only[A9]at s⊢;go_enter func164,ntmps164;go_wp2_with fail
 refine(Aa s).mono ?_;rintro e p ⟨FW,M,rfl,Ax,v⟩;have G:Hid (Ac [] w p):=((Ac.refl [] w).alloc _).trans v;have HF:w.heap.size+1<=p.heap.size:=by have:=v.size;simpa using this
 have P:=Ab (Ak Ax (show w.heap.size<=_ by simp));clear s Ax v;go_wp2
 go_loopg [0,10] aT.length (λgk o i wr=>∃(k:Nat) (m:List cR) (b:Option Addr) (d:Nat),o=.slice b m.length d/\i=.int .i64 k/\k<=aT.length/\gk=aT.length-k/\m.length<=l.length+k/\Hid (L4 base (.slice a l.length cap) l ((aT.take k).map Gp.name) w m b d wr)/\Hid (wr.ownsRow w.heap.size 187 3 (.slice FW aT.length M) aT.length (aT.flatMap AF))/\Hid (∀q,(Value.slice b m.length d).ownBlock=some q->(Value.slice a l.length cap).ownBlock=some q\/p.heap.size<=q)/\p.heap.size<=wr.heap.size)
 case atStart=>exact⟨0,l,a,cap,rfl,rfl,by omega,rfl,by omega,⟨Aa Ha,λy=>by simp,by omega,by omega,Ad (Aa W) (Aa G) (by simp),(Aa G).mono (by simp),λk O=>Or.inl O⟩,P,λq j=>Or.inl j,by omega⟩
 case round=>
  clear G;obtain⟨k,m,b,d,rfl,rfl,O,AO,HJ,n,F,H,HC⟩:=hrel;have HG:=Ab AO;clear AO;have HH:=Aa CC;by_cases x:k<aT.length
  .obtain⟨g,HD,X,d0,d1,K⟩:=IC (Aa F) k x;simp only[bK]at X;obtain⟨rfl,_,rfl⟩:=X;obtain⟨HB,nt,FC,AB⟩:=Aa Q aT[k] (bL x);rw[AB]at K;clear AB;have Y:=Ab (YG b d m aT[k].name base (wr.alloc (.cells [.int .i64 aT[k].place,.string aT[k].name,.slice HB nt FC].toArray 187)) (bQ (Aa n).own _) (by omega) (Aa n).en (by simp;omega));(go_wp2_with fail);refine(Aa Y).mono ?_;rintro e t ⟨J,D,B,rfl,q1,Z,q3,q4,T,A,z⟩;have I:Ac (Value.slice b m.length d).ownBlock.toList wr t:=((Ac.refl _ wr).alloc _).trans A;(have HM:wr.heap.size+1<=t.heap.size:=by have:=A.size;simpa using this);have EX:Hid (L4 base (.slice a l.length cap) l ((aT.take (k+1)).map Gp.name) w J D B t):=by
    have f:=Aa n;refine⟨q1,λy=>?_,by have:=f.ge;omega,?_,T,f.kept.trans' I (λi E=>?_),λq j=>?_⟩
    .rw[Z,f.mem,bM x];simp only[cW,cu,eW,bY,bO];constructor
     .rintro (h|h|h)
      .exact Or.inl (Or.inr h)
      .exact Or.inl (Or.inl h)
      .exact Or.inr h
     .rintro ((h|h)|h)
      .exact Or.inr (Or.inl h)
      .exact Or.inl h
      .exact Or.inr (Or.inr h)
    .have:=f.le;simp only[bX,cM]at this⊢;omega
    .rcases f.new i (by simpa using E)with h|h
     .exact Or.inl (by simp[h])
     .exact Or.inr h
    .rcases z q j with h|h
     .exact f.new q h
     .exact Or.inr (by have:=f.kept.size;simp at h;omega)
   have FO:Hid (t.ownsRow w.heap.size 187 3 (.slice (some ⟨g,0,none⟩) aT.length M) aT.length (aT.flatMap AF)):=by
    refine Al (Aa F) I (λi E hm=>?_);have h1:=((Aa P).lt i E);rcases Aa H i (by simpa using hm)with h|h
    .have:=((Aa W).lt i h).2;omega
    .omega
   have FA:Hid (∀q,(Value.slice D J.length B).ownBlock=some q->(Value.slice a l.length cap).ownBlock=some q\/p.heap.size<=q):=by
    intro q j;rcases z q j with h|h
    .exact Aa H q h
    .exact Or.inr (by simp at h;omega)
   clear Y q1 Z q3 T A z I n F H d0 d1 K;go_wp2
   go_roundg (aT.length-(k+1))
   case measure=>have:=Aa HG;omega
   case rel=>exact⟨k+1,J,D,B,rfl,by go_num,by omega,rfl,by omega,EX,FO,FA,by omega⟩
  .have HE:Hid (L4 base (.slice a l.length cap) l ns w m b d wr):=by
    have h:=Aa n;rw[bP (by omega),Aa C]at h;exact h
   go_wp2;go_ret;exact⟨m,b,d,rfl,Aa HE⟩
theorem Eu{w:World}{base:Nat}{v:Value}{l:List A3}(h:w.ownsRow base 215 2 v l.length (l.flatMap Ao))(k:Nat)(a:k<l.length):
  ∃g b,v=.slice (some ⟨g,0,none⟩) l.length b/\w.cell? ⟨g,k*2,none⟩=some (.int .i32 l[k].v)/\w.cell? ⟨g,k*2+1,none⟩=some (.string l[k].s):=by
 obtain⟨g,b,i,_,f⟩:=Av h (λc _=>Rk c) k a;have d:=f k a 0 (by omega);have e:=f k a 1 (by omega);simp[Ao]at d e;exact⟨g,b,i,d,e⟩
structure Gd(ts:List A3)(l:List Int):Prop where
 en:Cy ME l
 mem:∀y,y∈l↔y≠0/\∃t∈ts,t.v=y
 le:l.length<=ts.length
theorem Gd.nil:Gd [] []:=⟨λi j a=>by simp at a,λy=>by simp,by simp⟩
theorem JY(D:Option Addr)(J:Nat)(ts:List A3)(base:Nat)(w:World)(h:w.ownsRow base 215 2 (.slice D ts.length J) ts.length (ts.flatMap Ao))(Bx:ts.length<=900000):
  Calls prog 174 #[.slice D ts.length J] w λe x=>∃l E F,e=.returned (.slice E l.length F)/\Gd ts l/\x.ownsRow w.heap.size 21 1 (.slice E l.length F) l.length (l.flatMap AK)/\Ac [] w x:=by
 have HT:=Ab h;clear h;go_enter func174,ntmps174;go_wp2
 go_loopg [3,8] ts.length (λgk o i wr=>∃(k:Nat) (l:List Int) (d:Option Addr) (j:Nat),o=.slice d l.length j/\i=.int .i64 k/\k<=ts.length/\gk=ts.length-k/\Hid (Gd (ts.take k) l)/\wr.ownsRow w.heap.size 21 1 (.slice d l.length j) l.length (l.flatMap AK)/\Hid (Ac [] w wr))
 case atStart=>exact⟨0,[],none,0,rfl,rfl,by omega,rfl,by show Gd _ _;simpa using Gd.nil,ck _ _ _ _,Ac.refl _ _⟩
 case round=>
  obtain⟨k,l,d,j,rfl,rfl,hk,C,m,q,n⟩:=hrel;have z:=Ab C;clear C;have N:=(Aa m).le;simp only[cM]at N;have B9:=(Aa n).size;by_cases r:k<ts.length
  .obtain⟨g,BT,I,d0,d1⟩:=Eu (Ad (Aa HT) (Aa n) (by simp)) k r;simp only[bK]at I;obtain⟨rfl,_,rfl⟩:=I;have u:=Ab ((Aa n).alloc (.cells [.int .i32 ts[k].v,.string ts[k].s].toArray 215));have p:=bQ q (.cells [.int .i32 ts[k].v,.string ts[k].s].toArray 215);cases hv:(ts[k].v==0)with
   |true=>
    (have Q:(ts[k].v !=0)=false:=by simp[bne,hv]);have U:Hid (Gd (ts.take (k+1)) l):=by
     have f:=Aa m;refine⟨f.en,λy=>?_,by have:=f.le;simp only[cM]at this⊢;omega⟩;rw[f.mem,bM r];(have W:ts[k].v=0:=by simpa using hv);constructor
     .rintro ⟨b,t,a,c⟩;exact⟨b,t,ep _ a,c⟩
     .rintro ⟨b,t,a,c⟩;rcases bY.1 a with a|a
      .exact⟨b,t,a,c⟩
      .simp only[bO]at a;subst a;exact absurd (c.symm.trans W) b
    clear hv;go_wp2
    go_roundg (ts.length-(k+1))
    case measure=>have:=Aa z;omega
    case rel=>exact⟨k+1,l,d,j,rfl,by go_num,by omega,rfl,U,p,u⟩
   |false=>
    (have Q:(ts[k].v !=0)=true:=by simp[bne,hv]);(have K:ts[k].v≠0:=by simpa using hv);have H:=Ab (X8 d j l ts[k].v w.heap.size (wr.alloc (.cells [.int .i32 ts[k].v,.string ts[k].s].toArray 215)) p (by omega) (Aa m).en (by simp;omega));have Ax:=Ab K;clear hv K;(go_wp2_with fail);refine(Aa H).mono ?_;rintro e M ⟨G,P,S,rfl,B,L,T,X,V,A,O⟩;have R:Hid (Ac [] w M):=(Aa u).trans' A (λi Z=>Or.inr ((p.lt i (by simpa using Z)).1));have Y:Hid (Gd (ts.take (k+1)) G):=by
     have f:=Aa m;refine⟨B,λy=>?_,by have:=f.le;simp only[cM]at this⊢;omega⟩;rw[L,f.mem,bM r];constructor
     .rintro (b|⟨b,t,a,c⟩)
      .exact⟨by rw[b];exact Aa Ax,ts[k],List.mem_append_right _ (bO.2 rfl),b.symm⟩
      .exact⟨b,t,ep _ a,c⟩
     .rintro ⟨b,t,a,c⟩;rcases bY.1 a with a|a
      .exact Or.inr ⟨b,t,a,c⟩
      .simp only[bO]at a;subst a;exact Or.inl c.symm
    clear H B L T X A O q p u n m;go_wp2
    go_roundg (ts.length-(k+1))
    case measure=>have:=Aa z;omega
    case rel=>exact⟨k+1,G,P,S,rfl,by go_num,by omega,rfl,Y,V,R⟩
  .have HE:Hid (Gd ts l):=by
    have h:=Aa m;rw[bP (by omega)]at h;exact h
   go_wp2;go_ret;exact⟨l,d,j,rfl,Aa HE,q,Aa n⟩
theorem SN(G:Option Addr)(M:Nat)(l:List Int)(u:Option Addr)(v:Nat)(o:List Int)(base C:Nat)(w:World)(h:w.ownsRow base 21 1 (.slice G l.length M) l.length (l.flatMap AK))(z:w.ownsRow C 21 1 (.slice u o.length v) o.length (o.flatMap AK))(hl:l.length<=900000)(ho:o.length<=900000)(J:Cy ME o):
  Calls prog 173 #[.slice G l.length M,.slice u o.length v] w λe x=>∃H I,e=.returned (.slice H (l.filter λy=> !Jd o y).length I)/\x.ownsRow w.heap.size 21 1 (.slice H (l.filter λy=> !Jd o y).length I) (l.filter λy=> !Jd o y).length ((l.filter λy=> !Jd o y).flatMap AK)/\Ac [] w x:=by
 obtain⟨V,Bx,N,R,W⟩:=cU Tryz.gm;have HT:=Ab h;have AO:=Ab z;have AH:=Ab J;obtain⟨F,hF⟩:∃F,(l.filter λy=> !Jd o y)=F:=⟨_,rfl⟩;rw[hF];have P:=Ab hF;clear h z hF J;go_enter func173,ntmps173;go_wp2
 go_loopg [5,10] l.length (λgk o' i wr=>∃(k:Nat) (m:List Int) (a:Option Addr) (b:Nat),o'=.slice a m.length b/\i=.int .i64 k/\k<=l.length/\m.length<=k/\gk=l.length-k/\Hid (m=(l.take k).filter λy=> !Jd o y)/\wr.ownsRow w.heap.size 21 1 (.slice a m.length b) m.length (m.flatMap AK)/\Hid (Ac [] w wr))
 case atStart=>exact⟨0,[],none,0,rfl,rfl,by omega,by simp,rfl,by show _=_;simp,ck _ _ _ _,Ac.refl _ _⟩
 case round=>
  obtain⟨k,m,a,b,rfl,rfl,A,EK,D,q,n,d⟩:=hrel;have B:=Ab D;clear D;have EX:=(Aa d).size;by_cases r:k<l.length
  .obtain⟨g,CL,L,_,E⟩:=Av (Ad (Aa HT) (Aa d) (by simp)) (by simp[AK]) k r;simp only[bK]at L;obtain⟨rfl,_,rfl⟩:=L;have X:=E k r 0 (by omega);simp[AK]at X;clear E;have K:=Ab (Xs u v o l[k] C wr (Ad (Aa AO) (Aa d) (by simp)) (by omega) (Aa AH));have p:Hid ((l.take (k+1)).filter (λy=> !Jd o y)=m++if Jd o l[k] then[] else[l[k]]):=by
    show _=_;rw[bM r,dZ,<-Aa q];by_cases c:Jd o l[k]=true<;>simp[c]
   (go_wp2_with fail);refine(Aa K).mono ?_;rintro e j ⟨rfl,rfl⟩;clear K;cases c:Jd o l[k] with
   |true=>
    (have s:Hid (m=(l.take (k+1)).filter λy=> !Jd o y):=by show _=_;rw[Aa p,c];simp);clear c p q;go_wp2
    go_roundg (l.length-(k+1))
    case measure=>have:=Aa B;omega
    case rel=>exact⟨k+1,m,a,b,rfl,by go_num,by omega,by omega,rfl,s,n,d⟩
   |false=>
    (have s:Hid (m++[l[k]]=(l.take (k+1)).filter λy=> !Jd o y):=by show _=_;rw[Aa p,c];simp);clear c p q;have U:=cA j (.cells [Value.int .i32 l[k]].toArray 21);have AB:=bQ n (.cells [Value.int .i32 l[k]].toArray 21);(have S:Hid (∀f,(j.alloc (.cells [Value.int .i32 l[k]].toArray 21)).grownBy f (Value.slice a m.length b).ownBlock->Ac [] w f):=λf O=>((Aa d).alloc _).grown O (λk A=>Or.inr ((n.lt k A).1)));go_wp2_with (at_builtin;refine cd _ rfl (.tmp 18) (.tmp 20) _ rfl w.heap.size 21 V _ 1 4 underlying234 Bx N R W rfl (by omega) (.slice a m.length b) m.length (m.flatMap AK) rfl AB ⟨j.heap.size,0,none⟩ 1 1 [.int .i32 l[k]] rfl rfl (cj (cs:=[Value.int .i32 l[k]].toArray) (t:=21) (fr:=(0,0)) U) (by simp[Value.oneCell']) (by omega) (by unfold maxLen;omega) (by omega) (by simp;omega) (j.heap.size+1) (by simp) ?_;intro Y Q f Z T BT ES)
    go_roundg (l.length-(k+1))
    case measure=>have:=Aa B;omega
    case rel=>exact⟨k+1,m++[l[k]],some ⟨Y,0,none⟩,Q,by simp,by go_num,by omega,by simp;omega,rfl,s,by simpa[AK] using Z,Aa S f T⟩
  .have HE:Hid (m=F):=by
    have h:=Aa q;rw[bP (by omega),Aa P]at h;exact h
   go_wp2;go_ret;rw[<-HE.out];exact⟨a,b,rfl,n,Aa d⟩
def lenOf:Value->Nat
 | .slice _ n _=>n
 |_=>0
def I8(c:C0):Bool:=(Bi c).any (λa=>decide (2<lenOf a.tv))||decide (3<c.db.length)
theorem Ny(c:C0)(w:World)(h:IP w 0 c.hv c.bv c.eB c.db)(J:c.db.length<=1000):
  Calls prog 118 #[.agg (A9 c).toArray] w λe V=>e=.returned (.bool (I8 c))/\Ac [] w V:=by
 have q:=Ab (JS c (w.alloc (.cells (A9 c).toArray 189)) (h.kept ((Ac.refl [] w).alloc _) (by simp)) J);have P:=Ab (GV h);have X:(Bi c).length<=1001:=by
  have:=Dt c.db;simp[Bi];omega
 have p:Hid (I8 c=((Bi c).any (λa=>decide (2<lenOf a.tv))||decide (3<c.db.length))):=rfl;obtain⟨u,f,j,hv,bv,b⟩:=c;simp only at h J;obtain⟨y,s,rfl⟩:=Aj h.head;obtain⟨r,C,rfl⟩:=Aj h.body.row;generalize I8 ⟨u,f,j,.slice y j.length s,.slice r b.length C,b⟩=G at p⊢;generalize Bi ⟨u,f,j,.slice y j.length s,.slice r b.length C,b⟩=aT at q P X p;clear h;have D:=Ab (AE.new w (A9 ⟨u,f,j,.slice y j.length s,.slice r b.length C,b⟩) 189);simp only[A9]at q D⊢;go_enter func118,ntmps118;go_wp2_with fail
 refine(Aa q).mono ?_;rintro e T ⟨AB,AT,rfl,F,B⟩;have I:Hid (Ac [] w T):=((Ac.refl [] w).alloc _).trans B;have R:=Ab ((Aa D).kept B (by simp));have Z:=Ab F;clear q F B D;go_wp2;generalize w.heap.size=N at R⊢
 go_loopg [8] aT.length (λgk i wr=>∃(k:Nat),i=.int .i64 k/\k<=aT.length/\gk=aT.length-k/\Hid ((aT.take k).any (λa=>decide (2<lenOf a.tv))=false)/\Hid (Ac [] w wr)/\Hid (Ac [] T wr))
 case atStart=>exact⟨0,rfl,by omega,rfl,by show _=_;simp,I,Ac.refl _ _⟩
 case round=>
  clear I;obtain⟨k,rfl,hk,H,K,A,t⟩:=hrel;have Y:=Ab H;clear H;by_cases n:k<aT.length
  .obtain⟨g,BA,Q,d0,d1,U⟩:=IC (Ad (Aa Z) (Aa t) (by simp)) k n;simp only[bK]at Q;obtain⟨rfl,_,rfl⟩:=Q;obtain⟨L,d,M,o⟩:=Aa P aT[k] (bL n);rw[o]at U;have x:Hid (2<d->G=true):=by
    intro f;rw[Aa p,IR _ _ k n (by simp[o,lenOf,f])];rfl
   have z:Hid (¬2<d->(aT.take (k+1)).any (λa=>decide (2<lenOf a.tv))=false):=by
    intro f;rw[Ct _ _ k n (Aa K)];simp[o,lenOf,f]
   clear o;have O:=Ab ((Aa A).alloc (.cells [.int .i64 aT[k].place,.string aT[k].name,.slice L d M].toArray 187));have W:=Ab ((Aa t).alloc (.cells [.int .i64 aT[k].place,.string aT[k].name,.slice L d M].toArray 187));by_cases m:2<d
   .have E:=Ab (Aa x m);(have l:(2:Int)<(d:Int):=by omega);clear x z;go_wp2;go_ret;rw[Aa E];exact⟨rfl,Aa O⟩
   .have E:=Ab (Aa z m);(have l:¬(2:Int)<(d:Int):=by omega);clear x z;go_wp2
    go_roundg (aT.length-(k+1))
    case measure=>have:=Aa Y;omega
    case rel=>exact⟨k+1,by go_num,by omega,rfl,E,O,W⟩
  .have S:Hid (G=decide (3<b.length)):=by
    have h:=Aa K;rw[bP (by omega)]at h;show _=_;rw[Aa p,h];rfl
   have c3:=((Aa R).kept (Aa t) (by simp)).cell 3;simp at c3;by_cases m:3<b.length
   ·(have l:(3:Int)<(b.length:Int):=by omega);(have v:Hid (G=true):=by show _=_;rw[Aa S];simp[m]);go_wp2;go_ret;rw[v.out];exact⟨by simp[l],Aa A⟩
   ·(have l:¬(3:Int)<(b.length:Int):=by omega);(have v:Hid (G=false):=by show _=_;rw[Aa S];simp[m]);go_wp2;go_ret;rw[v.out];exact⟨by simp[l],Aa A⟩
def Bv(o:Option Int):Value:=match o with|some p=> .tuple #[.int .i64 p,.bool true]|none=> .tuple #[.int .i64 0,.bool false]
theorem Ra(c:C0):(A9 c).length=4:=rfl
structure C9(w:World)(lv:Value)(cs:List C0):Prop where
 row:w.ownsRow 0 189 4 lv cs.length (cs.flatMap A9)
 each:∀c∈cs,IP w 0 c.hv c.bv c.eB c.db
theorem C9.kept{w w':World}{a:Value}{cs:List C0}(h:C9 w a cs)(k:Ac [] w w'):C9 w' a cs:=⟨Ad h.row k (by simp),λc b=>(h.each c b).kept k (by simp)⟩
theorem F5{w:World}{u:Value}{cs:List C0}(h:C9 w u cs)(k:Nat)(a:k<cs.length):
  ∃g s j n b m f e o d,u=.slice (some ⟨g,0,none⟩) cs.length s/\cs[k]=⟨j,n,b,.slice m b.length f,.slice e d.length o,d⟩/\
   w.cell? ⟨g,k*4,none⟩=some (.int .i64 j)/\w.cell? ⟨g,k*4+1,none⟩=some (.string n)/\w.cell? ⟨g,k*4+2,none⟩=some (.slice m b.length f)/\w.cell? ⟨g,k*4+3,none⟩=some (.slice e d.length o):=by
 obtain⟨g,s,x,_,i⟩:=Av h.row (λc _=>Ra c) k a;have l:=h.each _ (bL a);have t:=i k a 0 (by omega);have r:=i k a 1 (by omega);have p:=i k a 2 (by omega);have q:=i k a 3 (by omega);obtain⟨⟨j,n,b,y,z,d⟩,v⟩:∃c,cs[k]=c:=⟨_,rfl⟩;rw[v]at t r p q l;simp only at l;obtain⟨m,f,rfl⟩:=Aj l.head;obtain⟨e,o,rfl⟩:=Aj l.body.row;simp[A9]at t r p q;exact⟨g,s,j,n,b,m,f,e,o,d,x,v,t,r,p,q⟩
def RN(x:cR)(a:Gp):Bool:=a.name.toList==x.toList
def aW(cs:List C0)(x:cR):Option Nat:=((cs.flatMap Bi).find? (RN x)).map λa=>lenOf a.tv
def Pz(cs:List C0)(a:Gp):Bool:=decide (2<lenOf a.tv)||(match aW cs a.name with|some n=> !(n==lenOf a.tv)|none=>false)
def aN(cs:List C0)(l:List Gp):Option Int:=(l.find? (Pz cs)).map λa=>a.place
theorem JI{α:Type}{p:α->Bool}{l:List α}(h:l.any p=false):l.find? p=none:=by
 rw[dC];intro y a b;rw[dy]at h;exact h y a b
theorem Yc{cs:List C0}{k:Nat}(a:k<cs.length):cs.flatMap Bi=(cs.take k).flatMap Bi++(Bi cs[k]++(cs.drop (k+1)).flatMap Bi):=by
 rw[show cs.flatMap Bi=(cs.take k++cs[k]::cs.drop (k+1)).flatMap Bi from by rw[List.getElem_cons_drop,dl]]
 rw[cw,cg]
theorem Z5{cs:List C0}{x:cR}{k:Nat}(a:k<cs.length){l:List Gp}(c:Bi cs[k]=l)(e:((cs.take k).flatMap Bi).any (RN x)=false){j:Nat}(b:j<l.length)(d:(l.take j).any (RN x)=false)(f:RN x l[j]=true):
  aW cs x=some (lenOf l[j].tv):=by
 unfold aW;rw[Yc a,fJ,JI e,c,fJ,EJ _ _ j b d f];rfl
theorem Yi{cs:List C0}{x:cR}{k:Nat}(c:k<cs.length){l:List Gp}(b:Bi cs[k]=l)(d:((cs.take k).flatMap Bi).any (RN x)=false)(a:l.any (RN x)=false):((cs.take (k+1)).flatMap Bi).any (RN x)=false:=by
 rw[bM c,cw,fW,d];simp[b,a]
theorem Sw(x:cR)(Bx:Option Addr)(AH:Nat)(cs:List C0)(w:World)(h:C9 w (.slice Bx cs.length AH) cs)(X:∀c∈cs,c.db.length<=1000)(HA:cs.length<=1000):
  Calls prog 100 #[.string x,.slice Bx cs.length AH] w λe w'=>e=.returned (Bv ((aW cs x).map fun(n:Nat)=>(n:Int)))/\Ac [] w w':=by
 have HP:=Ab h;have B9:=Ab X;obtain⟨R,K⟩:∃R,aW cs x=R:=⟨_,rfl⟩;rw[K];have Ax:=Ab K;clear h X K;go_enter func100,ntmps100;go_wp2
 go_loopg [12] cs.length (λgk i wr=>∃(k:Nat),i=.int .i64 k/\k<=cs.length/\gk=cs.length-k/\Hid (((cs.take k).flatMap Bi).any (RN x)=false)/\Hid (Ac [] w wr))
 case atStart=>exact⟨0,rfl,by omega,rfl,by show _=_;simp,Ac.refl _ _⟩
 case round=>
  obtain⟨k,rfl,hk,Q,G,y⟩:=hrel;have HG:=Ab Q;clear Q;by_cases m:k<cs.length
  .obtain⟨g,Go,u,z,l,v,t,r,A,b,q,AO,T,P,C,d3⟩:=F5 ((Aa HP).kept (Aa y)) k m;simp only[bK]at q;obtain⟨rfl,_,rfl⟩:=q;have o:=((Aa HP).kept (Aa y)).each _ (bL m);have D:=Aa B9 _ (bL m);obtain⟨a,d⟩:∃a,Bi cs[k]=a:=⟨_,rfl⟩;have HY:=Ab (λj (hj:j<a.length) h2 h3=>Z5 m d (Aa G) hj h2 h3);have HS:=Ab (Yi m d (Aa G));rw[AO]at o D d;simp only at o D;have B:=Ab (JS ⟨u,z,l,.slice v l.length t,.slice r b.length A,b⟩ (wr.alloc (.cells [.int .i64 u,.string z,.slice v l.length t,.slice r b.length A].toArray 189)) (o.kept ((Ac.refl [] wr).alloc _) (by simp)) D);have Y:=Ab (GV (c:=⟨u,z,l,.slice v l.length t,.slice r b.length A,b⟩) o);have FW:a.length<=1001:=by
    have:=Dt b;rw[<-d];simp[Bi];omega
   rw[d]at B Y;have p:=Ab ((Aa y).alloc (.cells [.int .i64 u,.string z,.slice v l.length t,.slice r b.length A].toArray 189));clear o AO d;simp only[A9]at B;(go_wp2_with fail);refine(Aa B).mono ?_;rintro e w2 ⟨FO,Ha,rfl,N,Z⟩;have S:=Ab ((Aa p).trans Z);have HO:=Ab N;clear B N Z p T P C d3;go_wp2
   go_loopg [19] a.length (λgj i O=>∃(j:Nat),i=.int .i64 j/\j<=a.length/\gj=a.length-j/\Hid ((a.take j).any (RN x)=false)/\Hid (Ac [] w O)/\Hid (Ac [] w2 O))
   case atStart=>exact⟨0,rfl,by omega,rfl,by show _=_;simp,S,Ac.refl _ _⟩
   case round=>
    clear S;obtain⟨j,rfl,hj,W,I,AT,BT⟩:=hrel;have FF:=Ab W;clear W;by_cases s:j<a.length
    .obtain⟨gg,HD,q,T,P,C⟩:=IC (Ad (Aa HO) (Aa BT) (by simp)) j s;simp only[bK]at q;obtain⟨rfl,_,rfl⟩:=q;obtain⟨U,H,V,E⟩:=Aa Y a[j] (bL s);rw[E]at C;have J:Hid ((a[j].name.toList==x.toList)=true->R=some H):=by
      intro f;have:=Aa HY j s (Aa I) f;rw[E]at this;rw[<-Aa Ax];exact this
     have F:Hid ((a[j].name.toList==x.toList)=false->(a.take (j+1)).any (RN x)=false):=by
      intro f;rw[Ct _ _ j s (Aa I)];exact f
     have p:=Ab ((Aa AT).alloc (.cells [.int .i64 a[j].place,.string a[j].name,.slice U H V].toArray 187));have EK:=Ab ((Aa BT).alloc (.cells [.int .i64 a[j].place,.string a[j].name,.slice U H V].toArray 187));clear E;cases f:(a[j].name.toList==x.toList)with
     |true=>
      have M:=Ab (Aa J f);clear J F;go_wp2;go_ret2;rw[Aa M];exact⟨rfl,Aa p⟩
     |false=>
      have M:=Ab (Aa F f);clear J F;go_wp2
      go_roundg (a.length-(j+1))
      case measure=>have:=Aa FF;omega
      case rel=>exact⟨j+1,by go_num,by omega,rfl,M,p,EK⟩
    .have L:Hid (((cs.take (k+1)).flatMap Bi).any (RN x)=false):=by
      have h:=Aa I;rw[bP (by omega)]at h;exact Aa HS h
     go_wp2
     go_roundg (cs.length-(k+1))
     case measure=>have:=Aa HG;omega
     case rel=>exact⟨k+1,by go_num,by omega,rfl,L,AT⟩
  .have L:Hid (R=none):=by
    have h:=Aa G;rw[bP (by omega)]at h;show _=_;rw[<-Aa Ax];unfold aW;rw[JI h];rfl
   go_wp2;go_ret2;rw[L.out];exact⟨rfl,Aa y⟩
theorem J7(S:Option Addr)(Q:Nat)(b:List Gp)(base:Nat)(s:Option Addr)(r:Nat)(cs:List C0)(w:World)(V:w.ownsRow base 187 3 (.slice S b.length Q) b.length (b.flatMap AF))(G:∀a∈b,∃ad n cp,a.tv=.slice ad n cp)(EX:b.length<=1001)(X:∀a∈b,lenOf a.tv<=1000)(h:C9 w (.slice s cs.length r) cs)(P:∀c∈cs,c.db.length<=1000)(Ax:cs.length<=1000):
  Calls prog 91 #[.slice S b.length Q,.slice s cs.length r] w λe t=>e=.returned (Bv (aN cs b))/\Ac [] w t:=by
 have HO:=Ab V;have BA:=Ab G;have Z:Hid (∀x wr,Ac [] w wr->Calls prog 100 #[.string x,.slice s cs.length r] wr λe t=>e=.returned (Bv ((aW cs x).map fun(n:Nat)=>(n:Int)))/\Ac [] wr t):=λx wr I=>Sw x s r cs wr (h.kept I) P Ax
 obtain⟨R,D⟩:∃R,aN cs b=R:=⟨_,rfl⟩;rw[D];have T:Hid ((b.find? (Pz cs)).map (λa=>a.place)=R):=D;clear h P D V G X;go_enter func91,ntmps91;go_wp2
 go_loopg [12] b.length (λgk i wr=>∃(k:Nat),i=.int .i64 k/\k<=b.length/\gk=b.length-k/\Hid ((b.take k).any (Pz cs)=false)/\Hid (Ac [] w wr))
 case atStart=>exact⟨0,rfl,by omega,rfl,by show _=_;simp,Ac.refl _ _⟩
 case round=>
  obtain⟨k,rfl,I,K,A,C⟩:=hrel;have J:=Ab K;clear K;by_cases q:k<b.length
  .obtain⟨g,ES,U,d0,Y,F⟩:=IC (Ad (Aa HO) (Aa C) (by simp)) k q;simp only[bK]at U;obtain⟨rfl,_,rfl⟩:=U;obtain⟨M,d,N,v⟩:=Aa BA b[k] (bL q);rw[v]at F;have l:Hid (Pz cs b[k]=true->R=some b[k].place):=by
    intro B;rw[<-Aa T,EJ _ _ k q (Aa A) B];rfl
   have m:Hid (Pz cs b[k]=false->(b.take (k+1)).any (Pz cs)=false):=by
    intro B;rw[Ct _ _ k q (Aa A)];exact B
   have f:Hid (Pz cs b[k]=(decide (2<d)||(match aW cs b[k].name with|some n=> !(n==d)|none=>false))):=by
    show _=_;unfold Pz;rw[v];rfl
   clear v;have z:=(Aa C).alloc (.cells [.int .i64 b[k].place,.string b[k].name,.slice M d N].toArray 187);have L:=Ab (AE.new wr [.int .i64 b[k].place,.string b[k].name,.slice M d N] 187);have H:=Ab (Aa Z b[k].name _ z);have O:=Ab z;clear z;(go_wp2_with fail);refine(Aa H).mono ?_;rintro e w3 ⟨rfl,y⟩;have E:=(Aa L).kept y (by simp);have p:=Ab ((Aa O).trans y);have c0:=E.cell 0;have c2:=E.cell 2;simp at c0 c2;clear H L O y E d0 Y F;by_cases u:2<d
   ·(have W:(2:Int)<(d:Int):=by omega);have j:Hid (R=some b[k].place):=Aa l (by rw[Aa f];simp[u]);clear l m f;cases aW cs b[k].name with
    |none=>
     simp only[Option.map_none,Bv];go_wp2;go_ret2;rw[Aa j];exact⟨rfl,Aa p⟩
    |some n=>
     simp only[ei,Bv];go_wp2;go_ret2;rw[Aa j];exact⟨rfl,Aa p⟩
   ·(have W:¬(2:Int)<(d:Int):=by omega);cases hv:aW cs b[k].name with
    |none=>
     have j:Hid ((b.take (k+1)).any (Pz cs)=false):=Aa m (by rw[Aa f,hv];simp[u]);clear l m f hv;simp only[Option.map_none,Bv];go_wp2
     go_roundg (b.length-(k+1))
     case measure=>have:=Aa J;omega
     case rel=>exact⟨k+1,by go_num,by omega,rfl,j,p⟩
    |some n=>
     by_cases o:n=d
     .have j:Hid ((b.take (k+1)).any (Pz cs)=false):=Aa m (by rw[Aa f,hv];simp[u,o]);(have BT:((d:Int) !=(n:Int))=false:=by rw[o];simp);(have AO:((d:Int)==(n:Int))=true:=by rw[o];simp);clear l m f hv;simp only[ei,Bv];clear o;go_wp2
      go_roundg (b.length-(k+1))
      case measure=>have:=Aa J;omega
      case rel=>exact⟨k+1,by go_num,by omega,rfl,j,p⟩
     .have j:Hid (R=some b[k].place):=Aa l (by rw[Aa f,hv];simp[o]);(have BT:((d:Int) !=(n:Int))=true:=by simp[bne];omega);(have AO:((d:Int)==(n:Int))=false:=by rw[cJ];omega);clear l m f hv;simp only[ei,Bv];go_wp2;go_ret2;rw[Aa j];exact⟨rfl,Aa p⟩
  .have HE:Hid (R=none):=by
    have h:=Aa A;rw[bP (by omega)]at h;show _=_;rw[<-Aa T,JI h];rfl
   go_wp2;go_ret2;rw[HE.out];exact⟨rfl,Aa C⟩
def FS(db:List JF):List A3:=db.flatMap λp=>if p.1.sort==0 then p.1.ts else[]
theorem TK{a:List JF}{k:Nat}(b:k<a.length):FS (a.take (k+1))=FS (a.take k)++(if a[k].1.sort==0 then a[k].1.ts else[]):=by
 unfold FS;rw[bM b,cw];simp
theorem QO(a:List JF):(FS a).length<=(AU a).length:=by
 induction a with
 |nil=>simp[FS]
 |cons p l ih=>
  unfold FS AU at*;simp only[cg,cc];have:(if p.1.sort==0 then p.1.ts else[]).length<=(AI p.1).length:=by
   by_cases h:(p.1.sort==0)=true
   .simp[h,AI,A6]
   .simp[h]
  omega
def Nd(db:List JF)(y:Int):Bool:=(FS db).any λt=>t.v==y
def CI(db:List JF)(t:A3):Bool:=t.v !=0&& !Nd db t.v
theorem Wx{ts:List A3}{c:List JF}{g a:List Int}(h:Gd ts g)(f:Gd (FS c) a):0<(g.filter λy=> !Jd a y).length↔ts.any (CI c)=true:=by
 rw[List.length_pos_iff_exists_mem,dp];constructor
 .rintro ⟨y,m⟩;obtain⟨o,j⟩:=cn.1 m;obtain⟨i,t,l,p⟩:=(h.mem y).1 o;refine⟨t,l,?_⟩;unfold CI Nd;rw[p];have e:((FS c).any λt=>t.v==y)=false:=by
   rw[dy];intro u d n;have:y∈a:=(f.mem y).2 ⟨i,u,d,by simpa using n⟩;rw[(OW a y).2 this]at j;cases j
  rw[e];simp[i]
 .rintro ⟨t,q,b⟩;unfold CI Nd at b;simp only[cq,bne_iff_ne,ne_eq,eD,dy]at b;refine⟨t.v,cn.2 ⟨(h.mem _).2 ⟨b.1,t,q,rfl⟩,?_⟩⟩;cases e:Jd a t.v with
  |false=>rfl
  |true=>
   obtain⟨_,u,d,k⟩:=(f.mem _).1 ((OW a _).1 e);exact absurd (by simpa using k) (b.2 u d)
theorem MP(P:Option Addr)(H:Nat)(ts:List A3)(bt:Nat)(AH:Option Addr)(Y:Nat)(a:List JF)(w:World)(R:w.ownsRow bt 215 2 (.slice P ts.length H) ts.length (ts.flatMap Ao))(h:BI w 0 (.slice AH a.length Y) a)(JA:a.length<=1000)(BA:∀p∈a,(p.1.sort==0)=true->0<p.1.ts.length/\p.1.ts.length<=1000)(H0:ts.length<=900000)(A:(FS a).length<=900000):
  Calls prog 136 #[.slice P ts.length H,.slice AH a.length Y] w λe w'=>e=.returned (.bool (ts.any (CI a)))/\Ac [] w w':=by
 obtain⟨i0,HU,FO,H2,HP⟩:=cU Tryz.gP;have CC:Hid (∀j c,Gd ts j->Gd (FS a) c->(0<(j.filter λy=> !Jd c y).length↔ts.any (CI a)=true)):=λj c h1 h2=>Wx h1 h2
 generalize ts.any (CI a)=LB at CC⊢;have HT:=Ab R;have HB:=Ab h;have HS:=Ab BA;have H4:=Ab A;clear R h BA A;go_enter func136,ntmps136;go_wp2
 go_loopg [5,10] a.length (λgk o i wr=>∃(k:Nat) (b:List A3) (d:Option Addr) (f:Nat),o=.slice d b.length f/\i=.int .i64 k/\k<=a.length/\b.length<=k*1000/\gk=a.length-k/\Hid (b=FS (a.take k))/\wr.ownsRow w.heap.size 215 2 (.slice d b.length f) b.length (b.flatMap Ao)/\Hid (Ac [] w wr))
 case atStart=>exact⟨0,[],none,0,rfl,rfl,by omega,by simp,rfl,by show _=_;simp[FS],ck _ _ _ _,Ac.refl _ _⟩
 case round=>
  obtain⟨k,b,d,f,rfl,rfl,U,K2,CL,m,N,u⟩:=hrel;have HG:=Ab CL;clear CL;have K4:=(Aa u).size;by_cases D:k<a.length
  .have Z:=(Aa HB).kept (Aa u) (by simp);obtain⟨g,K7,l,x,n,AO,T,EK,d0,d1,d2,d3,d4,d5,d6,d7,d8⟩:=Hu Z k D;simp only[bK]at AO;obtain⟨rfl,_,rfl⟩:=AO;have q:=Ab (TK D);have z:=Ab (Aa HS a[k] (bL D));rw[T]at q z;have I:=Ab (Ad EK ((Ac.refl [] wr).alloc (.cells (Aq (l,.slice x l.ts.length n)).toArray 217)) (by simp));clear Z EK T;have K:=Ab ((Aa u).alloc (.cells (Aq (l,.slice x l.ts.length n)).toArray 217));have G:=bQ N (.cells (Aq (l,.slice x l.ts.length n)).toArray 217);(have S:w.heap.size<=(wr.alloc (.cells (Aq (l,.slice x l.ts.length n)).toArray 217)).heap.size:=by simp;omega);simp only[Aq]at I K G S;cases hs:(l.sort==0)with
   |false=>
    (have J:Hid (b=FS (a.take (k+1))):=by show _=_;rw[Aa q,Aa m];simp[hs]);clear q m z;go_wp2
    go_roundg (a.length-(k+1))
    case measure=>have:=Aa HG;omega
    case rel=>exact⟨k+1,b,d,f,rfl,by go_num,by omega,by omega,rfl,J,G,K⟩
   |true=>
    (have J:Hid (b++l.ts=FS (a.take (k+1))):=by show _=_;rw[Aa q,Aa m];simp[hs]);obtain⟨EX,HL⟩:=Aa z hs;simp only at EX HL;obtain⟨gl,rfl,HJ,X,_,_⟩:=V5 (Aa I) EX;have HW:=Ab X;(have HF:Hid (∀t,(wr.alloc (.cells [.int .i64 l.place,.int .i64 l.sort,.int .i64 l.ap,.string l.an,.slice (some ⟨gl,0,none⟩) l.ts.length n,.int .i32 l.l.v,.string l.l.s,.int .i32 l.r.v,.string l.r.s].toArray 217)).grownBy t (Value.slice d b.length f).ownBlock->Ac [] w t):=λt hg=>(Aa K).grown hg (λk U=>Or.inr ((N.lt k U).1)));clear q m z X I;(have FF:(b++l.ts).length<=(k+1)*1000:=by simp;omega);(have Ix:k<=1000:=by omega);go_wp2_with (at_builtin;refine cd _ rfl (.tmp 17) (.tmp 20) _ rfl w.heap.size 215 i0 _ 2 24 underlying185 HU FO H2 HP rfl (by omega) (.slice d b.length f) b.length (b.flatMap Ao) rfl G ⟨gl,0,none⟩ l.ts.length n (l.ts.flatMap Ao) rfl HJ (Aa HW) (JC _) (by omega) (by unfold maxLen;omega) (by omega) S _ rfl ?_;intro g1 HC t HQ HH H8 FC)
    go_roundg (a.length-(k+1))
    case measure=>have:=Aa HG;omega
    case rel=>exact⟨k+1,b++l.ts,some ⟨g1,0,none⟩,HC,by simp,by go_num,by omega,FF,rfl,J,by simpa using HQ,Aa HF t HH⟩
  .have HE:Hid (b=FS a):=by
    have h:=Aa m;rw[bP (by omega)]at h;exact h
   (have A:b.length<=900000:=by rw[Aa HE];exact Aa H4);have Q:=Ab (JY P H ts bt wr (Ad (Aa HT) (Aa u) (by simp)) H0);clear m;(go_wp2_with fail);refine(Aa Q).mono ?_;rintro e w4 ⟨j,HO,HD,rfl,E,FL,k4⟩;have FA:=Ad N k4 (by simp);have ES:=Ab (JY d f b w.heap.size w4 FA A);have EY:=Ab ((Aa u).trans k4);have HX:=Ab E;have FC:=E.le;clear Q E;(go_wp2_with fail);refine(Aa ES).mono ?_;rintro e w5 ⟨c,HZ,HR,rfl,B,HK,k5⟩;have FW:=Ad FL k5 (by simp);have K5:=B.le;have O:=Ab (SN HO HD j HZ HR c _ _ w5 FW HK (by omega) (by omega) B.en);have Ha:=Ab ((Aa EY).trans k5);have M:=Ab (Aa CC j c (Aa HX) (by rw[<-Aa HE];exact B));clear ES B;generalize(j.filter λy=> !Jd c y)=F at O M;(go_wp2_with fail);refine(Aa O).mono ?_;rintro e w6 ⟨LC,KD,rfl,K9,k6⟩;have V:=Ab ((Aa Ha).trans k6);clear O;by_cases W:0<F.length
   ·(have L:(0:Int)<(F.length:Int):=by omega);have C:Hid (LB=true):=(Aa M).1 W;go_wp2;go_ret;rw[C.out];exact⟨by simp[L],Aa V⟩
   ·(have L:¬(0:Int)<(F.length:Int):=by omega);have C:Hid (LB=false):=by
     cases hb:LB with
     |false=>rfl
     |true=>exact absurd ((Aa M).2 hb) W
    go_wp2;go_ret;rw[C.out];exact⟨by simp[L],Aa V⟩
theorem GT(f:Option Addr)(s:Nat)(a:List JF)(w:World)(h:BI w 0 (.slice f a.length s) a)(Bx:a.length<=1000)(P:∀p∈a,(p.1.sort==0)=true->0<p.1.ts.length/\p.1.ts.length<=1000)(J:∀p∈a,(AI p.1).length<=1000)(G:(FS a).length<=900000):
  Calls prog 93 #[.slice f a.length s] w λe u=>e=.returned (Bv ((a.find? λp=>(AI p.1).any (CI a)).map λp=>p.1.place))/\Ac [] w u:=by
 have HB:=Ab h;have CL:=Ab J;have V:Hid (∀(m:Option Addr) (o:Nat) (b:List A3) (wr:World),Ac [] w wr->wr.ownsRow 0 215 2 (.slice m b.length o) b.length (b.flatMap Ao)->b.length<=900000->Calls prog 136 #[.slice m b.length o,.slice f a.length s] wr λe u=>e=.returned (.bool (b.any (CI a)))/\Ac [] wr u):=λm o b wr K hr hl=>MP m o b 0 f s a wr hr (h.kept K (by simp)) Bx P hl G
 obtain⟨R,E⟩:∃R,((a.find? λp=>(AI p.1).any (CI a)).map λp=>p.1.place)=R:=⟨_,rfl⟩;rw[E];have T:=Ab E;clear h J E P G;go_enter func93,ntmps93;go_wp2
 go_loopg [8] a.length (λgk i wr=>∃(k:Nat),i=.int .i64 k/\k<=a.length/\gk=a.length-k/\Hid ((a.take k).any (λp=>(AI p.1).any (CI a))=false)/\Hid (Ac [] w wr))
 case atStart=>exact⟨0,rfl,by omega,rfl,by show _=_;simp,Ac.refl _ _⟩
 case round=>
  obtain⟨k,rfl,K,N,z,B⟩:=hrel;have HG:=Ab N;clear N;by_cases d:k<a.length
  .obtain⟨g,FC,q,l,t,I,c,Q,d0,d1,W,X,d4,d5,d6,d7,d8⟩:=Hu ((Aa HB).kept (Aa B) (by simp)) k d;simp only[bK]at I;obtain⟨rfl,_,rfl⟩:=I;have C:=Aa CL a[k] (bL d);have n:Hid ((AI q).any (CI a)=true->R=some q.place):=by
    intro A;rw[<-Aa T,EJ _ _ k d (Aa z) (by rw[c];exact A),c];rfl
   have r:Hid ((AI q).any (CI a)=false->(a.take (k+1)).any (λp=>(AI p.1).any (CI a))=false):=by
    intro A;rw[Ct _ _ k d (Aa z)];rw[c];exact A
   rw[c]at C;simp only at C;have D:=Ab (KN q l t (wr.alloc (.cells (Aq (q,.slice l q.ts.length t)).toArray 217)) (Ad Q ((Ac.refl [] wr).alloc _) (by simp)));have S:=Ab (AE.new wr (Aq (q,.slice l q.ts.length t)) 217);have U:=Ab ((Aa B).alloc (.cells (Aq (q,.slice l q.ts.length t)).toArray 217));clear Q c;simp only[Aq]at D;(go_wp2_with fail);refine(Aa D).mono ?_;rintro e Y ⟨Z,ES,rfl,M,x⟩;have O:=Ab ((Aa S).kept x (by simp));have H:=Ab ((Aa U).trans x);have j:=Ab (Aa V Z ES (AI q) Y (Aa H) M (by omega));clear D M x S U d0 d1 W X d4 d5 d6 d7 d8;generalize(AI q).any (CI a)=LB at j n r;generalize(AI q).length=tl at j C⊢;(go_wp2_with fail);refine(Aa j).mono ?_;rintro e w5 ⟨rfl,y⟩;have v:=(Aa O).kept y (by simp);have L:=Ab ((Aa H).trans y);clear j y O;cases LB with
   |true=>
    have F:=Ab (Aa n rfl);have c0:=v.cell 0;simp[Aq]at c0;clear n r v;go_wp2;go_ret2;rw[Aa F];exact⟨rfl,Aa L⟩
   |false=>
    have F:=Ab (Aa r rfl);clear n r v;go_wp2
    go_roundg (a.length-(k+1))
    case measure=>have:=Aa HG;omega
    case rel=>exact⟨k+1,by go_num,by omega,rfl,F,L⟩
  .have HE:Hid (R=none):=by
    have h:=Aa z;rw[bP (by omega)]at h;show _=_;rw[<-Aa T,JI h];rfl
   go_wp2;go_ret2;rw[HE.out];exact⟨rfl,Aa B⟩
def Ng(c:C0)(t:A3):Bool:=t.v !=0&& !Nd c.db t.v
def GD(c:C0):Option Int:=if c.eB.any (Ng c)then some c.hp else(c.db.find? λp=>(AI p.1).any (Ng c)).map λp=>p.1.place
theorem LD{α:Type}{f g:α->Bool}:∀{l:List α},(∀x∈l,f x=g x)->l.any f=l.any g
 |[],_=>rfl
 |x::l,h=>by rw[fj,fj,h x (by simp),LD (λy a=>h y (by simp[a]))]
theorem Mb{α:Type}{f g:α->Bool}:∀{l:List α},(∀x∈l,f x=g x)->l.find? f=l.find? g
 |[],_=>rfl
 |x::l,h=>by rw[ej,ej,h x (by simp),Mb (λy a=>h y (by simp[a]))]
theorem Nt(c:C0)(w:World)(h:IP w 0 c.hv c.bv c.eB c.db)(f:NF c)(C:(Bn c).length<=900000):
  Calls prog 120 #[.agg (A9 c).toArray] w λe q=>e=.returned (Bv (GD c))/\Ac [] w q:=by
 have o:(FS c.db).length<=900000:=by
  have:=QO c.db;simp only[Bn,cc]at C;omega
 have A:c.eB.length<=900000:=by have:=f.head.2;omega
 have j:∀p∈c.db,(p.1.sort==0)=true->0<p.1.ts.length/\p.1.ts.length<=1000:=λp b K=>⟨(f.each p b).1 (by simp[A6,K]),(f.each p b).2⟩
 have s:∀p∈c.db,(AI p.1).length<=1000:=λp b=>(f.gC b).2
 have v:=f.lits;have d:Hid (GD c=if c.eB.any (CI c.db)then some c.hp else(c.db.find? λp=>(AI p.1).any (CI c.db)).map λp=>p.1.place):=rfl;generalize GD c=U at d⊢;clear f C;obtain⟨b,H,k,O,P,a⟩:=c;simp only at h o A j s v d;obtain⟨x,t,rfl⟩:=Aj h.head;obtain⟨g,i,rfl⟩:=Aj h.body.row;have G:=Ab (AE.new w [.int .i64 b,.string H,.slice x k.length t,.slice g a.length i] 189);have l:=(Ac.refl [] w).alloc (.cells [.int .i64 b,.string H,.slice x k.length t,.slice g a.length i].toArray 189);have n:=Ab (MP x t k 0 g i a _ (Ad h.head l (by simp)) (h.body.kept l (by simp)) v j A o);have z:Hid (∀wr,Ac [] w wr->Calls prog 93 #[.slice g a.length i] wr λe q=>e=.returned (Bv ((a.find? λp=>(AI p.1).any (CI a)).map λp=>p.1.place))/\Ac [] wr q):=λwr I=>GT g i a wr (h.body.kept I (by simp)) v j s o
 have D:=Ab l;generalize((a.find? λp=>(AI p.1).any (CI a)).map λp=>p.1.place)=FO at z d;generalize k.any (CI a)=LB at n d;clear h l j s;simp only[A9];go_enter func120,ntmps120;go_wp2_with fail
 refine(Aa n).mono ?_;rintro e L ⟨rfl,y⟩;have r:=(Aa G).kept y (by simp);have u:=Ab ((Aa D).trans y);have M:=r.cell 0;have J:=r.cell 3;simp at M J;have F:=Ab (Aa z L (Aa u));clear n G D y r z;cases LB with
 |true=>
  have m:Hid (U=some b):=by have h:=Aa d;exact h
  clear d;go_wp2;go_ret2;rw[Aa m];exact⟨rfl,Aa u⟩
 |false=>
  have m:Hid (U=FO):=by have h:=Aa d;exact h
  clear d;go_wp2_with fail
  refine(Aa F).mono ?_;rintro e N ⟨rfl,B⟩;have E:=Ab ((Aa u).trans B);clear F B;cases FO with
  |none=>
   simp only[Bv];go_wp2;go_ret2;rw[Aa m];exact⟨rfl,Aa E⟩
  |some p=>
   simp only[Bv];go_wp2;go_ret2;rw[Aa m];exact⟨rfl,Aa E⟩
structure Vg(b:Nat)(w w':World):Prop where
 os:w'.os=w.os
 tape:w'.tape=w.tape
 output:w'.output=w.output
 size:w.heap.size<=w'.heap.size
 block:∀k,k<b->w'.heap[k]?=w.heap[k]?
theorem Vg.trans{b:Nat}{u v w:World}(h:Vg b u v)(k:Vg b v w):Vg b u w:=⟨k.os.trans h.os,k.tape.trans h.tape,k.output.trans h.output,da h.size k.size,λi a=>(k.block i a).trans (h.block i a)⟩
theorem Vg.of{M:List Nat}{b:Nat}{w w':World}(k:Ac M w w')(d:b<=w.heap.size)(a:∀i,i∈M->b<=i):Vg b w w':=
 ⟨k.os,k.tape,k.output,k.size,λi c=>k.block i (by omega) (λh=>by have:=a i h;omega)⟩
theorem Vg.kept{b:Nat}{w w':World}(h:Vg b w w')(c:w.heap.size<=b):Ac [] w w':=⟨h.os,h.tape,h.output,h.size,λk a _=>h.block k (by omega)⟩
theorem Ji{b:Nat}{w w':World}{base:Nat}{e:TypeId}{size:Nat}{v:Value}{n:Nat}{a:List Value}(h:w.ownsRow base e size v n a)(k:Vg b w w')(d:∀i,v.ownBlock=some i->i<b):w'.ownsRow base e size v n a:=by
 refine⟨h.1,?_⟩;rcases h.2 with o|⟨g,f,c,rfl,l,j,m⟩
 .exact .inl o
 .refine .inr ⟨g,f,c,rfl,l,?_,m⟩;rw[k.block g (d g rfl)];exact j
structure Zd(w:World)(b:Nat)(c:C0):Prop where
 at_:IP w 0 c.hv c.bv c.eB c.db
 lt1:∀k,c.hv.ownBlock=some k->k<b
 lt2:∀k,c.bv.ownBlock=some k->k<b
 lt3:∀p∈c.db,∀k,p.2.ownBlock=some k->k<b
theorem Zd.low{w w':World}{b:Nat}{c:C0}(h:Zd w b c)(k:Vg b w w'):Zd w' b c:=
 ⟨⟨Ji h.at_.head k h.lt1,⟨Ji h.at_.body.row k h.lt2,λp a=>⟨Ji (h.at_.body.each p a).1 k (h.lt3 p a),(h.at_.body.each p a).2⟩⟩⟩,h.lt1,h.lt2,h.lt3⟩
structure Ej(w:World)(b:Nat)(n:Int)(nv tv:Value)(names dc:List cR):Prop where
 gA:AE w b [.int .i64 n,nv,tv] 210
 rn:w.ownsRow (b+1) 9 1 nv names.length (names.flatMap Ae)
 rt:w.ownsRow (b+1) 170 1 tv dc.length (dc.flatMap Ae)
 ant:BP nv tv
 rin:Cy E2 names
 rit:Cy E2 dc
theorem Ej.kept{w w':World}{b:Nat}{n:Int}{a tv:Value}{d c:List cR}(h:Ej w b n a tv d c)(k:Ac [] w w'):Ej w' b n a tv d c:=
 ⟨h.gA.kept k (by simp),Ad h.rn k (by simp),Ad h.rt k (by simp),h.ant,h.rin,h.rit⟩
theorem BP.symm{u v:Value}(h:BP u v):BP v u:=λk b a=>h k a b
theorem PI(b:Nat)(n:Nat)(l tv:Value)(c a:List cR)(w:World)(h:Ej w b n l tv c a):
  Calls prog 117 #[.pointer (some ⟨b,0,none⟩)] w λe o=>e=.returned (.bool (decide (12<n)||decide (6<c.length)||decide (6<a.length)))/\o=w:=by
 obtain⟨s,v,rfl⟩:=Aj h.rn;obtain⟨u,t,rfl⟩:=Aj h.rt;have q:=h.gA.cell 0;have r:=h.gA.cell 1;have k:=h.gA.cell 2;simp at q r k;clear h;obtain⟨V,g⟩:∃V,(decide (12<n)||decide (6<c.length)||decide (6<a.length))=V:=⟨_,rfl⟩;rw[g];have f:=Ab g;clear g;by_cases j:12<n
 .have p:(12:Int)<(n:Int):=by omega
  have d:Hid (V=true):=by show _=_;rw[<-Aa f];simp[j]
  go_enter func117,ntmps117;go_wp2;go_ret;rw[Aa d];exact⟨by simp,rfl⟩
 .have p:¬(12:Int)<(n:Int):=by omega
  by_cases i:6<c.length
  ·(have m:(6:Int)<(c.length:Int):=by omega);(have d:Hid (V=true):=by show _=_;rw[<-Aa f];simp[i]);go_enter func117,ntmps117;go_wp2;go_ret;rw[Aa d];exact⟨by simp,rfl⟩
  ·(have m:¬(6:Int)<(c.length:Int):=by omega);have d:Hid (V=decide ((6:Int)<(a.length:Int))):=by
    show _=_;rw[<-Aa f];have e:decide ((6:Int)<(a.length:Int))=decide (6<a.length):=by
     by_cases h:6<a.length
     ·(have:(6:Int)<(a.length:Int):=by omega);simp[h,this]
     ·(have:¬(6:Int)<(a.length:Int):=by omega);simp[h,this]
    rw[e];simp[j,i]
   go_enter func117,ntmps117;go_wp2;go_ret;rw[Aa d];exact⟨by simp,rfl⟩
