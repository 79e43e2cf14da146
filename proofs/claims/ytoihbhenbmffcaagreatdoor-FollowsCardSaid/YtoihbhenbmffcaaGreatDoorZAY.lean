import Derived.Test.YtoihbhenbmffcaaGreatDoorZAV
import Derived.Test.YtoihbhenbmffcaaGreatDoorZAI
set_option linter.unusedVariables false
set_option linter.unusedSimpArgs false
set_option maxHeartbeats 6400000
namespace Go.Proofs.YtoihbhenbmffcaaGreatDoor
open Go.RowKit
open Go.Proofs.Tryz
def A5(l:PL):Bool:=l.sort==0||l.sort==1
def AS(l:PL):List A3:=if A5 l then l.ts else[l.l,l.r]
theorem L4(l:PL)(p:Option Addr)(n o:Nat)(w:World):
  Calls prog 135 #[.agg (Ap (l, .slice p n o)).toArray] w λe q=>e= .returned (.bool (A5 l))/\Ac [] w q:=by
 have j:=(Ac.refl [] w).alloc (.cells (Ap (l, .slice p n o)).toArray 217);obtain⟨i,a,m,c,d,f,g⟩:=l;have r:Hid (∀b,A5 ⟨i,a,m,c,d,f,g⟩=b->(a==0||a==1)=b):=λb h=>h
 simp only[Ap]at j⊢;go_enter func135,ntmps135;cases h0:(a==0)with
 |true=>
  have k:Hid (A5 ⟨i,a,m,c,d,f,g⟩=true):=by show _=_;unfold A5;simp only;rw[h0];rfl
  go_wp2;go_ret;rw[k.out];exact⟨rfl,j⟩
 |false=>
  have k:Hid (A5 ⟨i,a,m,c,d,f,g⟩=(a==1)):=by show _=_;unfold A5;simp only;rw[h0];rfl
  go_wp2;go_ret;rw[k.out];exact⟨rfl,j⟩
theorem VM{w:World}{N:Nat}{cs:List Value}{t:TypeId}(h:Aw w N cs t){n size:Nat}(a:cs.length=n*size)(b:n<=maxLen):w.ownsRow 0 t size (.slice (some ⟨N,0,none⟩) n n) n cs:=by
 refine⟨a,Or.inr ⟨N,n,cs.toArray,rfl,aG _,h,au _,b,by simpa using a,?_⟩⟩;rw[<-a];simp
theorem Ka(l:PL)(c:Option Addr)(d:Nat)(w:World)(h:IM w 0 (l, .slice c l.ts.length d)):
  Calls prog 137 #[.agg (Ap (l, .slice c l.ts.length d)).toArray] w λe p=>∃z A,e= .returned (.slice z (AS l).length A)/\p.ownsRow 0 215 2 (.slice z (AS l).length A) (AS l).length ((AS l).flatMap Am)/\Ac [] w p:=by
 have j:=Ab ((Ac.refl [] w).alloc (.cells (Ap (l, .slice c l.ts.length d)).toArray 217));have o:=Ab (Aw.new w (Ap (l, .slice c l.ts.length d)) 217);have r:=Ab (Ad h (Aa j) (by simp));have t:Hid (∀w,Calls prog 135 #[.agg (Ap (l, .slice c l.ts.length d)).toArray] w λe p=>e= .returned (.bool (A5 l))/\Ac [] w p):=λw=>L4 l c l.ts.length d w
 clear h;obtain⟨k,i,n,m,f,a,b⟩:=l;simp only[Ap]at j o r t⊢;go_enter func137,ntmps137;go_wp2_with fail
 change Calls _ _ _ (w.alloc (.cells [.int .i64 k, .int .i64 i, .int .i64 n, .string m, .slice c f.length d, .int .i32 a.v, .string a.s, .int .i32 b.v, .string b.s].toArray 217)) _;generalize w.alloc (.cells [.int .i64 k, .int .i64 i, .int .i64 n, .string m, .slice c f.length d, .int .i32 a.v, .string a.s, .int .i32 b.v, .string b.s].toArray 217)=w1 at j o r⊢;generalize w.heap.size=N at o⊢;refine(Aa t w1).mono ?_;rintro e u ⟨rfl,q⟩;have g:=(Aa o).kept q (by simp);have y:=Ab ((Aa j).trans q);have F:=Ab (Ad (Aa r) q (by simp));have H:=g.cell 4;have E:=g.cell 5;have G:=g.cell 6;have C:=g.cell 7;have B:=g.cell 8;simp at H E G C B;clear g o r j q t;cases hh:A5 ⟨k,i,n,m,f,a,b⟩with
 |true=>
  have x:Hid (AS ⟨k,i,n,m,f,a,b⟩=f):=by show _=_;unfold AS;rw[hh];rfl
  clear hh;go_wp2;go_ret;rw[x.out];exact⟨c,d,rfl,Aa F,Aa y⟩
 |false=>
  have x:Hid (AS ⟨k,i,n,m,f,a,b⟩=[a,b]):=by show _=_;unfold AS;rw[hh];rfl
  clear hh;have D:Hid ((u.alloc (.cells [.int .i32 a.v, .string a.s, .int .i32 b.v, .string b.s].toArray 215)).ownsRow 0 215 2 (.slice (some ⟨u.heap.size,0,none⟩) 2 2) 2 [.int .i32 a.v, .string a.s, .int .i32 b.v, .string b.s]):=VM (Aw.new u _ 215) rfl (by unfold maxLen;omega);go_wp2;go_ret;rw[x.out];exact⟨_,_,rfl,Aa D,(Aa y).alloc _⟩
theorem Tryz.info187:(Tryz.prog.info? 187).map (λi=>(i.zero,i.size,i.bytes))=some (some (.agg #[.int .i64 0, .string ⟨#[]⟩, .slice none 0 0]),3,48):=by kernel_rfl
theorem Ql(p:MH):(Ap p).length=9:=rfl
theorem P7(p:F6):(AL p).length=3:=rfl
theorem Qp(p:A3):(Am p).length=2:=rfl
theorem G7{w:World}{base:Nat}{C:Value}{e:List MH}(h:Cd w base C e)(k:Nat)(a:k<e.length):
  ∃g o l d f,C= .slice (some ⟨g,0,none⟩) e.length o/\e[k]=(l, .slice d l.ts.length f)/\IM w base (l, .slice d l.ts.length f)/\
   w.cell? ⟨g,k*9,none⟩=some (.int .i64 l.place)/\w.cell? ⟨g,k*9+1,none⟩=some (.int .i64 l.sort)/\w.cell? ⟨g,k*9+2,none⟩=some (.int .i64 l.ap)/\w.cell? ⟨g,k*9+3,none⟩=some (.string l.an)/\w.cell? ⟨g,k*9+4,none⟩=some (.slice d l.ts.length f)/\
   w.cell? ⟨g,k*9+5,none⟩=some (.int .i32 l.l.v)/\w.cell? ⟨g,k*9+6,none⟩=some (.string l.l.s)/\w.cell? ⟨g,k*9+7,none⟩=some (.int .i32 l.r.v)/\w.cell? ⟨g,k*9+8,none⟩=some (.string l.r.s):=by
 obtain⟨g,o,D,_,b⟩:=AE h.row (λc _=>Ql c) k a;have u:=(h.each _ (Z7 a)).1;obtain⟨d,f,m⟩:=Ak u;have t:=b k a 0 (by omega);have n:=b k a 1 (by omega);have i:=b k a 2 (by omega);have j:=b k a 3 (by omega);have z:=b k a 4 (by omega);have x:=b k a 5 (by omega);have q:=b k a 6 (by omega);have p:=b k a 7 (by omega);have y:=b k a 8 (by omega);obtain⟨l,A,B⟩:∃l A,e[k]=(l,A):=⟨_,_,rfl⟩;rw[B]at t n i j z x q p y u m;simp only at m;subst m;simp[Ap]at t n i j z x q p y;exact⟨g,o,l,d,f,D,B,u,t,n,i,j,z,x,q,p,y⟩
def A7(lvs:List MH):List F6:=(lvs.filter λp=>A5 p.1).map λp=>⟨p.1.ap,p.1.an,p.2⟩
def Bh(c:Da):List F6:=⟨c.hp,c.hn,c.hv⟩::A7 c.lvs
theorem MM{a:List MH}{k:Nat}(b:k<a.length):A7 (a.take (k+1))=A7 (a.take k)++(if A5 a[k].1 then[⟨a[k].1.ap,a[k].1.an,a[k].2⟩] else[]):=by
 unfold A7;rw[ac b,cE,bm]
 congr 1
 by_cases h:A5 a[k].1=true<;>simp[h]
theorem D5(a:List MH):(A7 a).length<=a.length:=by
 unfold A7;rw[aD];exact bO _ _
set_option maxRecDepth 100000
theorem OT(D:Option Addr)(M:Nat)(a:List MH)(w:World)(h:Cd w 0 (.slice D a.length M) a)(FW:a.length<=1000):
  Calls prog 92 #[.slice D a.length M] w λe B=>∃f j,e= .returned (.slice f (A7 a).length j)/\B.ownsRow w.heap.size 187 3 (.slice f (A7 a).length j) (A7 a).length ((A7 a).flatMap AL)/\Ac [] w B:=by
 obtain⟨i0,FL,R,X,BA⟩:=bj Tryz.info187;have V:=Ab h;clear h;go_enter func92,ntmps92;go_wp2
 go_loopg [3,8] a.length (λgk o i wr=>∃(k:Nat) (b:List F6) (f:Option Addr) (j:Nat),o= .slice f b.length j/\i= .int .i64 k/\k<=a.length/\b.length<=k/\gk=a.length-k/\Hid (b=A7 (a.take k))/\wr.ownsRow w.heap.size 187 3 (.slice f b.length j) b.length (b.flatMap AL)/\Hid (Ac [] w wr))
 case atStart=>exact⟨0,[],none,0,rfl,rfl,by omega,by simp,rfl,by show _=_;simp[A7],ax _ _ _ _,Ac.refl _ _⟩
 case round=>
  obtain⟨k,b,f,j,rfl,rfl,G,Go,I,q,v,p⟩:=hrel;have H:=Ab I;clear I;by_cases A:k<a.length
  ·have N:=(Aa V).kept (Aa p) (by simp);have HC:=(Aa p).size;obtain⟨g,FT,l,c,d,E,L,BT,d0,W,P,Q,d4,d5,Z,Y,d8⟩:=G7 N k A;simp only[Z6]at E;obtain⟨rfl,_,rfl⟩:=E;have s:=Ab (MM A);rw[L]at s;clear N BT L;have z:=Ab (L4 l c l.ts.length d (wr.alloc (.cells (Ap (l, .slice c l.ts.length d)).toArray 217)));simp only[Ap]at z;have O:=Ab (Aw.new wr (Ap (l, .slice c l.ts.length d)) 217);have C:=Ab ((Aa p).alloc (.cells (Ap (l, .slice c l.ts.length d)).toArray 217));have F:=Ab (ah v (.cells (Ap (l, .slice c l.ts.length d)).toArray 217));(go_wp2_with fail);refine(Aa z).mono ?_;rintro e m ⟨rfl,n⟩;have u:=(Aa O).kept n (by simp);have K:=Ab ((Aa C).trans n);have x:=Ad (Aa F) n (by simp);have J:=n.size;(have FP:wr.heap.size+1<=m.heap.size:=by simpa using J);have c2:=u.cell 2;have c3:=u.cell 3;have c4:=u.cell 4;simp[Ap]at c2 c3 c4;clear u n O C F z d0 W P Q d4 d5 Z Y d8 v p J;cases hh:A5 l with
   |false=>
    (have y:Hid (b=A7 (a.take (k+1))):=by show _=_;rw[Aa s,hh,Aa q];simp);clear hh q s;go_wp2
    go_roundg (a.length-(k+1))
    case measure=>have:=Aa H;omega
    case rel=>exact⟨k+1,b,f,j,rfl,by go_num,by omega,by omega,rfl,y,x,K⟩
   |true=>
    (have y:Hid (b++[⟨l.ap,l.an, .slice c l.ts.length d⟩]=A7 (a.take (k+1))):=by show _=_;rw[Aa s,hh,Aa q];simp);clear hh q s;have AB:=aS m (.cells (AL ⟨l.ap,l.an, .slice c l.ts.length d⟩).toArray 187);have EY:=ah x (.cells (AL ⟨l.ap,l.an, .slice c l.ts.length d⟩).toArray 187);(have T:Hid (∀r,(m.alloc (.cells (AL ⟨l.ap,l.an, .slice c l.ts.length d⟩).toArray 187)).grownBy r (Value.slice f b.length j).ownBlock->Ac [] w r):=λr S=>((Aa K).alloc _).grown S (λk G=>Or.inr ((x.lt k G).1)));go_wp2_with (at_builtin;refine ay _ rfl (.tmp 14) (.tmp 17) _ rfl w.heap.size 187 i0 _ 3 48 underlying163 FL R X BA rfl (by omega) (.slice f b.length j) b.length (b.flatMap AL) rfl EY ⟨m.heap.size,0,none⟩ 1 1 (AL ⟨l.ap,l.an, .slice c l.ts.length d⟩) rfl rfl (aF (cs:=(AL ⟨l.ap,l.an, .slice c l.ts.length d⟩).toArray) (t:=187) (fr:=(0,0)) AB) (by simp[Value.oneCell',AL]) (by omega) (by unfold maxLen;omega) (by omega) (by simp;omega) (m.heap.size+1) (by simp) ?_;intro g1 U r CC Ax FO Ha)
    go_roundg (a.length-(k+1))
    case measure=>have:=Aa H;omega
    case rel=>exact⟨k+1,b++[⟨l.ap,l.an, .slice c l.ts.length d⟩],some ⟨g1,0,none⟩,U,by simp,by go_num,by omega,by simp;omega,rfl,y,by simpa using CC,Aa T r Ax⟩
  ·have HE:Hid (b=A7 a):=by
    have h:=Aa q;rw[Z9 (by omega)]at h;exact h
   go_wp2;go_ret;rw[<-HE.out];exact⟨f,j,rfl,v,Aa p⟩
theorem Vw(w:World)(base:Nat)(b:List MH)(v:Value)(h:Cd w base v b):∀u∈(A7 b).flatMap AL,u.oneCell'=true:=by
 intro u f;obtain⟨t,d,a⟩:=bh.1 f;obtain⟨p,c,rfl⟩:=az.1 d;obtain⟨i,g,e⟩:=Ak (h.each p (aJ.1 c).1).1;simp only[AL,aj,bE,or_false]at a;rcases a with rfl|rfl|rfl
 ·rfl
 ·rfl
 ·rw[e];rfl
theorem Jl(c:Da)(w:World)(h:Im w 0 c.hv c.bv c.hts c.lvs)(R:c.lvs.length<=1000):
    Calls prog 119 #[.agg (A8 c).toArray] w λe t=>∃v z,e= .returned (.slice v (Bh c).length z)/\t.ownsRow w.heap.size 187 3 (.slice v (Bh c).length z) (Bh c).length ((Bh c).flatMap AL)/\Ac [] w t:=by
  obtain⟨T,P,K,Q,S⟩:=bj Tryz.info187
  obtain⟨f,i,b,hv,bv,a⟩:=c
  simp only at h R
  obtain⟨g,d,rfl⟩:=Ak h.head
  obtain⟨l,m,rfl⟩:=Ak h.body.row
  have M:Hid (∀wr,Ac [] w wr->Calls prog 92 #[.slice l a.length m] wr λe t=>∃v z,e= .returned (.slice v (A7 a).length z)/\t.ownsRow wr.heap.size 187 3 (.slice v (A7 a).length z) (A7 a).length ((A7 a).flatMap AL)/\Ac [] wr t):=λwr p=>OT l m a wr (h.body.kept p (by simp)) R
  have E:=Ab (Vw w 0 a _ h.body)
  have Ax:=D5 a
  have A:Hid (Bh ⟨f,i,b, .slice g b.length d, .slice l a.length m,a⟩=[⟨f,i, .slice g b.length d⟩]++A7 a):=rfl
  generalize Bh ⟨f,i,b, .slice g b.length d, .slice l a.length m,a⟩=AT at A⊢
  generalize A7 a=BA at M E Ax A
  clear h
  simp only[A8]
  have q:=Ab (Aw.new w [.int .i64 f, .string i, .slice g b.length d, .slice l a.length m] 189)
  have x:=Ab ((Ac.refl [] w).alloc (.cells [.int .i64 f, .string i, .slice g b.length d, .slice l a.length m].toArray 189))
  go_enter func119,ntmps119
  go_wp2_with fail
  change Code.wp _ _ _ _ (w.alloc (.cells [.int .i64 f, .string i, .slice g b.length d, .slice l a.length m].toArray 189))
  have F:(w.alloc (.cells [.int .i64 f, .string i, .slice g b.length d, .slice l a.length m].toArray 189)).heap.size=w.heap.size+1:=by simp
  generalize w.alloc (.cells [.int .i64 f, .string i, .slice g b.length d, .slice l a.length m].toArray 189)=w1 at q x F⊢
  obtain⟨N,C⟩:∃N,w.heap.size=N:=⟨_,rfl⟩
  rw[C]at q F⊢
  have c0:=(Aa q).cell 0
  have c1:=(Aa q).cell 1
  have c2:=(Aa q).cell 2
  have c3:=(Aa q).cell 3
  simp at c0 c1 c2 c3
  have H:=Ab C
  have G:AT.length=1+BA.length:=by rw[Aa A];simp;omega
  have Y:Hid (∀(r:World) (o:Option Addr) (n:Nat),r.ownsRow N 187 3 (.slice o (1+BA.length) n) (1+BA.length) (AL ⟨f,i, .slice g b.length d⟩++BA.flatMap AL)->r.ownsRow N 187 3 (.slice o AT.length n) AT.length (AT.flatMap AL)):=by
    intro r o n ho
    rw[G,Aa A,aN]
    simpa using ho
  have L:=Ab G
  have EX:Hid ((w1.drew.alloc (.cells (AL ⟨f,i, .slice g b.length d⟩).toArray 187)).ownsRow N 187 3 (.slice (some ⟨N+1,0,none⟩) 1 1) 1 (AL ⟨f,i, .slice g b.length d⟩)):=by
    have V:=Aw.new w1.drew (AL ⟨f,i, .slice g b.length d⟩) 187
    rw[show w1.drew.heap.size=N+1 from F]at V
    exact⟨rfl,Or.inr ⟨N+1,1,_,rfl,by omega,V,au _,by unfold maxLen;omega,rfl,rfl⟩⟩
  have CL:Hid (∀j:World,N<=j.heap.size->(j.alloc (.cells (AL ⟨f,i, .slice g b.length d⟩).toArray 187)).ownsRow N 187 3 (.slice (some ⟨j.heap.size,0,none⟩) 1 1) 1 (AL ⟨f,i, .slice g b.length d⟩)):=λj p=>⟨rfl,Or.inr ⟨j.heap.size,1,_,rfl,p,Aw.new j _ 187,au _,by unfold maxLen;omega,rfl,rfl⟩⟩
  clear C G
  go_region_law
    (first
      | (go_simp;go_at_call 92;refine(Aa M _ (by first|exact(Aa x).drew|exact((Aa x).drew).alloc _)).mono ?_;rintro e j ⟨U,W,rfl,X,u⟩;
         have O:=u.size;
         first
           | (have AB:=Ad (Aa EX) u (by simp);have D:=((Aa x).drew.alloc _).trans u;have BT:N+2<=j.heap.size:=by simp at O;omega)
           | (have I:=(Aa q).drew.kept u (by simp);have Z:=I.cell 0;have e1:=I.cell 1;have e2:=I.cell 2;simp at Z e1 e2;have D:=(Aa x).drew.trans u;have BT:N+1<=j.heap.size:=by simp at O;omega))
      | (refine Hz _ (by rfl) _ _ _ (by rfl) N 187 T _ 3 48 underlying163 P K Q S rfl (by omega) (some ⟨N+1,0,none⟩) 1 1 (AL ⟨f,i, .slice g b.length d⟩) (by rfl) AB _ U BA.length W (BA.flatMap AL) (by rfl) X (Aa E) (by unfold maxLen;omega) (by omega) (by omega) ?_;intro o n r s y J;have B:=Ab (And.intro (Aa Y r o n s) (D.grown y (λk p=>Or.inr (by simp[Value.ownBlock]at p;have:=Aa H;omega))));clear s y J)
      | (refine Hz _ (by rfl) _ _ _ (by rfl) N 187 T _ 3 48 underlying163 P K Q S rfl (by omega) (some ⟨j.heap.size,0,none⟩) 1 1 (AL ⟨f,i, .slice g b.length d⟩) (by rfl) (Aa CL j (by omega)) _ U BA.length W (BA.flatMap AL) (by rfl) (ah X _) (Aa E) (by unfold maxLen;omega) (by omega) (by simp;omega) ?_;intro o n r s y J;have B:=Ab (And.intro (Aa Y r o n s) ((D.alloc _).grown y (λk p=>Or.inr (by simp[Value.ownBlock]at p;have:=Aa H;omega))));clear s y J))
  all_goals
    go_wp2
    go_ret
    rw[Aa H,Aa L]
    exact⟨o,n,rfl,by have h:=(Aa B).1;rw[Aa L]at h;exact h,(Aa B).2⟩
def Bg(lvs:List MH):List A3:=lvs.flatMap λp=>AS p.1
def Bj(c:Da):List A3:=c.hts++Bg c.lvs
theorem MP{a:List MH}{k:Nat}(b:k<a.length):Bg (a.take (k+1))=Bg (a.take k)++AS a[k].1:=by
 unfold Bg;rw[ac b,aN];simp
theorem I7(ts:List A3):∀u∈ts.flatMap Am,u.oneCell'=true:=by
 intro u a;obtain⟨t,_,h⟩:=bh.1 a;simp[Am]at h;rcases h with rfl|rfl<;>rfl
theorem U1{w:World}{base:Nat}{e:TypeId}{size:Nat}{c:Option Addr}{n d:Nat}{b:List Value}(h:w.ownsRow base e size (.slice c n d) n b)(o:0<n):
  ∃g,c=some ⟨g,0,none⟩/\b.length=n*size/\(∀j u,b[j]?=some u->w.cell? ((⟨g,0,none⟩:Addr).add j)=some u)/\base<=g/\g<w.heap.size:=by
 rcases h.2 with⟨a,k⟩|⟨g,i,f,a,l,m⟩
 ·omega
 ·simp only[Z6]at a;obtain⟨rfl,_,rfl⟩:=a;exact⟨g,rfl,h.1,h.cells rfl,(h.lt g rfl)⟩
structure MV(c:Da):Prop where
 head:0<c.hts.length/\c.hts.length<=1000
 lits:c.lvs.length<=1000
 each:∀p∈c.lvs,(A5 p.1=true->0<p.1.ts.length)/\p.1.ts.length<=1000
theorem MV.terms{c:Da}(h:MV c){p:MH}(a:p∈c.lvs):0<(AS p.1).length/\(AS p.1).length<=1000:=by
 have:=h.each p a;unfold AS;split
 ·rename_i b;exact⟨this.1 b,this.2⟩
 ·simp
set_option maxRecDepth 512
theorem WA(n:Nat)(w:World)(r:0<n)(v:n<=2000000):
  Calls prog 228 #[.slice none 0 0, .int .i64 n] w λe j=>∃g G,e= .returned (.slice (some ⟨g,0,none⟩) 0 G)/\j.ownsRow w.heap.size 215 2 (.slice (some ⟨g,0,none⟩) 0 G) 0 []/\Ac [] w j:=by
 obtain⟨f,s,q,y,m⟩:=bj Tryz.info215;have l:(Builtin.firstCells f.size 0 (.slice none 0 0)).run prog w.drew= .ok ([]:List Value).toArray w.drew:=run_firstCells_none w.drew f.size 0 0 0;have k:∀i,(Builtin.append_ #[185,3] i #[.slice none 0 0, .int .i64 (n:Int)]).run prog w=
   .ok (.slice (some ⟨w.heap.size,0,none⟩) n (grownCap w n 0 215)) (w.drew.alloc (.cells (([]:List Value).toArray++Builtin.zeroCells (Value.agg #[.int .i32 0, .string ⟨#[]⟩]:Value).cells n++Builtin.zeroCells (Value.agg #[.int .i32 0, .string ⟨#[]⟩]:Value).cells (grownCap w n 0 215-n)) 215)):=λi=>by
  have h:=Lib.run_append_grow_zeros w 185 3 i 215 f _ .i64 .i64 underlying185 underlying3 s q none 0 0 [] l n r (by omega) (by omega) (by omega) (by rw[m];omega) (by rw[m,bf];exact dX (by omega) (by omega));simp only[bf]at h;exact h
 obtain⟨G,b⟩:∃G,G=grownCap w n 0 215:=⟨_,rfl⟩;obtain⟨a,c⟩:∃a:Array Value,a=([]:List Value).toArray++Builtin.zeroCells (Value.agg #[.int .i32 0, .string ⟨#[]⟩]:Value).cells n++Builtin.zeroCells (Value.agg #[.int .i32 0, .string ⟨#[]⟩]:Value).cells (G-n):=⟨_,rfl⟩;rw[<-b,<-c]at k;have t:n<=G:=by rw[b];exact grownCap_ge w _ _ _
 have d:G<=maxLen:=by rw[b];exact dw w n 0 215 (by unfold maxLen;omega)
 have p:a.size=G*2:=by
  rw[c];simp[Builtin.zeroCells,Value.cells];omega
 have u:G<=9223372036854775807:=by unfold maxLen at d;omega
 have o:Hid ((w.alloc (.cells a 215)).ownsRow w.heap.size 215 2 (.slice (some ⟨w.heap.size,0,none⟩) 0 G) 0 []/\Ac [] w (w.alloc (.cells a 215))):=
  ⟨⟨rfl,Or.inr ⟨w.heap.size,G,a,rfl,au _,aS w _,aG _,d,p,by simp⟩⟩,(Ac.refl [] w).alloc _⟩
 have x:(0:Int)<(n:Int):=by omega
 have z:¬((n:Int)<0):=by omega
 clear l c b p d;go_enter func228,ntmps228;go_wp2_with (at_builtin;refine Lib.wpList_append_run _ rfl _ _ _ _ rfl _ _ rfl rfl _ _ (k _) ?_)
 go_ret;exact⟨_,G,rfl,(Aa o).1,(Aa o).2.drew⟩
set_option maxRecDepth 100000
theorem RL(O:Nat)(E:Option Addr)(z:Nat)(v:Option Addr)(C:Nat)(a b:List A3)(I W:Nat)(w:World)(r:Aw w O [.slice E a.length z, .slice v b.length C] 185)(P:w.ownsRow I 215 2 (.slice E a.length z) a.length (a.flatMap Am))(K:w.ownsRow W 215 2 (.slice v b.length C) b.length (b.flatMap Am))(R:0<a.length)(Bx:a.length+b.length<=2000000):
  Calls prog 213 #[.slice (some ⟨O,0,none⟩) 2 2] w λe J=>∃d h,e= .returned (.slice d (a++b).length h)/\J.ownsRow w.heap.size 215 2 (.slice d (a++b).length h) (a++b).length ((a++b).flatMap Am)/\Ac [] w J:=by
 obtain⟨U,AB,L,Q,V⟩:=bj Tryz.info215;have HV:=Ab r;have H1:=Ab P;have H2:=Ab K;have s:=r.cell 0;have q:=r.cell 1;simp at s q;have Z:=Ab (WA (a.length+b.length) w (by omega) Bx);have AT:Hid ((a++b).length=a.length+b.length):=by show _=_;simp
 generalize hAB:a++b=ab at AT⊢;have B9:=Ab hAB;have EX:=Ab R;clear r P K hAB R;have CC:¬((a.length:Int)<0):=by omega
 have FA:¬((a.length:Int)+(b.length:Int)<0):=by omega
 go_enter func213,ntmps213;go_wp2
 go_loopg [3,11] 2 (λgk o i wr=>∃k:Nat,i= .int .i64 k/\((k=0/\o= .int .i64 0)\/(k=1/\o= .int .i64 a.length)\/(k=2/\o= .int .i64 ((a.length:Int)+(b.length:Int))))/\gk=2-k/\w=wr)
 case atStart=>exact⟨0,rfl,Or.inl ⟨rfl,rfl⟩,rfl,rfl⟩
 case round=>
  obtain⟨k,rfl,l,B,rfl⟩:=hrel;rcases l with⟨rfl,rfl⟩|⟨rfl,rfl⟩|⟨rfl,rfl⟩
  ·go_wp2
   go_roundg 1
   case measure=>omega
   case rel=>exact⟨1,by go_num,Or.inr (Or.inl ⟨rfl,by go_num⟩),rfl,rfl⟩
  ·go_wp2
   go_roundg 0
   case measure=>omega
   case rel=>exact⟨2,by go_num,Or.inr (Or.inr ⟨rfl,by go_num⟩),rfl,rfl⟩
  ·(go_wp2_with fail);refine(Aa Z).mono ?_;rintro e w2 ⟨g,G,rfl,Y,X⟩;have M:=Ab Y;have S:=Ab X;clear Z Y X s q;go_wp2
   go_loopg [6,27] 2 (λgk o i wr=>∃(k:Nat) (c:List A3) (d:Option Addr) (h:Nat),o= .slice d c.length h/\i= .int .i64 k/\((k=0/\Hid (c=[]))\/(k=1/\Hid (c=a))\/(k=2/\Hid (c=ab)))/\gk=2-k/\c.length<=a.length+b.length/\(wr.ownsRow w.heap.size 215 2 (.slice d c.length h) c.length (c.flatMap Am))/\Hid (Ac [] w wr))
   case atStart=>exact⟨0,[],_,_,rfl,rfl,Or.inl ⟨rfl,rfl⟩,rfl,by simp,Aa M,S⟩
   case round=>
    clear M S;obtain⟨k,c,d,h,rfl,rfl,l,B,EK,p,j⟩:=hrel;have N:=Ab B;clear B;have CL:=(Aa j).size;rcases l with⟨rfl,m⟩|⟨rfl,m⟩|⟨rfl,m⟩
    ·have s:=((Aa HV).kept (Aa j) (by simp)).cell 0;simp at s;have H:=Ad (Aa H1) (Aa j) (by simp);(have T:c.length=0:=by rw[Aa m];rfl);(have y:Hid (∀f,wr.grownBy f (Value.slice d c.length h).ownBlock->Ac [] w f):=λf x=>(Aa j).grown x (λk l=>Or.inr ((p.lt k l).1)));(have F:Hid (c++a=a):=by show _=_;rw[Aa m];rfl);have n:=Ab T;clear T;go_wp2_with (at_builtin;refine GB _ rfl (.tmp 31) (.tmp 32) _ rfl w.heap.size 215 U _ 2 24 underlying185 AB L Q V rfl (by omega) d c.length h (c.flatMap Am) rfl p I E a.length z (a.flatMap Am) rfl H (I7 _) (by have:=Aa n;unfold maxLen;omega) (by have:=Aa n;omega) (by omega) ?_;intro A u f t D AH)
     go_roundg 1
     case measure=>have:=Aa N;omega
     case rel=>exact⟨1,c++a,A,u,by simp,by go_num,Or.inr (Or.inl ⟨rfl,F⟩),rfl,by simp;have:=Aa n;omega,by simpa using t,Aa y f D⟩
    ·have q:=((Aa HV).kept (Aa j) (by simp)).cell 1;simp at q;have H:=Ad (Aa H2) (Aa j) (by simp);(have n:Hid (c.length=a.length):=by show _=_;rw[Aa m]);(have y:Hid (∀f,wr.grownBy f (Value.slice d c.length h).ownBlock->Ac [] w f):=λf x=>(Aa j).grown x (λk l=>Or.inr ((p.lt k l).1)));(have F:Hid (c++b=ab):=by show _=_;rw[Aa m];exact Aa B9);go_wp2_with (at_builtin;refine GB _ rfl (.tmp 31) (.tmp 32) _ rfl w.heap.size 215 U _ 2 24 underlying185 AB L Q V rfl (by omega) d c.length h (c.flatMap Am) rfl p W v b.length C (b.flatMap Am) rfl H (I7 _) (by have:=Aa n;unfold maxLen;omega) (by have:=Aa n;omega) (by omega) ?_;intro A u f t D AH)
     go_roundg 0
     case measure=>have:=Aa N;omega
     case rel=>exact⟨2,c++b,A,u,by simp,by go_num,Or.inr (Or.inr ⟨rfl,F⟩),rfl,by simp;have:=Aa n;omega,by simpa using t,Aa y f D⟩
    ·go_wp2;go_ret;rw[<-Aa m];exact⟨d,h,rfl,p,Aa j⟩
theorem S4(B:Option Addr)(L:Nat)(a:List MH)(w:World)(h:Cd w 0 (.slice B a.length L) a)(HD:a.length<=1000)(f:∀p∈a,0<(AS p.1).length/\(AS p.1).length<=1000):
  Calls prog 139 #[.slice B a.length L] w λe y=>∃c d,e= .returned (.slice c (Bg a).length d)/\y.ownsRow w.heap.size 215 2 (.slice c (Bg a).length d) (Bg a).length ((Bg a).flatMap Am)/\Ac [] w y:=by
 obtain⟨i0,FP,Q,Y,AT⟩:=bj Tryz.info215;have W:=Ab h;have FO:=Ab f;clear h f;go_enter func139,ntmps139;go_wp2
 go_loopg [3,8] a.length (λgk o i wr=>∃(k:Nat) (b:List A3) (c:Option Addr) (d:Nat),o= .slice c b.length d/\i= .int .i64 k/\k<=a.length/\b.length<=k*1000/\gk=a.length-k/\Hid (b=Bg (a.take k))/\wr.ownsRow w.heap.size 215 2 (.slice c b.length d) b.length (b.flatMap Am)/\Hid (Ac [] w wr))
 case atStart=>exact⟨0,[],none,0,rfl,rfl,by omega,by simp,rfl,by show _=_;simp[Bg],ax _ _ _ _,Ac.refl _ _⟩
 case round=>
  obtain⟨k,b,c,d,rfl,rfl,E,HH,F,u,s,j⟩:=hrel;have U:=Ab F;clear F;by_cases t:k<a.length
  ·have M:=(Aa W).kept (Aa j) (by simp);have HJ:=(Aa j).size;obtain⟨g,HC,l,q,r,C,J,I,d0,X,O,P,d4,d5,d6,Z,d8⟩:=G7 M k t;simp only[Z6]at C;obtain⟨rfl,_,rfl⟩:=C;have x:=Ab (MP t);have f:=Aa FO a[k] (Z7 t);rw[J]at x f;simp only at f;have v:=Ab (Ka l q r (wr.alloc (.cells (Ap (l, .slice q l.ts.length r)).toArray 217)) (Ad I ((Ac.refl [] wr).alloc _) (by simp)));clear M I J;simp only[Ap]at v;have z:=Ab ((Aa j).alloc (.cells (Ap (l, .slice q l.ts.length r)).toArray 217));have D:=Ab (ah s (.cells (Ap (l, .slice q l.ts.length r)).toArray 217));(go_wp2_with fail);refine(Aa v).mono ?_;rintro e A ⟨FW,EY,rfl,N,n⟩;have CC:=Ab ((Aa z).trans n);have K:=Ad (Aa D) n (by simp);have G:=n.size;(have Go:wr.heap.size+1<=A.heap.size:=by simpa using G);obtain⟨S,rfl,EK,H,_,_⟩:=U1 N f.1;have BA:=Ab H;(have FC:Hid (b++AS l=Bg (a.take (k+1))):=by show _=_;rw[Aa x,Aa u]);(have T:Hid (∀m,A.grownBy m (Value.slice c b.length d).ownBlock->Ac [] w m):=λm R=>(Aa CC).grown R (λk E=>Or.inr ((K.lt k E).1)));clear n z D v d0 X O P d4 d5 d6 Z d8 s j G N H x u;(have FF:(b++AS l).length<=(k+1)*1000:=by simp;omega);(have Ha:k<=1000:=by omega);go_wp2_with (at_builtin;refine ay _ rfl (.tmp 12) (.tmp 14) _ rfl w.heap.size 215 i0 _ 2 24 underlying185 FP Q Y AT rfl (by omega) (.slice c b.length d) b.length (b.flatMap Am) rfl K ⟨S,0,none⟩ (AS l).length EY ((AS l).flatMap Am) rfl EK (Aa BA) (I7 _) (by omega) (by unfold maxLen;omega) (by omega) (by omega) _ rfl ?_;intro g1 V m BT AB FT HI)
   go_roundg (a.length-(k+1))
   case measure=>have:=Aa U;omega
   case rel=>exact⟨k+1,b++AS l,some ⟨g1,0,none⟩,V,by simp,by go_num,by omega,FF,rfl,FC,by simpa using BT,Aa T m AB⟩
  ·have HE:Hid (b=Bg a):=by
    have h:=Aa u;rw[Z9 (by omega)]at h;exact h
   go_wp2;go_ret;rw[<-HE.out];exact⟨c,d,rfl,s,Aa j⟩
theorem OS{a:List MH}(h:∀p∈a,(AS p.1).length<=1000):(Bg a).length<=a.length*1000:=by
 unfold Bg
 induction a with
 |nil=>simp
 |cons p l ih=>
  have c:=h p (by simp);have d:=ih (λq b=>h q (by simp[b]));simp only[aB,am,ak];omega
theorem NG(c:Da)(w:World)(h:Im w 0 c.hv c.bv c.hts c.lvs)(G:MV c):
  Calls prog 184 #[.agg (A8 c).toArray] w λe k=>∃f j,e= .returned (.slice f (Bj c).length j)/\k.ownsRow w.heap.size 215 2 (.slice f (Bj c).length j) (Bj c).length ((Bj c).flatMap Am)/\Ac [] w k:=by
 have z:Hid (∀p∈c.lvs,0<(AS p.1).length/\(AS p.1).length<=1000):=λp g=>G.terms g
 obtain⟨g,q,b,hv,bv,a⟩:=c;obtain⟨⟨I,W⟩,C,S⟩:=G;simp only at h I W C z;clear S;obtain⟨i,d,rfl⟩:=Ak h.head;obtain⟨l,o,rfl⟩:=Ak h.body.row;have K:=OS (λp g=>(Aa z p g).2);have AB:(Bg a).length<=1000000:=by omega
 have B:Hid (∀wr,Ac [] w wr->Calls prog 139 #[.slice l a.length o] wr λe k=>∃f j,e= .returned (.slice f (Bg a).length j)/\k.ownsRow wr.heap.size 215 2 (.slice f (Bg a).length j) (Bg a).length ((Bg a).flatMap Am)/\Ac [] wr k):=λwr r=>S4 l o a wr (h.body.kept r (by simp)) C (Aa z)
 have X:=Ab h.head;have u:Hid (Bj ⟨g,q,b, .slice i b.length d, .slice l a.length o,a⟩=b++Bg a):=rfl;generalize Bj ⟨g,q,b, .slice i b.length d, .slice l a.length o,a⟩=TV at u⊢;generalize Bg a=BT at B AB u;have F:Hid (∀(wr:World) (m:Option Addr) (n A:Nat),Ac [] w wr->wr.ownsRow A 215 2 (.slice m BT.length n) BT.length (BT.flatMap Am)->Calls prog 213 #[.slice (some ⟨wr.heap.size,0,none⟩) 2 2] (wr.alloc (.cells #[.slice i b.length d, .slice m BT.length n] 185)) λe k=>∃f j,e= .returned (.slice f TV.length j)/\k.ownsRow w.heap.size 215 2 (.slice f TV.length j) TV.length (TV.flatMap Am)/\Ac [] w k):=by
  intro wr m n A r U;have t:=(Ac.refl [] wr).alloc (.cells #[.slice i b.length d, .slice m BT.length n] 185);refine(RL wr.heap.size i d m n b BT 0 A _ (Aw.new wr [.slice i b.length d, .slice m BT.length n] 185) (Ad (Aa X) (r.trans t) (by simp)) (Ad U t (by simp)) I (by omega)).mono ?_;rintro e k ⟨f,j,rfl,R,V⟩;rw[Aa u];exact⟨f,j,rfl,Ai R (by have:=(r.trans t).size;exact this),(r.trans t).trans V⟩
 clear h K;simp only[A8];have s:=Ab (Aw.new w [.int .i64 g, .string q, .slice i b.length d, .slice l a.length o] 189);have y:=Ab ((Ac.refl [] w).alloc (.cells [.int .i64 g, .string q, .slice i b.length d, .slice l a.length o].toArray 189));go_enter func184,ntmps184;go_wp2_with fail
 change Code.wp _ _ _ _ (w.alloc (.cells [.int .i64 g, .string q, .slice i b.length d, .slice l a.length o].toArray 189));generalize w.alloc (.cells [.int .i64 g, .string q, .slice i b.length d, .slice l a.length o].toArray 189)=w1 at s y⊢;obtain⟨N,v⟩:∃N,w.heap.size=N:=⟨_,rfl⟩;rw[v]at s F⊢;have Q:=(Aa s).cell 2;have T:=(Aa s).cell 3;simp at Q T;have Z:=Ab v;clear v
 go_region_law
  (first
   |(go_simp;go_at_call 139;refine(Aa B _ (Aa y).drew).mono ?_;rintro e wt ⟨m,n,rfl,J,x⟩;have O:=((Aa s).drew.kept x (by simp)).cell 2;simp at O;have Y:=Ab ((Aa y).drew.trans x);have M:=Ab J;clear J x)
   |(go_simp;go_at_call 213;refine(Aa F wt m n _ (Aa Y) (Aa M)).mono ?_;rintro e w9 ⟨P,L,rfl,H,E⟩;have D:=Ab (And.intro H E);clear H E))
 all_goals
  go_wp2;go_ret;rw[Aa Z];exact⟨P,L,rfl,(Aa D).1,(Aa D).2⟩
def Ff(lvs:List MH):List cL:=(lvs.filter λp=>A5 p.1).map λp=>p.1.an
def BL(c:Da):List cL:=c.hn::Ff c.lvs
theorem WC(c:Da):(Bh c).map F6.name=BL c:=by
 simp[Bh,BL,A7,Ff]
theorem GD{c:Da}{w:World}(h:Im w 0 c.hv c.bv c.hts c.lvs):∀a∈Bh c,∃f n d,a.tv= .slice f n d:=by
 intro a b;rcases aj.1 b with rfl|b
 ·obtain⟨f,d,e⟩:=Ak h.head;exact⟨_,_,_,e⟩
 ·unfold A7 at b;obtain⟨p,g,rfl⟩:=az.1 b;obtain⟨f,d,e⟩:=Ak (h.body.each p (aJ.1 g).1).1;exact⟨_,_,_,e⟩
theorem Ib{w:World}{base:Nat}{v:Value}{l:List F6}(h:w.ownsRow base 187 3 v l.length (l.flatMap AL))(k:Nat)(a:k<l.length):
  ∃g b,v= .slice (some ⟨g,0,none⟩) l.length b/\w.cell? ⟨g,k*3,none⟩=some (.int .i64 l[k].place)/\w.cell? ⟨g,k*3+1,none⟩=some (.string l[k].name)/\w.cell? ⟨g,k*3+2,none⟩=some l[k].tv:=by
 obtain⟨g,b,j,_,d⟩:=AE h (λc _=>P7 c) k a;have e:=d k a 0 (by omega);have i:=d k a 1 (by omega);have f:=d k a 2 (by omega);simp[AL]at e i f;exact⟨g,b,j,e,i,f⟩
structure Lk(base:Nat)(lv:Value)(l:List cL)(xs:List cL)(w:World)(l':List cL)(ad':Option Addr)(cp':Nat)(w':World):Prop where
 rise:Ct Dg l'
 mem:∀y,y∈l'↔y∈xs\/y∈l
 ge:l.length<=l'.length
 le:l'.length<=l.length+xs.length
 own:w'.ownsRow base 9 1 (.slice ad' l'.length cp') l'.length (l'.flatMap Ae)
 kept:Ac lv.ownBlock.toList w w'
 new:∀k,(Value.slice ad' l'.length cp').ownBlock=some k->lv.ownBlock=some k\/w.heap.size<=k
theorem Kl(c:Da)(a:Option Addr)(cap:Nat)(l:List cL)(base:Nat)(w:World)(h:Im w 0 c.hv c.bv c.hts c.lvs)(EX:c.lvs.length<=1000)
  (V:w.ownsRow base 9 1 (.slice a l.length cap) l.length (l.flatMap Ae)) (HQ:l.length<=900000) (hr:Ct Dg l) (HJ:base<=w.heap.size):
  Calls prog 164 #[.slice a l.length cap, .agg (A8 c).toArray] w λe w'=>∃N BA U,e= .returned (.slice BA N.length U)/\Lk base (.slice a l.length cap) l (BL c) w N BA U w':=by
 have s:=Ab (Jl c (w.alloc (.cells (A8 c).toArray 189)) (h.kept ((Ac.refl [] w).alloc _) (by simp)) EX);have Q:=Ab (GD h);have C:=Ab (WC c);have CL:Hid ((Bh c).length<=1001):=by
  show _<=_;have:=D5 c.lvs;simp[Bh];omega
 obtain⟨hp,hn,u,hv,bv,r⟩:=c;simp only at h;obtain⟨BT,L,rfl⟩:=Ak h.head;obtain⟨S,R,rfl⟩:=Ak h.body.row;generalize Bh ⟨hp,hn,u, .slice BT u.length L, .slice S r.length R,r⟩=aT at s Q C CL;generalize BL ⟨hp,hn,u, .slice BT u.length L, .slice S r.length R,r⟩=ns at C⊢;have W:=Ab V;have HA:=Ab hr;clear h V hr;simp only[A8]at s⊢;go_enter func164,ntmps164;go_wp2_with fail
 refine(Aa s).mono ?_;rintro e p ⟨Go,M,rfl,Ax,v⟩;have G:Hid (Ac [] w p):=((Ac.refl [] w).alloc _).trans v;have HH:w.heap.size+1<=p.heap.size:=by have:=v.size;simpa using this
 have P:=Ab (Ai Ax (show w.heap.size<=_ by simp));clear s Ax v;go_wp2
 go_loopg [0,10] aT.length (λgk o i wr=>∃(k:Nat) (m:List cL) (b:Option Addr) (d:Nat),o= .slice b m.length d/\i= .int .i64 k/\k<=aT.length/\gk=aT.length-k/\m.length<=l.length+k/\Hid (Lk base (.slice a l.length cap) l ((aT.take k).map F6.name) w m b d wr)/\Hid (wr.ownsRow w.heap.size 187 3 (.slice Go aT.length M) aT.length (aT.flatMap AL))/\Hid (∀q,(Value.slice b m.length d).ownBlock=some q->(Value.slice a l.length cap).ownBlock=some q\/p.heap.size<=q)/\p.heap.size<=wr.heap.size)
 case atStart=>exact⟨0,l,a,cap,rfl,rfl,by omega,rfl,by omega,⟨Aa HA,λy=>by simp,by omega,by omega,Ad (Aa W) (Aa G) (by simp),(Aa G).mono (by simp),λk O=>Or.inl O⟩,P,λq j=>Or.inl j,by omega⟩
 case round=>
  clear G;obtain⟨k,m,b,d,rfl,rfl,O,AT,HK,n,F,H,HD⟩:=hrel;have HG:=Ab AT;clear AT;have HI:=Aa CL;by_cases x:k<aT.length
  ·obtain⟨g,HF,X,d0,d1,K⟩:=Ib (Aa F) k x;simp only[Z6]at X;obtain⟨rfl,_,rfl⟩:=X;obtain⟨HC,nt,FL,AB⟩:=Aa Q aT[k] (Z7 x);rw[AB]at K;clear AB;have Y:=Ab (XL b d m aT[k].name base (wr.alloc (.cells [.int .i64 aT[k].place, .string aT[k].name, .slice HC nt FL].toArray 187)) (ah (Aa n).own _) (by omega) (Aa n).rise (by simp;omega));(go_wp2_with fail);refine(Aa Y).mono ?_;rintro e t ⟨J,D,B,rfl,q1,Z,q3,q4,T,A,z⟩;have I:Ac (Value.slice b m.length d).ownBlock.toList wr t:=((Ac.refl _ wr).alloc _).trans A;(have HN:wr.heap.size+1<=t.heap.size:=by have:=A.size;simpa using this);have FA:Hid (Lk base (.slice a l.length cap) l ((aT.take (k+1)).map F6.name) w J D B t):=by
    have f:=Aa n;refine⟨q1,λy=>?_,by have:=f.ge;omega,?_,T,f.kept.trans' I (λi E=>?_),λq j=>?_⟩
    ·rw[Z,f.mem,ac x];simp only[bm,aI,ec,aw,ae];constructor
     ·rintro (h|h|h)
      ·exact Or.inl (Or.inr h)
      ·exact Or.inl (Or.inl h)
      ·exact Or.inr h
     ·rintro ((h|h)|h)
      ·exact Or.inr (Or.inl h)
      ·exact Or.inl h
      ·exact Or.inr (Or.inr h)
    ·have:=f.le;simp only[aD,aK]at this⊢;omega
    ·rcases f.new i (by simpa using E)with h|h
     ·exact Or.inl (by simp[h])
     ·exact Or.inr h
    ·rcases z q j with h|h
     ·exact f.new q h
     ·exact Or.inr (by have:=f.kept.size;simp at h;omega)
   have FT:Hid (t.ownsRow w.heap.size 187 3 (.slice (some ⟨g,0,none⟩) aT.length M) aT.length (aT.flatMap AL)):=by
    refine Ar (Aa F) I (λi E hm=>?_);have h1:=((Aa P).lt i E);rcases Aa H i (by simpa using hm)with h|h
    ·have:=((Aa W).lt i h).2;omega
    ·omega
   have FF:Hid (∀q,(Value.slice D J.length B).ownBlock=some q->(Value.slice a l.length cap).ownBlock=some q\/p.heap.size<=q):=by
    intro q j;rcases z q j with h|h
    ·exact Aa H q h
    ·exact Or.inr (by simp at h;omega)
   clear Y q1 Z q3 T A z I n F H d0 d1 K;go_wp2
   go_roundg (aT.length-(k+1))
   case measure=>have:=Aa HG;omega
   case rel=>exact⟨k+1,J,D,B,rfl,by go_num,by omega,rfl,by omega,FA,FT,FF,by omega⟩
  ·have HE:Hid (Lk base (.slice a l.length cap) l ns w m b d wr):=by
    have h:=Aa n;rw[Z9 (by omega),Aa C]at h;exact h
   go_wp2;go_ret;exact⟨m,b,d,rfl,Aa HE⟩
theorem En{w:World}{base:Nat}{v:Value}{l:List A3}(h:w.ownsRow base 215 2 v l.length (l.flatMap Am))(k:Nat)(a:k<l.length):
  ∃g b,v= .slice (some ⟨g,0,none⟩) l.length b/\w.cell? ⟨g,k*2,none⟩=some (.int .i32 l[k].v)/\w.cell? ⟨g,k*2+1,none⟩=some (.string l[k].s):=by
 obtain⟨g,b,i,_,f⟩:=AE h (λc _=>Qp c) k a;have d:=f k a 0 (by omega);have e:=f k a 1 (by omega);simp[Am]at d e;exact⟨g,b,i,d,e⟩
structure FS(ts:List A3)(l:List Int):Prop where
 rise:Ct LZ l
 mem:∀y,y∈l↔y≠0/\∃t∈ts,t.v=y
 le:l.length<=ts.length
theorem FS.nil:FS [] []:=⟨λi j a=>by simp at a,λy=>by simp,by simp⟩
theorem Js(D:Option Addr)(J:Nat)(ts:List A3)(base:Nat)(w:World)(h:w.ownsRow base 215 2 (.slice D ts.length J) ts.length (ts.flatMap Am))(BA:ts.length<=900000):
  Calls prog 174 #[.slice D ts.length J] w λe x=>∃l E F,e= .returned (.slice E l.length F)/\FS ts l/\x.ownsRow w.heap.size 21 1 (.slice E l.length F) l.length (l.flatMap AD)/\Ac [] w x:=by
 have HT:=Ab h;clear h;go_enter func174,ntmps174;go_wp2
 go_loopg [3,8] ts.length (λgk o i wr=>∃(k:Nat) (l:List Int) (d:Option Addr) (j:Nat),o= .slice d l.length j/\i= .int .i64 k/\k<=ts.length/\gk=ts.length-k/\Hid (FS (ts.take k) l)/\wr.ownsRow w.heap.size 21 1 (.slice d l.length j) l.length (l.flatMap AD)/\Hid (Ac [] w wr))
 case atStart=>exact⟨0,[],none,0,rfl,rfl,by omega,rfl,by show FS _ _;simpa using FS.nil,ax _ _ _ _,Ac.refl _ _⟩
 case round=>
  obtain⟨k,l,d,j,rfl,rfl,hk,C,m,q,n⟩:=hrel;have z:=Ab C;clear C;have N:=(Aa m).le;simp only[aK]at N;have CC:=(Aa n).size;by_cases r:k<ts.length
  ·obtain⟨g,B9,I,d0,d1⟩:=En (Ad (Aa HT) (Aa n) (by simp)) k r;simp only[Z6]at I;obtain⟨rfl,_,rfl⟩:=I;have u:=Ab ((Aa n).alloc (.cells [.int .i32 ts[k].v, .string ts[k].s].toArray 215));have p:=ah q (.cells [.int .i32 ts[k].v, .string ts[k].s].toArray 215);cases hv:(ts[k].v==0)with
   |true=>
    (have Q:(ts[k].v !=0)=false:=by simp[bne,hv]);have U:Hid (FS (ts.take (k+1)) l):=by
     have f:=Aa m;refine⟨f.rise,λy=>?_,by have:=f.le;simp only[aK]at this⊢;omega⟩;rw[f.mem,ac r];(have W:ts[k].v=0:=by simpa using hv);constructor
     ·rintro ⟨b,t,a,c⟩;exact⟨b,t,dC _ a,c⟩
     ·rintro ⟨b,t,a,c⟩;rcases aw.1 a with a|a
      ·exact⟨b,t,a,c⟩
      ·simp only[ae]at a;subst a;exact absurd (c.symm.trans W) b
    clear hv;go_wp2
    go_roundg (ts.length-(k+1))
    case measure=>have:=Aa z;omega
    case rel=>exact⟨k+1,l,d,j,rfl,by go_num,by omega,rfl,U,p,u⟩
   |false=>
    (have Q:(ts[k].v !=0)=true:=by simp[bne,hv]);(have K:ts[k].v≠0:=by simpa using hv);have H:=Ab (Xg d j l ts[k].v w.heap.size (wr.alloc (.cells [.int .i32 ts[k].v, .string ts[k].s].toArray 215)) p (by omega) (Aa m).rise (by simp;omega));have Ax:=Ab K;clear hv K;(go_wp2_with fail);refine(Aa H).mono ?_;rintro e M ⟨G,P,S,rfl,B,L,T,X,V,A,O⟩;have R:Hid (Ac [] w M):=(Aa u).trans' A (λi Z=>Or.inr ((p.lt i (by simpa using Z)).1));have Y:Hid (FS (ts.take (k+1)) G):=by
     have f:=Aa m;refine⟨B,λy=>?_,by have:=f.le;simp only[aK]at this⊢;omega⟩;rw[L,f.mem,ac r];constructor
     ·rintro (b|⟨b,t,a,c⟩)
      ·exact⟨by rw[b];exact Aa Ax,ts[k],List.mem_append_right _ (ae.2 rfl),b.symm⟩
      ·exact⟨b,t,dC _ a,c⟩
     ·rintro ⟨b,t,a,c⟩;rcases aw.1 a with a|a
      ·exact Or.inr ⟨b,t,a,c⟩
      ·simp only[ae]at a;subst a;exact Or.inl c.symm
    clear H B L T X A O q p u n m;go_wp2
    go_roundg (ts.length-(k+1))
    case measure=>have:=Aa z;omega
    case rel=>exact⟨k+1,G,P,S,rfl,by go_num,by omega,rfl,Y,V,R⟩
  ·have HE:Hid (FS ts l):=by
    have h:=Aa m;rw[Z9 (by omega)]at h;exact h
   go_wp2;go_ret;exact⟨l,d,j,rfl,Aa HE,q,Aa n⟩
theorem RW(G:Option Addr)(M:Nat)(l:List Int)(u:Option Addr)(v:Nat)(o:List Int)(base C:Nat)(w:World)(h:w.ownsRow base 21 1 (.slice G l.length M) l.length (l.flatMap AD))(z:w.ownsRow C 21 1 (.slice u o.length v) o.length (o.flatMap AD))(hl:l.length<=900000)(ho:o.length<=900000)(J:Ct LZ o):
  Calls prog 173 #[.slice G l.length M, .slice u o.length v] w λe x=>∃H I,e= .returned (.slice H (l.filter λy=> !IJ o y).length I)/\x.ownsRow w.heap.size 21 1 (.slice H (l.filter λy=> !IJ o y).length I) (l.filter λy=> !IJ o y).length ((l.filter λy=> !IJ o y).flatMap AD)/\Ac [] w x:=by
 obtain⟨V,BA,N,R,W⟩:=bj Tryz.info21;have HT:=Ab h;have AT:=Ab z;have AH:=Ab J;obtain⟨F,hF⟩:∃F,(l.filter λy=> !IJ o y)=F:=⟨_,rfl⟩;rw[hF];have P:=Ab hF;clear h z hF J;go_enter func173,ntmps173;go_wp2
 go_loopg [5,10] l.length (λgk o' i wr=>∃(k:Nat) (m:List Int) (a:Option Addr) (b:Nat),o'= .slice a m.length b/\i= .int .i64 k/\k<=l.length/\m.length<=k/\gk=l.length-k/\Hid (m=(l.take k).filter λy=> !IJ o y)/\wr.ownsRow w.heap.size 21 1 (.slice a m.length b) m.length (m.flatMap AD)/\Hid (Ac [] w wr))
 case atStart=>exact⟨0,[],none,0,rfl,rfl,by omega,by simp,rfl,by show _=_;simp,ax _ _ _ _,Ac.refl _ _⟩
 case round=>
  obtain⟨k,m,a,b,rfl,rfl,A,EX,D,q,n,d⟩:=hrel;have B:=Ab D;clear D;have FA:=(Aa d).size;by_cases r:k<l.length
  ·obtain⟨g,EK,L,_,E⟩:=AE (Ad (Aa HT) (Aa d) (by simp)) (by simp[AD]) k r;simp only[Z6]at L;obtain⟨rfl,_,rfl⟩:=L;have X:=E k r 0 (by omega);simp[AD]at X;clear E;have K:=Ab (Wp u v o l[k] C wr (Ad (Aa AT) (Aa d) (by simp)) (by omega) (Aa AH));have p:Hid ((l.take (k+1)).filter (λy=> !IJ o y)=m++if IJ o l[k] then[] else[l[k]]):=by
    show _=_;rw[ac r,cE,<-Aa q];by_cases c:IJ o l[k]=true<;>simp[c]
   (go_wp2_with fail);refine(Aa K).mono ?_;rintro e j ⟨rfl,rfl⟩;clear K;cases c:IJ o l[k] with
   |true=>
    (have s:Hid (m=(l.take (k+1)).filter λy=> !IJ o y):=by show _=_;rw[Aa p,c];simp);clear c p q;go_wp2
    go_roundg (l.length-(k+1))
    case measure=>have:=Aa B;omega
    case rel=>exact⟨k+1,m,a,b,rfl,by go_num,by omega,by omega,rfl,s,n,d⟩
   |false=>
    (have s:Hid (m++[l[k]]=(l.take (k+1)).filter λy=> !IJ o y):=by show _=_;rw[Aa p,c];simp);clear c p q;have U:=aS j (.cells [Value.int .i32 l[k]].toArray 21);have AB:=ah n (.cells [Value.int .i32 l[k]].toArray 21);(have S:Hid (∀f,(j.alloc (.cells [Value.int .i32 l[k]].toArray 21)).grownBy f (Value.slice a m.length b).ownBlock->Ac [] w f):=λf O=>((Aa d).alloc _).grown O (λk A=>Or.inr ((n.lt k A).1)));go_wp2_with (at_builtin;refine ay _ rfl (.tmp 18) (.tmp 20) _ rfl w.heap.size 21 V _ 1 4 underlying234 BA N R W rfl (by omega) (.slice a m.length b) m.length (m.flatMap AD) rfl AB ⟨j.heap.size,0,none⟩ 1 1 [.int .i32 l[k]] rfl rfl (aF (cs:=[Value.int .i32 l[k]].toArray) (t:=21) (fr:=(0,0)) U) (by simp[Value.oneCell']) (by omega) (by unfold maxLen;omega) (by omega) (by simp;omega) (j.heap.size+1) (by simp) ?_;intro Y Q f Z T B9 EY)
    go_roundg (l.length-(k+1))
    case measure=>have:=Aa B;omega
    case rel=>exact⟨k+1,m++[l[k]],some ⟨Y,0,none⟩,Q,by simp,by go_num,by omega,by simp;omega,rfl,s,by simpa[AD] using Z,Aa S f T⟩
  ·have HE:Hid (m=F):=by
    have h:=Aa q;rw[Z9 (by omega),Aa P]at h;exact h
   go_wp2;go_ret;rw[<-HE.out];exact⟨a,b,rfl,n,Aa d⟩
def lenOf:Value->Nat
 | .slice _ n _=>n
 |_=>0
def IE(c:Da):Bool:=(Bh c).any (λa=>decide (2<lenOf a.tv))||decide (3<c.lvs.length)
theorem MO(c:Da)(w:World)(h:Im w 0 c.hv c.bv c.hts c.lvs)(J:c.lvs.length<=1000):
  Calls prog 118 #[.agg (A8 c).toArray] w λe V=>e= .returned (.bool (IE c))/\Ac [] w V:=by
 have q:=Ab (Jl c (w.alloc (.cells (A8 c).toArray 189)) (h.kept ((Ac.refl [] w).alloc _) (by simp)) J);have P:=Ab (GD h);have X:(Bh c).length<=1001:=by
  have:=D5 c.lvs;simp[Bh];omega
 have p:Hid (IE c=((Bh c).any (λa=>decide (2<lenOf a.tv))||decide (3<c.lvs.length))):=rfl;obtain⟨u,f,j,hv,bv,b⟩:=c;simp only at h J;obtain⟨y,s,rfl⟩:=Ak h.head;obtain⟨r,C,rfl⟩:=Ak h.body.row;generalize IE ⟨u,f,j, .slice y j.length s, .slice r b.length C,b⟩=G at p⊢;generalize Bh ⟨u,f,j, .slice y j.length s, .slice r b.length C,b⟩=aT at q P X p;clear h;have D:=Ab (Aw.new w (A8 ⟨u,f,j, .slice y j.length s, .slice r b.length C,b⟩) 189);simp only[A8]at q D⊢;go_enter func118,ntmps118;go_wp2_with fail
 refine(Aa q).mono ?_;rintro e T ⟨AB,Bx,rfl,F,B⟩;have I:Hid (Ac [] w T):=((Ac.refl [] w).alloc _).trans B;have R:=Ab ((Aa D).kept B (by simp));have Z:=Ab F;clear q F B D;go_wp2;generalize w.heap.size=N at R⊢
 go_loopg [8] aT.length (λgk i wr=>∃(k:Nat),i= .int .i64 k/\k<=aT.length/\gk=aT.length-k/\Hid ((aT.take k).any (λa=>decide (2<lenOf a.tv))=false)/\Hid (Ac [] w wr)/\Hid (Ac [] T wr))
 case atStart=>exact⟨0,rfl,by omega,rfl,by show _=_;simp,I,Ac.refl _ _⟩
 case round=>
  clear I;obtain⟨k,rfl,hk,H,K,A,t⟩:=hrel;have Y:=Ab H;clear H;by_cases n:k<aT.length
  ·obtain⟨g,BT,Q,d0,d1,U⟩:=Ib (Ad (Aa Z) (Aa t) (by simp)) k n;simp only[Z6]at Q;obtain⟨rfl,_,rfl⟩:=Q;obtain⟨L,d,M,o⟩:=Aa P aT[k] (Z7 n);rw[o]at U;have x:Hid (2<d->G=true):=by
    intro f;rw[Aa p,Ip _ _ k n (by simp[o,lenOf,f])];rfl
   have z:Hid (¬2<d->(aT.take (k+1)).any (λa=>decide (2<lenOf a.tv))=false):=by
    intro f;rw[CB _ _ k n (Aa K)];simp[o,lenOf,f]
   clear o;have O:=Ab ((Aa A).alloc (.cells [.int .i64 aT[k].place, .string aT[k].name, .slice L d M].toArray 187));have W:=Ab ((Aa t).alloc (.cells [.int .i64 aT[k].place, .string aT[k].name, .slice L d M].toArray 187));by_cases m:2<d
   ·have E:=Ab (Aa x m);(have l:(2:Int)<(d:Int):=by omega);clear x z;go_wp2;go_ret;rw[Aa E];exact⟨rfl,Aa O⟩
   ·have E:=Ab (Aa z m);(have l:¬(2:Int)<(d:Int):=by omega);clear x z;go_wp2
    go_roundg (aT.length-(k+1))
    case measure=>have:=Aa Y;omega
    case rel=>exact⟨k+1,by go_num,by omega,rfl,E,O,W⟩
  ·have S:Hid (G=decide (3<b.length)):=by
    have h:=Aa K;rw[Z9 (by omega)]at h;show _=_;rw[Aa p,h];rfl
   have c3:=((Aa R).kept (Aa t) (by simp)).cell 3;simp at c3;by_cases m:3<b.length
   ·(have l:(3:Int)<(b.length:Int):=by omega);(have v:Hid (G=true):=by show _=_;rw[Aa S];simp[m]);go_wp2;go_ret;rw[v.out];exact⟨by simp[l],Aa A⟩
   ·(have l:¬(3:Int)<(b.length:Int):=by omega);(have v:Hid (G=false):=by show _=_;rw[Aa S];simp[m]);go_wp2;go_ret;rw[v.out];exact⟨by simp[l],Aa A⟩
def BR(o:Option Int):Value:=match o with|some p=> .tuple #[.int .i64 p, .bool true]|none=> .tuple #[.int .i64 0, .bool false]
theorem Qf(c:Da):(A8 c).length=4:=rfl
structure Dv(w:World)(lv:Value)(cs:List Da):Prop where
 row:w.ownsRow 0 189 4 lv cs.length (cs.flatMap A8)
 each:∀c∈cs,Im w 0 c.hv c.bv c.hts c.lvs
theorem Dv.kept{w w':World}{a:Value}{cs:List Da}(h:Dv w a cs)(k:Ac [] w w'):Dv w' a cs:=⟨Ad h.row k (by simp),λc b=>(h.each c b).kept k (by simp)⟩
theorem FI{w:World}{u:Value}{cs:List Da}(h:Dv w u cs)(k:Nat)(a:k<cs.length):
  ∃g s j n b m f e o d,u= .slice (some ⟨g,0,none⟩) cs.length s/\cs[k]=⟨j,n,b, .slice m b.length f, .slice e d.length o,d⟩/\
   w.cell? ⟨g,k*4,none⟩=some (.int .i64 j)/\w.cell? ⟨g,k*4+1,none⟩=some (.string n)/\w.cell? ⟨g,k*4+2,none⟩=some (.slice m b.length f)/\w.cell? ⟨g,k*4+3,none⟩=some (.slice e d.length o):=by
 obtain⟨g,s,x,_,i⟩:=AE h.row (λc _=>Qf c) k a;have l:=h.each _ (Z7 a);have t:=i k a 0 (by omega);have r:=i k a 1 (by omega);have p:=i k a 2 (by omega);have q:=i k a 3 (by omega);obtain⟨⟨j,n,b,y,z,d⟩,v⟩:∃c,cs[k]=c:=⟨_,rfl⟩;rw[v]at t r p q l;simp only at l;obtain⟨m,f,rfl⟩:=Ak l.head;obtain⟨e,o,rfl⟩:=Ak l.body.row;simp[A8]at t r p q;exact⟨g,s,j,n,b,m,f,e,o,d,x,v,t,r,p,q⟩
def QM(x:cL)(a:F6):Bool:=a.name.toList==x.toList
def ZJ(cs:List Da)(x:cL):Option Nat:=((cs.flatMap Bh).find? (QM x)).map λa=>lenOf a.tv
def PA(cs:List Da)(a:F6):Bool:=decide (2<lenOf a.tv)||(match ZJ cs a.name with|some n=> !(n==lenOf a.tv)|none=>false)
def ZQ(cs:List Da)(l:List F6):Option Int:=(l.find? (PA cs)).map λa=>a.place
theorem Jc{α:Type}{p:α->Bool}{l:List α}(h:l.any p=false):l.find? p=none:=by
 rw[cg];intro y a b;rw[bW]at h;exact h y a b
theorem Xk{cs:List Da}{k:Nat}(a:k<cs.length):cs.flatMap Bh=(cs.take k).flatMap Bh++(Bh cs[k]++(cs.drop (k+1)).flatMap Bh):=by
 rw[show cs.flatMap Bh=(cs.take k++cs[k]::cs.drop (k+1)).flatMap Bh from by rw[List.getElem_cons_drop,bF]]
 rw[aN,aB]
theorem Zc{cs:List Da}{x:cL}{k:Nat}(a:k<cs.length){l:List F6}(c:Bh cs[k]=l)(e:((cs.take k).flatMap Bh).any (QM x)=false){j:Nat}(b:j<l.length)(d:(l.take j).any (QM x)=false)(f:QM x l[j]=true):
  ZJ cs x=some (lenOf l[j].tv):=by
 unfold ZJ;rw[Xk a,dU,Jc e,c,dU,Fh _ _ j b d f];rfl
theorem Xq{cs:List Da}{x:cL}{k:Nat}(c:k<cs.length){l:List F6}(b:Bh cs[k]=l)(d:((cs.take k).flatMap Bh).any (QM x)=false)(a:l.any (QM x)=false):((cs.take (k+1)).flatMap Bh).any (QM x)=false:=by
 rw[ac c,aN,ex,d];simp[b,a]
theorem RD(x:cL)(BA:Option Addr)(AH:Nat)(cs:List Da)(w:World)(h:Dv w (.slice BA cs.length AH) cs)(X:∀c∈cs,c.lvs.length<=1000)(HB:cs.length<=1000):
  Calls prog 100 #[.string x, .slice BA cs.length AH] w λe w'=>e= .returned (BR ((ZJ cs x).map fun(n:Nat)=>(n:Int)))/\Ac [] w w':=by
 have HP:=Ab h;have CC:=Ab X;obtain⟨R,K⟩:∃R,ZJ cs x=R:=⟨_,rfl⟩;rw[K];have Ax:=Ab K;clear h X K;go_enter func100,ntmps100;go_wp2
 go_loopg [12] cs.length (λgk i wr=>∃(k:Nat),i= .int .i64 k/\k<=cs.length/\gk=cs.length-k/\Hid (((cs.take k).flatMap Bh).any (QM x)=false)/\Hid (Ac [] w wr))
 case atStart=>exact⟨0,rfl,by omega,rfl,by show _=_;simp,Ac.refl _ _⟩
 case round=>
  obtain⟨k,rfl,hk,Q,G,y⟩:=hrel;have HG:=Ab Q;clear Q;by_cases m:k<cs.length
  ·obtain⟨g,Ha,u,z,l,v,t,r,A,b,q,AT,T,P,C,d3⟩:=FI ((Aa HP).kept (Aa y)) k m;simp only[Z6]at q;obtain⟨rfl,_,rfl⟩:=q;have o:=((Aa HP).kept (Aa y)).each _ (Z7 m);have D:=Aa CC _ (Z7 m);obtain⟨a,d⟩:∃a,Bh cs[k]=a:=⟨_,rfl⟩;have HY:=Ab (λj (hj:j<a.length) h2 h3=>Zc m d (Aa G) hj h2 h3);have HS:=Ab (Xq m d (Aa G));rw[AT]at o D d;simp only at o D;have B:=Ab (Jl ⟨u,z,l, .slice v l.length t, .slice r b.length A,b⟩ (wr.alloc (.cells [.int .i64 u, .string z, .slice v l.length t, .slice r b.length A].toArray 189)) (o.kept ((Ac.refl [] wr).alloc _) (by simp)) D);have Y:=Ab (GD (c:=⟨u,z,l, .slice v l.length t, .slice r b.length A,b⟩) o);have Go:a.length<=1001:=by
    have:=D5 b;rw[<-d];simp[Bh];omega
   rw[d]at B Y;have p:=Ab ((Aa y).alloc (.cells [.int .i64 u, .string z, .slice v l.length t, .slice r b.length A].toArray 189));clear o AT d;simp only[A8]at B;(go_wp2_with fail);refine(Aa B).mono ?_;rintro e w2 ⟨FT,HA,rfl,N,Z⟩;have S:=Ab ((Aa p).trans Z);have HO:=Ab N;clear B N Z p T P C d3;go_wp2
   go_loopg [19] a.length (λgj i O=>∃(j:Nat),i= .int .i64 j/\j<=a.length/\gj=a.length-j/\Hid ((a.take j).any (QM x)=false)/\Hid (Ac [] w O)/\Hid (Ac [] w2 O))
   case atStart=>exact⟨0,rfl,by omega,rfl,by show _=_;simp,S,Ac.refl _ _⟩
   case round=>
    clear S;obtain⟨j,rfl,hj,W,I,Bx,B9⟩:=hrel;have FO:=Ab W;clear W;by_cases s:j<a.length
    ·obtain⟨gg,HF,q,T,P,C⟩:=Ib (Ad (Aa HO) (Aa B9) (by simp)) j s;simp only[Z6]at q;obtain⟨rfl,_,rfl⟩:=q;obtain⟨U,H,V,E⟩:=Aa Y a[j] (Z7 s);rw[E]at C;have J:Hid ((a[j].name.toList==x.toList)=true->R=some H):=by
      intro f;have:=Aa HY j s (Aa I) f;rw[E]at this;rw[<-Aa Ax];exact this
     have F:Hid ((a[j].name.toList==x.toList)=false->(a.take (j+1)).any (QM x)=false):=by
      intro f;rw[CB _ _ j s (Aa I)];exact f
     have p:=Ab ((Aa Bx).alloc (.cells [.int .i64 a[j].place, .string a[j].name, .slice U H V].toArray 187));have EX:=Ab ((Aa B9).alloc (.cells [.int .i64 a[j].place, .string a[j].name, .slice U H V].toArray 187));clear E;cases f:(a[j].name.toList==x.toList)with
     |true=>
      have M:=Ab (Aa J f);clear J F;go_wp2;go_ret2;rw[Aa M];exact⟨rfl,Aa p⟩
     |false=>
      have M:=Ab (Aa F f);clear J F;go_wp2
      go_roundg (a.length-(j+1))
      case measure=>have:=Aa FO;omega
      case rel=>exact⟨j+1,by go_num,by omega,rfl,M,p,EX⟩
    ·have L:Hid (((cs.take (k+1)).flatMap Bh).any (QM x)=false):=by
      have h:=Aa I;rw[Z9 (by omega)]at h;exact Aa HS h
     go_wp2
     go_roundg (cs.length-(k+1))
     case measure=>have:=Aa HG;omega
     case rel=>exact⟨k+1,by go_num,by omega,rfl,L,Bx⟩
  ·have L:Hid (R=none):=by
    have h:=Aa G;rw[Z9 (by omega)]at h;show _=_;rw[<-Aa Ax];unfold ZJ;rw[Jc h];rfl
   go_wp2;go_ret2;rw[L.out];exact⟨rfl,Aa y⟩
theorem OL(S:Option Addr)(Q:Nat)(b:List F6)(base:Nat)(s:Option Addr)(r:Nat)(cs:List Da)(w:World)(V:w.ownsRow base 187 3 (.slice S b.length Q) b.length (b.flatMap AL))(G:∀a∈b,∃ad n cp,a.tv= .slice ad n cp)(FA:b.length<=1001)(X:∀a∈b,lenOf a.tv<=1000)(h:Dv w (.slice s cs.length r) cs)(P:∀c∈cs,c.lvs.length<=1000)(Ax:cs.length<=1000):
  Calls prog 91 #[.slice S b.length Q, .slice s cs.length r] w λe t=>e= .returned (BR (ZQ cs b))/\Ac [] w t:=by
 have HO:=Ab V;have BT:=Ab G;have Z:Hid (∀x wr,Ac [] w wr->Calls prog 100 #[.string x, .slice s cs.length r] wr λe t=>e= .returned (BR ((ZJ cs x).map fun(n:Nat)=>(n:Int)))/\Ac [] wr t):=λx wr I=>RD x s r cs wr (h.kept I) P Ax
 obtain⟨R,D⟩:∃R,ZQ cs b=R:=⟨_,rfl⟩;rw[D];have T:Hid ((b.find? (PA cs)).map (λa=>a.place)=R):=D;clear h P D V G X;go_enter func91,ntmps91;go_wp2
 go_loopg [12] b.length (λgk i wr=>∃(k:Nat),i= .int .i64 k/\k<=b.length/\gk=b.length-k/\Hid ((b.take k).any (PA cs)=false)/\Hid (Ac [] w wr))
 case atStart=>exact⟨0,rfl,by omega,rfl,by show _=_;simp,Ac.refl _ _⟩
 case round=>
  obtain⟨k,rfl,I,K,A,C⟩:=hrel;have J:=Ab K;clear K;by_cases q:k<b.length
  ·obtain⟨g,EY,U,d0,Y,F⟩:=Ib (Ad (Aa HO) (Aa C) (by simp)) k q;simp only[Z6]at U;obtain⟨rfl,_,rfl⟩:=U;obtain⟨M,d,N,v⟩:=Aa BT b[k] (Z7 q);rw[v]at F;have l:Hid (PA cs b[k]=true->R=some b[k].place):=by
    intro B;rw[<-Aa T,Fh _ _ k q (Aa A) B];rfl
   have m:Hid (PA cs b[k]=false->(b.take (k+1)).any (PA cs)=false):=by
    intro B;rw[CB _ _ k q (Aa A)];exact B
   have f:Hid (PA cs b[k]=(decide (2<d)||(match ZJ cs b[k].name with|some n=> !(n==d)|none=>false))):=by
    show _=_;unfold PA;rw[v];rfl
   clear v;have z:=(Aa C).alloc (.cells [.int .i64 b[k].place, .string b[k].name, .slice M d N].toArray 187);have L:=Ab (Aw.new wr [.int .i64 b[k].place, .string b[k].name, .slice M d N] 187);have H:=Ab (Aa Z b[k].name _ z);have O:=Ab z;clear z;(go_wp2_with fail);refine(Aa H).mono ?_;rintro e w3 ⟨rfl,y⟩;have E:=(Aa L).kept y (by simp);have p:=Ab ((Aa O).trans y);have c0:=E.cell 0;have c2:=E.cell 2;simp at c0 c2;clear H L O y E d0 Y F;by_cases u:2<d
   ·(have W:(2:Int)<(d:Int):=by omega);have j:Hid (R=some b[k].place):=Aa l (by rw[Aa f];simp[u]);clear l m f;cases ZJ cs b[k].name with
    |none=>
     simp only[Option.map_none,BR];go_wp2;go_ret2;rw[Aa j];exact⟨rfl,Aa p⟩
    |some n=>
     simp only[cQ,BR];go_wp2;go_ret2;rw[Aa j];exact⟨rfl,Aa p⟩
   ·(have W:¬(2:Int)<(d:Int):=by omega);cases hv:ZJ cs b[k].name with
    |none=>
     have j:Hid ((b.take (k+1)).any (PA cs)=false):=Aa m (by rw[Aa f,hv];simp[u]);clear l m f hv;simp only[Option.map_none,BR];go_wp2
     go_roundg (b.length-(k+1))
     case measure=>have:=Aa J;omega
     case rel=>exact⟨k+1,by go_num,by omega,rfl,j,p⟩
    |some n=>
     by_cases o:n=d
     ·have j:Hid ((b.take (k+1)).any (PA cs)=false):=Aa m (by rw[Aa f,hv];simp[u,o]);(have B9:((d:Int) !=(n:Int))=false:=by rw[o];simp);(have AT:((d:Int)==(n:Int))=true:=by rw[o];simp);clear l m f hv;simp only[cQ,BR];clear o;go_wp2
      go_roundg (b.length-(k+1))
      case measure=>have:=Aa J;omega
      case rel=>exact⟨k+1,by go_num,by omega,rfl,j,p⟩
     ·have j:Hid (R=some b[k].place):=Aa l (by rw[Aa f,hv];simp[o]);(have B9:((d:Int) !=(n:Int))=true:=by simp[bne];omega);(have AT:((d:Int)==(n:Int))=false:=by rw[bc];omega);clear l m f hv;simp only[cQ,BR];go_wp2;go_ret2;rw[Aa j];exact⟨rfl,Aa p⟩
  ·have HE:Hid (R=none):=by
    have h:=Aa A;rw[Z9 (by omega)]at h;show _=_;rw[<-Aa T,Jc h];rfl
   go_wp2;go_ret2;rw[HE.out];exact⟨rfl,Aa C⟩
def Fv(lvs:List MH):List A3:=lvs.flatMap λp=>if p.1.sort==0 then p.1.ts else[]
theorem SO{a:List MH}{k:Nat}(b:k<a.length):Fv (a.take (k+1))=Fv (a.take k)++(if a[k].1.sort==0 then a[k].1.ts else[]):=by
 unfold Fv;rw[ac b,aN];simp
theorem Wt(a:List MH):(Fv a).length<=(Bg a).length:=by
 induction a with
 |nil=>simp[Fv]
 |cons p l ih=>
  unfold Fv Bg at*;simp only[aB,am];have:(if p.1.sort==0 then p.1.ts else[]).length<=(AS p.1).length:=by
   by_cases h:(p.1.sort==0)=true
   ·simp[h,AS,A5]
   ·simp[h]
  omega
def Mt(lvs:List MH)(y:Int):Bool:=(Fv lvs).any λt=>t.v==y
def Ds(lvs:List MH)(t:A3):Bool:=t.v !=0&& !Mt lvs t.v
theorem Vv{ts:List A3}{c:List MH}{g a:List Int}(h:FS ts g)(f:FS (Fv c) a):0<(g.filter λy=> !IJ a y).length↔ts.any (Ds c)=true:=by
 rw[List.length_pos_iff_exists_mem,bI];constructor
 ·rintro ⟨y,m⟩;obtain⟨o,j⟩:=aJ.1 m;obtain⟨i,t,l,p⟩:=(h.mem y).1 o;refine⟨t,l,?_⟩;unfold Ds Mt;rw[p];have e:((Fv c).any λt=>t.v==y)=false:=by
   rw[bW];intro u d n;have:y∈a:=(f.mem y).2 ⟨i,u,d,by simpa using n⟩;rw[(Oc a y).2 this]at j;cases j
  rw[e];simp[i]
 ·rintro ⟨t,q,b⟩;unfold Ds Mt at b;simp only[aO,bne_iff_ne,ne_eq,dk,bW]at b;refine⟨t.v,aJ.2 ⟨(h.mem _).2 ⟨b.1,t,q,rfl⟩,?_⟩⟩;cases e:IJ a t.v with
  |false=>rfl
  |true=>
   obtain⟨_,u,d,k⟩:=(f.mem _).1 ((Oc a _).1 e);exact absurd (by simpa using k) (b.2 u d)
theorem L7(P:Option Addr)(H:Nat)(ts:List A3)(bt:Nat)(AH:Option Addr)(Y:Nat)(a:List MH)(w:World)(R:w.ownsRow bt 215 2 (.slice P ts.length H) ts.length (ts.flatMap Am))(h:Cd w 0 (.slice AH a.length Y) a)(KS:a.length<=1000)(BT:∀p∈a,(p.1.sort==0)=true->0<p.1.ts.length/\p.1.ts.length<=1000)(H1:ts.length<=900000)(A:(Fv a).length<=900000):
  Calls prog 136 #[.slice P ts.length H, .slice AH a.length Y] w λe w'=>e= .returned (.bool (ts.any (Ds a)))/\Ac [] w w':=by
 obtain⟨i0,HV,FT,H3,HQ⟩:=bj Tryz.info215;have CL:Hid (∀j c,FS ts j->FS (Fv a) c->(0<(j.filter λy=> !IJ c y).length↔ts.any (Ds a)=true)):=λj c h1 h2=>Vv h1 h2
 generalize ts.any (Ds a)=LB at CL⊢;have HT:=Ab R;have HB:=Ab h;have HU:=Ab BT;have H5:=Ab A;clear R h BT A;go_enter func136,ntmps136;go_wp2
 go_loopg [5,10] a.length (λgk o i wr=>∃(k:Nat) (b:List A3) (d:Option Addr) (f:Nat),o= .slice d b.length f/\i= .int .i64 k/\k<=a.length/\b.length<=k*1000/\gk=a.length-k/\Hid (b=Fv (a.take k))/\wr.ownsRow w.heap.size 215 2 (.slice d b.length f) b.length (b.flatMap Am)/\Hid (Ac [] w wr))
 case atStart=>exact⟨0,[],none,0,rfl,rfl,by omega,by simp,rfl,by show _=_;simp[Fv],ax _ _ _ _,Ac.refl _ _⟩
 case round=>
  obtain⟨k,b,d,f,rfl,rfl,U,K6,EK,m,N,u⟩:=hrel;have HG:=Ab EK;clear EK;have K8:=(Aa u).size;by_cases D:k<a.length
  ·have Z:=(Aa HB).kept (Aa u) (by simp);obtain⟨g,LE,l,x,n,AT,T,EX,d0,d1,d2,d3,d4,d5,d6,d7,d8⟩:=G7 Z k D;simp only[Z6]at AT;obtain⟨rfl,_,rfl⟩:=AT;have q:=Ab (SO D);have z:=Ab (Aa HU a[k] (Z7 D));rw[T]at q z;have I:=Ab (Ad EX ((Ac.refl [] wr).alloc (.cells (Ap (l, .slice x l.ts.length n)).toArray 217)) (by simp));clear Z EX T;have K:=Ab ((Aa u).alloc (.cells (Ap (l, .slice x l.ts.length n)).toArray 217));have G:=ah N (.cells (Ap (l, .slice x l.ts.length n)).toArray 217);(have S:w.heap.size<=(wr.alloc (.cells (Ap (l, .slice x l.ts.length n)).toArray 217)).heap.size:=by simp;omega);simp only[Ap]at I K G S;cases hs:(l.sort==0)with
   |false=>
    (have J:Hid (b=Fv (a.take (k+1))):=by show _=_;rw[Aa q,Aa m];simp[hs]);clear q m z;go_wp2
    go_roundg (a.length-(k+1))
    case measure=>have:=Aa HG;omega
    case rel=>exact⟨k+1,b,d,f,rfl,by go_num,by omega,by omega,rfl,J,G,K⟩
   |true=>
    (have J:Hid (b++l.ts=Fv (a.take (k+1))):=by show _=_;rw[Aa q,Aa m];simp[hs]);obtain⟨FA,HM⟩:=Aa z hs;simp only at FA HM;obtain⟨gl,rfl,HK,X,_,_⟩:=U1 (Aa I) FA;have HX:=Ab X;(have HF:Hid (∀t,(wr.alloc (.cells [.int .i64 l.place, .int .i64 l.sort, .int .i64 l.ap, .string l.an, .slice (some ⟨gl,0,none⟩) l.ts.length n, .int .i32 l.l.v, .string l.l.s, .int .i32 l.r.v, .string l.r.s].toArray 217)).grownBy t (Value.slice d b.length f).ownBlock->Ac [] w t):=λt hg=>(Aa K).grown hg (λk U=>Or.inr ((N.lt k U).1)));clear q m z X I;(have FO:(b++l.ts).length<=(k+1)*1000:=by simp;omega);(have Jx:k<=1000:=by omega);go_wp2_with (at_builtin;refine ay _ rfl (.tmp 17) (.tmp 20) _ rfl w.heap.size 215 i0 _ 2 24 underlying185 HV FT H3 HQ rfl (by omega) (.slice d b.length f) b.length (b.flatMap Am) rfl G ⟨gl,0,none⟩ l.ts.length n (l.ts.flatMap Am) rfl HK (Aa HX) (I7 _) (by omega) (by unfold maxLen;omega) (by omega) S _ rfl ?_;intro g1 HD t HR HI H9 FL)
    go_roundg (a.length-(k+1))
    case measure=>have:=Aa HG;omega
    case rel=>exact⟨k+1,b++l.ts,some ⟨g1,0,none⟩,HD,by simp,by go_num,by omega,FO,rfl,J,by simpa using HR,Aa HF t HI⟩
  ·have HE:Hid (b=Fv a):=by
    have h:=Aa m;rw[Z9 (by omega)]at h;exact h
   (have A:b.length<=900000:=by rw[Aa HE];exact Aa H5);have Q:=Ab (Js P H ts bt wr (Ad (Aa HT) (Aa u) (by simp)) H1);clear m;(go_wp2_with fail);refine(Aa Q).mono ?_;rintro e w4 ⟨j,HP,HH,rfl,E,FP,k4⟩;have FF:=Ad N k4 (by simp);have EY:=Ab (Js d f b w.heap.size w4 FF A);have FC:=Ab ((Aa u).trans k4);have HY:=Ab E;have FL:=E.le;clear Q E;(go_wp2_with fail);refine(Aa EY).mono ?_;rintro e w5 ⟨c,H0,HS,rfl,B,HL,k5⟩;have Go:=Ad FP k5 (by simp);have K9:=B.le;have O:=Ab (RW HP HH j H0 HS c _ _ w5 Go HL (by omega) (by omega) B.rise);have HC:=Ab ((Aa FC).trans k5);have M:=Ab (Aa CL j c (Aa HY) (by rw[<-Aa HE];exact B));clear EY B;generalize(j.filter λy=> !IJ c y)=F at O M;(go_wp2_with fail);refine(Aa O).mono ?_;rintro e w6 ⟨LS,K2,rfl,LM,k6⟩;have V:=Ab ((Aa HC).trans k6);clear O;by_cases W:0<F.length
   ·(have L:(0:Int)<(F.length:Int):=by omega);have C:Hid (LB=true):=(Aa M).1 W;go_wp2;go_ret;rw[C.out];exact⟨by simp[L],Aa V⟩
   ·(have L:¬(0:Int)<(F.length:Int):=by omega);have C:Hid (LB=false):=by
     cases hb:LB with
     |false=>rfl
     |true=>exact absurd ((Aa M).2 hb) W
    go_wp2;go_ret;rw[C.out];exact⟨by simp[L],Aa V⟩
theorem Kg(f:Option Addr)(s:Nat)(a:List MH)(w:World)(h:Cd w 0 (.slice f a.length s) a)(BA:a.length<=1000)(P:∀p∈a,(p.1.sort==0)=true->0<p.1.ts.length/\p.1.ts.length<=1000)(J:∀p∈a,(AS p.1).length<=1000)(G:(Fv a).length<=900000):
  Calls prog 93 #[.slice f a.length s] w λe u=>e= .returned (BR ((a.find? λp=>(AS p.1).any (Ds a)).map λp=>p.1.place))/\Ac [] w u:=by
 have HB:=Ab h;have EK:=Ab J;have V:Hid (∀(m:Option Addr) (o:Nat) (b:List A3) (wr:World),Ac [] w wr->wr.ownsRow 0 215 2 (.slice m b.length o) b.length (b.flatMap Am)->b.length<=900000->Calls prog 136 #[.slice m b.length o, .slice f a.length s] wr λe u=>e= .returned (.bool (b.any (Ds a)))/\Ac [] wr u):=λm o b wr K hr hl=>L7 m o b 0 f s a wr hr (h.kept K (by simp)) BA P hl G
 obtain⟨R,E⟩:∃R,((a.find? λp=>(AS p.1).any (Ds a)).map λp=>p.1.place)=R:=⟨_,rfl⟩;rw[E];have T:=Ab E;clear h J E P G;go_enter func93,ntmps93;go_wp2
 go_loopg [8] a.length (λgk i wr=>∃(k:Nat),i= .int .i64 k/\k<=a.length/\gk=a.length-k/\Hid ((a.take k).any (λp=>(AS p.1).any (Ds a))=false)/\Hid (Ac [] w wr))
 case atStart=>exact⟨0,rfl,by omega,rfl,by show _=_;simp,Ac.refl _ _⟩
 case round=>
  obtain⟨k,rfl,K,N,z,B⟩:=hrel;have HG:=Ab N;clear N;by_cases d:k<a.length
  ·obtain⟨g,FL,q,l,t,I,c,Q,d0,d1,W,X,d4,d5,d6,d7,d8⟩:=G7 ((Aa HB).kept (Aa B) (by simp)) k d;simp only[Z6]at I;obtain⟨rfl,_,rfl⟩:=I;have C:=Aa EK a[k] (Z7 d);have n:Hid ((AS q).any (Ds a)=true->R=some q.place):=by
    intro A;rw[<-Aa T,Fh _ _ k d (Aa z) (by rw[c];exact A),c];rfl
   have r:Hid ((AS q).any (Ds a)=false->(a.take (k+1)).any (λp=>(AS p.1).any (Ds a))=false):=by
    intro A;rw[CB _ _ k d (Aa z)];rw[c];exact A
   rw[c]at C;simp only at C;have D:=Ab (Ka q l t (wr.alloc (.cells (Ap (q, .slice l q.ts.length t)).toArray 217)) (Ad Q ((Ac.refl [] wr).alloc _) (by simp)));have S:=Ab (Aw.new wr (Ap (q, .slice l q.ts.length t)) 217);have U:=Ab ((Aa B).alloc (.cells (Ap (q, .slice l q.ts.length t)).toArray 217));clear Q c;simp only[Ap]at D;(go_wp2_with fail);refine(Aa D).mono ?_;rintro e Y ⟨Z,EY,rfl,M,x⟩;have O:=Ab ((Aa S).kept x (by simp));have H:=Ab ((Aa U).trans x);have j:=Ab (Aa V Z EY (AS q) Y (Aa H) M (by omega));clear D M x S U d0 d1 W X d4 d5 d6 d7 d8;generalize(AS q).any (Ds a)=LB at j n r;generalize(AS q).length=tl at j C⊢;(go_wp2_with fail);refine(Aa j).mono ?_;rintro e w5 ⟨rfl,y⟩;have v:=(Aa O).kept y (by simp);have L:=Ab ((Aa H).trans y);clear j y O;cases LB with
   |true=>
    have F:=Ab (Aa n rfl);have c0:=v.cell 0;simp[Ap]at c0;clear n r v;go_wp2;go_ret2;rw[Aa F];exact⟨rfl,Aa L⟩
   |false=>
    have F:=Ab (Aa r rfl);clear n r v;go_wp2
    go_roundg (a.length-(k+1))
    case measure=>have:=Aa HG;omega
    case rel=>exact⟨k+1,by go_num,by omega,rfl,F,L⟩
  ·have HE:Hid (R=none):=by
    have h:=Aa z;rw[Z9 (by omega)]at h;show _=_;rw[<-Aa T,Jc h];rfl
   go_wp2;go_ret2;rw[HE.out];exact⟨rfl,Aa B⟩
def Mv(c:Da)(t:A3):Bool:=t.v !=0&& !Mt c.lvs t.v
def GY(c:Da):Option Int:=if c.hts.any (Mv c)then some c.hp else(c.lvs.find? λp=>(AS p.1).any (Mv c)).map λp=>p.1.place
theorem KM{α:Type}{f g:α->Bool}:∀{l:List α},(∀x∈l,f x=g x)->l.any f=l.any g
 |[],_=>rfl
 |x::l,h=>by rw[dx,dx,h x (by simp),KM (λy a=>h y (by simp[a]))]
theorem Lo{α:Type}{f g:α->Bool}:∀{l:List α},(∀x∈l,f x=g x)->l.find? f=l.find? g
 |[],_=>rfl
 |x::l,h=>by rw[cS,cS,h x (by simp),Lo (λy a=>h y (by simp[a]))]
theorem MI(c:Da)(w:World)(h:Im w 0 c.hv c.bv c.hts c.lvs)(f:MV c)(C:(Bj c).length<=900000):
  Calls prog 120 #[.agg (A8 c).toArray] w λe q=>e= .returned (BR (GY c))/\Ac [] w q:=by
 have o:(Fv c.lvs).length<=900000:=by
  have:=Wt c.lvs;simp only[Bj,am]at C;omega
 have A:c.hts.length<=900000:=by have:=f.head.2;omega
 have j:∀p∈c.lvs,(p.1.sort==0)=true->0<p.1.ts.length/\p.1.ts.length<=1000:=λp b K=>⟨(f.each p b).1 (by simp[A5,K]),(f.each p b).2⟩
 have s:∀p∈c.lvs,(AS p.1).length<=1000:=λp b=>(f.terms b).2
 have v:=f.lits;have d:Hid (GY c=if c.hts.any (Ds c.lvs)then some c.hp else(c.lvs.find? λp=>(AS p.1).any (Ds c.lvs)).map λp=>p.1.place):=rfl;generalize GY c=U at d⊢;clear f C;obtain⟨b,H,k,O,P,a⟩:=c;simp only at h o A j s v d;obtain⟨x,t,rfl⟩:=Ak h.head;obtain⟨g,i,rfl⟩:=Ak h.body.row;have G:=Ab (Aw.new w [.int .i64 b, .string H, .slice x k.length t, .slice g a.length i] 189);have l:=(Ac.refl [] w).alloc (.cells [.int .i64 b, .string H, .slice x k.length t, .slice g a.length i].toArray 189);have n:=Ab (L7 x t k 0 g i a _ (Ad h.head l (by simp)) (h.body.kept l (by simp)) v j A o);have z:Hid (∀wr,Ac [] w wr->Calls prog 93 #[.slice g a.length i] wr λe q=>e= .returned (BR ((a.find? λp=>(AS p.1).any (Ds a)).map λp=>p.1.place))/\Ac [] wr q):=λwr I=>Kg g i a wr (h.body.kept I (by simp)) v j s o
 have D:=Ab l;generalize((a.find? λp=>(AS p.1).any (Ds a)).map λp=>p.1.place)=FO at z d;generalize k.any (Ds a)=LB at n d;clear h l j s;simp only[A8];go_enter func120,ntmps120;go_wp2_with fail
 refine(Aa n).mono ?_;rintro e L ⟨rfl,y⟩;have r:=(Aa G).kept y (by simp);have u:=Ab ((Aa D).trans y);have M:=r.cell 0;have J:=r.cell 3;simp at M J;have F:=Ab (Aa z L (Aa u));clear n G D y r z;cases LB with
 |true=>
  have m:Hid (U=some b):=by have h:=Aa d;exact h
  clear d;go_wp2;go_ret2;rw[Aa m];exact⟨rfl,Aa u⟩
 |false=>
  have m:Hid (U=FO):=by have h:=Aa d;exact h
  clear d;go_wp2_with fail
  refine(Aa F).mono ?_;rintro e N ⟨rfl,B⟩;have E:=Ab ((Aa u).trans B);clear F B;cases FO with
  |none=>
   simp only[BR];go_wp2;go_ret2;rw[Aa m];exact⟨rfl,Aa E⟩
  |some p=>
   simp only[BR];go_wp2;go_ret2;rw[Aa m];exact⟨rfl,Aa E⟩
structure Ul(b:Nat)(w w':World):Prop where
 os:w'.os=w.os
 tape:w'.tape=w.tape
 output:w'.output=w.output
 size:w.heap.size<=w'.heap.size
 block:∀k,k<b->w'.heap[k]?=w.heap[k]?
theorem Ul.trans{b:Nat}{u v w:World}(h:Ul b u v)(k:Ul b v w):Ul b u w:=⟨k.os.trans h.os,k.tape.trans h.tape,k.output.trans h.output,bM h.size k.size,λi a=>(k.block i a).trans (h.block i a)⟩
theorem Ul.of{M:List Nat}{b:Nat}{w w':World}(k:Ac M w w')(d:b<=w.heap.size)(a:∀i,i∈M->b<=i):Ul b w w':=
 ⟨k.os,k.tape,k.output,k.size,λi c=>k.block i (by omega) (λh=>by have:=a i h;omega)⟩
theorem Ul.kept{b:Nat}{w w':World}(h:Ul b w w')(c:w.heap.size<=b):Ac [] w w':=⟨h.os,h.tape,h.output,h.size,λk a _=>h.block k (by omega)⟩
theorem IN{b:Nat}{w w':World}{base:Nat}{e:TypeId}{size:Nat}{v:Value}{n:Nat}{a:List Value}(h:w.ownsRow base e size v n a)(k:Ul b w w')(d:∀i,v.ownBlock=some i->i<b):w'.ownsRow base e size v n a:=by
 refine⟨h.1,?_⟩;rcases h.2 with o|⟨g,f,c,rfl,l,j,m⟩
 ·exact .inl o
 ·refine .inr ⟨g,f,c,rfl,l,?_,m⟩;rw[k.block g (d g rfl)];exact j
structure Yk(w:World)(b:Nat)(c:Da):Prop where
 at_:Im w 0 c.hv c.bv c.hts c.lvs
 lt1:∀k,c.hv.ownBlock=some k->k<b
 lt2:∀k,c.bv.ownBlock=some k->k<b
 lt3:∀p∈c.lvs,∀k,p.2.ownBlock=some k->k<b
theorem Yk.low{w w':World}{b:Nat}{c:Da}(h:Yk w b c)(k:Ul b w w'):Yk w' b c:=
 ⟨⟨IN h.at_.head k h.lt1,⟨IN h.at_.body.row k h.lt2,λp a=>⟨IN (h.at_.body.each p a).1 k (h.lt3 p a),(h.at_.body.each p a).2⟩⟩⟩,h.lt1,h.lt2,h.lt3⟩
structure D9(w:World)(b:Nat)(n:Int)(nv tv:Value)(names things:List cL):Prop where
 blk:Aw w b [.int .i64 n,nv,tv] 210
 rn:w.ownsRow (b+1) 9 1 nv names.length (names.flatMap Ae)
 rt:w.ownsRow (b+1) 170 1 tv things.length (things.flatMap Ae)
 ant:BX nv tv
 rin:Ct Dg names
 rit:Ct Dg things
theorem D9.kept{w w':World}{b:Nat}{n:Int}{a tv:Value}{d c:List cL}(h:D9 w b n a tv d c)(k:Ac [] w w'):D9 w' b n a tv d c:=
 ⟨h.blk.kept k (by simp),Ad h.rn k (by simp),Ad h.rt k (by simp),h.ant,h.rin,h.rit⟩
theorem BX.symm{u v:Value}(h:BX u v):BX v u:=λk b a=>h k a b
theorem OV(b:Nat)(n:Nat)(l tv:Value)(c a:List cL)(w:World)(h:D9 w b n l tv c a):
  Calls prog 117 #[.pointer (some ⟨b,0,none⟩)] w λe o=>e= .returned (.bool (decide (12<n)||decide (6<c.length)||decide (6<a.length)))/\o=w:=by
 obtain⟨s,v,rfl⟩:=Ak h.rn;obtain⟨u,t,rfl⟩:=Ak h.rt;have q:=h.blk.cell 0;have r:=h.blk.cell 1;have k:=h.blk.cell 2;simp at q r k;clear h;obtain⟨V,g⟩:∃V,(decide (12<n)||decide (6<c.length)||decide (6<a.length))=V:=⟨_,rfl⟩;rw[g];have f:=Ab g;clear g;by_cases j:12<n
 ·have p:(12:Int)<(n:Int):=by omega
  have d:Hid (V=true):=by show _=_;rw[<-Aa f];simp[j]
  go_enter func117,ntmps117;go_wp2;go_ret;rw[Aa d];exact⟨by simp,rfl⟩
 ·have p:¬(12:Int)<(n:Int):=by omega
  by_cases i:6<c.length
  ·(have m:(6:Int)<(c.length:Int):=by omega);(have d:Hid (V=true):=by show _=_;rw[<-Aa f];simp[i]);go_enter func117,ntmps117;go_wp2;go_ret;rw[Aa d];exact⟨by simp,rfl⟩
  ·(have m:¬(6:Int)<(c.length:Int):=by omega);have d:Hid (V=decide ((6:Int)<(a.length:Int))):=by
    show _=_;rw[<-Aa f];have e:decide ((6:Int)<(a.length:Int))=decide (6<a.length):=by
     by_cases h:6<a.length
     ·(have:(6:Int)<(a.length:Int):=by omega);simp[h,this]
     ·(have:¬(6:Int)<(a.length:Int):=by omega);simp[h,this]
    rw[e];simp[j,i]
   go_enter func117,ntmps117;go_wp2;go_ret;rw[Aa d];exact⟨by simp,rfl⟩
