import Derived.Test.YtoihbhenbmffcaaGreatZAM
set_option linter.all false
set_option maxHeartbeats 0
open Prod renaming fst->kE
namespace Go.Proofs.YtoihbhenbmffcaaGreat
open Go.RowKit Go.Proofs.Tryz
variable{p:kJ CB}{s:zA}{w u:World}{z:Value}{n m j:Nat}
def Pi(c:PC):kJ zA:=c.hn::(c.body.filter A6).map λl=>l.an
def Rj(c:CB):BZ c=Pi c.pc:=by
 unfold BZ Pi FX CB.pc;simp only[List.filter_map,gR];rfl
def Mz(x:BH):A6 (L1 x)=(x.kind==97||x.kind==33):=by
 unfold A6 L1;simp only[Q1,Zk]
def RQ(r:AY):GB r=Pi (bF r.erase):=by
 unfold GB Pi bF AY.erase;simp only[gR,List.filter_map]
 congr 1
 have:(A6∘(L1∘kE))=On:=by
  funext q
  simp only[Function.comp,Mz];rfl
 rw[this];rfl
def Vi(c:Cb):AY:=⟨c.head,.slice none 0 0,.slice none 0 0,c.body.map λx=>(x,.slice none 0 0),c.at_⟩
def Ok(c:Cb):(Vi c).erase=c:=by
 unfold Vi AY.erase;simp only[gR];have:(kE∘λx:BH=>(x,Value.slice none 0 0))=id:=rfl;rw[this,List.map_id]
def ep(s:zA):zA->zA->Bool:=GW ((Ar s (Ae s 0)).1.map Vi)
def Ui{l:kJ AY}(h:p.map CB.pc=l.map λr=>bF r.erase)(x y:zA):GY p x y↔QI l x y:=by
 have k:=F2.of_map h;constructor
 .intro e S i g;refine e S i (λc f b z d=>?_);obtain⟨r,m,a⟩:=k.zo c f;rw[Rj,a,<-RQ]at d;have j:c.hn=r.head.name:=congrArg PC.hn a;rw[j]at b;exact g r m b z d
 .intro e S i g;refine e S i (λr n b z d=>?_);obtain⟨c,f,a⟩:=k.mem r n;rw[RQ,<-a,<-Rj]at d;have j:c.hn=r.head.name:=congrArg PC.hn a;rw[<-j]at b;exact g c f b z d
def KN(s:zA):match CR (Ez s) 0 [] with
  | .ok cs=>(Ar s (Ae s 0)).2.2=false/\cs=(Ar s (Ae s 0)).1.map bF/\(∀c∈(Ar s (Ae s 0)).1,c.at_=c.head.at_)
  | .error p=>(Ar s (Ae s 0)).2.2=true/\p=((Ar s (Ae s 0)).2.1:Int):=by
 have a:At s (Ez s) 0 0:=by
  unfold At;rw[Lv];rfl
 have:=XC _ 0 (Ae s 0) [] (fJ _) a.gap (Bj s 0 (fP _)) (B8 s 0)
 revert this
 cases CR (Ez s) 0 [] with
 |error p=>exact λh=>h
 |ok cs=>exact λh=>⟨h.1,by simpa using h.2.1,h.2.2⟩
def MH(n:s.size<=300){d:kJ PC}(e:CR (Ez s) 0 []=.ok d)(b:p.map CB.pc=d):Th (ep s) p:=by
 have j:=(Mq s).1;have h:=Jc (by omega) _ 0 [] (fJ _) (by simp) e;have f:=KN s;rw[e]at f;have m:p.length=d.length:=by rw[<-b];simp
 have g:∀c∈p,JB c.pc:=λc a=>h.1 _ (by rw[<-b];exact fC.2 ⟨c,a,rfl⟩)
 have i:=h.2;simp only[gh]at i;refine⟨λx y=>?_,λc a=>(Qc (g c a)).1,by omega,?_⟩
 .unfold ep;rw[K0];refine(Ui ?_ x y).symm;rw[b,f.2.1,gR];apply gN;intro c _;simp only[Function.comp,Ok]
 .have l:=PA BZ 152 p (λc a=>(Qc (g c a)).2);have k:p.length*152<=301*152:=gK _ (by omega);omega
def bE{c:CB}{r:AY}(h:c.pc=bF r.erase)(l:JB c.pc)(b:Wf c)(m:r.at_=r.head.at_):Qj c r:=by
 have g:c.hp=r.head.at_:=congrArg PC.hp h;have n:c.hn=r.head.name:=congrArg PC.hn h;have e:c.zD=r.head.args.map ct:=congrArg PC.zD h;have j:c.zE.map kE=r.bl.map λq=>L1 q.1:=by
  have:c.zE.map kE=(r.bl.map kE).map L1:=congrArg PC.body h;rw[this,gR];rfl
 refine⟨g,n,e,?_,by rw[b.head,e];simp,m⟩;refine(F2.of_map j).mono (λp d q o a=>⟨a,?_,λi=>?_⟩)
 .rw[b.lits p d,a];simp[L1]
 .have k:=l.lits p.1 (fC.2 ⟨p,d,rfl⟩);have:A6 p.1=false:=by rw[a,Mz];exact i
  have f:=k.plain this;rw[a]at f;simpa[L1] using f
def Nn{e h:Int}{r:Int×Int}(a:Ed s e h)(b:Ey s (ep s) r):r=(e,h):=by
 unfold Ed at a;unfold Ey at b;by_cases m:300<s.size
 .rw[fF m]at a b;rw[b,a.1,a.2]
 .rw[fB m]at a b;have d:=KN s;cases hp:CR (Ez s) 0 [] with
  |error p=>
   rw[hp]at d b;rw[fF d.1]at a;simp only at b;rw[b,a.1,a.2,d.2]
  |ok cs=>
   rw[hp]at d b;rw[fB (by rw[d.1];simp)]at a;obtain⟨g,j,z⟩:=a;obtain⟨k,f,t,v⟩:=b;have A:=(Mq s).1;have q:=Jc (by omega) _ 0 [] (fJ _) (by simp) hp;have n:k.map CB.pc=g.map λr=>bF r.erase:=by
    rw[f,d.2.1,<-j,gR];rfl
   have hF:F2 Qj k g:=(F2.of_map n).mono (λc l i o w=>bE w (q.1 _ (by rw[<-f];exact fC.2 ⟨c,l,rfl⟩)) (t c l) (by
    have:=d.2.2 i.erase (by rw[<-j];exact fC.2 ⟨i,o,rfl⟩)
    exact this))
   have u:∀x y,ep s x y=GW g x y:=by
    intro x y;rw[gU,(MH (by omega) hp f).z8,K0];exact Ui n x y
   rw[v,z];exact V5 hF u
theorem MF(n:Int)(w:World):Calls prog 6 #[.int .i64 n] w λe a=>e=.returned (.int .i64 n)/\a=w:=by
 go_enter func6,ntmps6;go_wp2;go_ret;exact⟨rfl,rfl⟩
def Q6(w:World)(ab ao:Nat)(len:Nat)(K:Nat->Int)(S T:Nat->zA):Prop:=
 ∀i,i<len->w.cell? ⟨ab,ao+i*3,none⟩=some (.int .i64 (K i))/\w.cell? ⟨ab,ao+i*3+1,none⟩=some (.string (S i))/\w.cell? ⟨ab,ao+i*3+2,none⟩=some (.string (T i))
def Nu(k:Ac [] w u){a:Addr}(h:w.cell? a=some z):u.cell? a=some z:=by
 rw[World.cell?_of_block (k.block a.block (World.block_lt_of_cell? w a h) (by simp))];exact h
def Q6.kept{w w':World}{b:Nat->Int}{S T:Nat->zA}(h:Q6 w n m j b S T)(k:Ac [] w w'):Q6 w' n m j b S T:=
 λi a=>⟨Nu k (h i a).1,Nu k (h i a).2.1,Nu k (h i a).2.2⟩
