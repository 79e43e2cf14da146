import Derived.Test.YtoihbhenbmffcaaGreatDoorFAM
set_option linter.all false
set_option maxHeartbeats 0
open Prod renaming fst->pH
namespace Go.Proofs.YtoihbhenbmffcaaGreatDoor
open Go.RowKit Go.Proofs.Tryz
variable{p:pM Dy}{s:zA}{w u:World}{z:Value}{n m j:Nat}
def QE(c:PC):pM zA:=c.hn::(c.body.filter Bi).map λl=>l.an
def Tj(c:Dy):Ck c=QE c.pc:=by
 unfold Ck QE Gw Dy.pc;simp only[List.filter_map,mq];rfl
def IB(x:Br):Bi (LU x)=(x.kind==97||x.kind==33):=by
 unfold Bi LU;simp only[SY,dm]
def TY(r:A4):Hu r=QE (fT r.erase):=by
 unfold Hu QE fT A4.erase;simp only[mq,List.filter_map]
 congr 1
 have:(Bi∘(LU∘pH))=MF:=by
  funext q
  simp only[Function.comp,IB];rfl
 rw[this];rfl
def XO(c:CD):A4:=⟨c.head,.slice none 0 0,.slice none 0 0,c.body.map λx=>(x,.slice none 0 0),c.at_⟩
def PI(c:CD):(XO c).erase=c:=by
 unfold XO A4.erase;simp only[mq];have:(pH∘λx:Br=>(x,Value.slice none 0 0))=id:=rfl;rw[this,List.map_id]
def iY(s:zA):zA->zA->Bool:=Hw ((An s (Ae s 0)).1.map XO)
def WG{l:pM A4}(h:p.map Dy.pc=l.map λr=>fT r.erase)(x y:zA):Ie p x y↔Sv l x y:=by
 have k:=F2.of_map h;constructor
 .intro e S i g;refine e S i (λc f b z d=>?_);obtain⟨r,m,a⟩:=k.yK c f;rw[Tj,a,<-TY]at d;have j:c.hn=r.head.name:=congrArg PC.hn a;rw[j]at b;exact g r m b z d
 .intro e S i g;refine e S i (λr n b z d=>?_);obtain⟨c,f,a⟩:=k.mem r n;rw[TY,<-a,<-Tj]at d;have j:c.hn=r.head.name:=congrArg PC.hn a;rw[<-j]at b;exact g c f b z d
def Kq(s:zA):match Dc (Dl s) 0 [] with
  | .ok cs=>(An s (Ae s 0)).2.2=false/\cs=(An s (Ae s 0)).1.map fT/\(∀c∈(An s (Ae s 0)).1,c.at_=c.head.at_)
  | .error p=>(An s (Ae s 0)).2.2=true/\p=((An s (Ae s 0)).2.1:Int):=by
 have a:At s (Dl s) 0 0:=by
  unfold At;rw[Kc];rfl
 have:=aE _ 0 (Ae s 0) [] (lC _) a.gap (BB s 0 (lz _)) (Cu s 0)
 revert this
 cases Dc (Dl s) 0 [] with
 |error p=>exact λh=>h
 |ok cs=>exact λh=>⟨h.1,by simpa using h.2.1,h.2.2⟩
def Me(n:s.size<=300){d:pM PC}(e:Dc (Dl s) 0 []=.ok d)(b:p.map Dy.pc=d):Vy (iY s) p:=by
 have j:=(JB s).1;have h:=J8 (by omega) _ 0 [] (lC _) (by simp) e;have f:=Kq s;rw[e]at f;have m:p.length=d.length:=by rw[<-b];simp
 have g:∀c∈p,KF c.pc:=λc a=>h.1 _ (by rw[<-b];exact lk.2 ⟨c,a,rfl⟩)
 have i:=h.2;simp only[lO]at i;refine⟨λx y=>?_,λc a=>(RH (g c a)).1,by omega,?_⟩
 .unfold iY;rw[Mw];refine(WG ?_ x y).symm;rw[b,f.2.1,mq];apply mu;intro c _;simp only[Function.comp,PI]
 .have l:=Q5 Ck 152 p (λc a=>(RH (g c a)).2);have k:p.length*152<=301*152:=mh _ (by omega);omega
def fR{c:Dy}{r:A4}(h:c.pc=fT r.erase)(l:KF c.pc)(b:Wf c)(m:r.at_=r.head.at_):RX c r:=by
 have g:c.hp=r.head.at_:=congrArg PC.hp h;have n:c.hn=r.head.name:=congrArg PC.hn h;have e:c.zV=r.head.args.map ct:=congrArg PC.zV h;have j:c.zH.map pH=r.bl.map λq=>LU q.1:=by
  have:c.zH.map pH=(r.bl.map pH).map LU:=congrArg PC.body h;rw[this,mq];rfl
 refine⟨g,n,e,?_,by rw[b.head,e];simp,m⟩;refine(F2.of_map j).mono (λp d q o a=>⟨a,?_,λi=>?_⟩)
 .rw[b.lits p d,a];simp[LU]
 .have k:=l.lits p.1 (lk.2 ⟨p,d,rfl⟩);have:Bi p.1=false:=by rw[a,IB];exact i
  have f:=k.plain this;rw[a]at f;simpa[LU] using f
def DA{e h:Int}{r:Int×Int}(a:CI s e h)(b:Ex s (iY s) r):r=(e,h):=by
 unfold CI at a;unfold Ex at b;by_cases m:300<s.size
 .rw[ln m]at a b;rw[b,a.1,a.2]
 .rw[li m]at a b;have d:=Kq s;cases hp:Dc (Dl s) 0 [] with
  |error p=>
   rw[hp]at d b;rw[ln d.1]at a;simp only at b;rw[b,a.1,a.2,d.2]
  |ok cs=>
   rw[hp]at d b;rw[li (by rw[d.1];simp)]at a;obtain⟨g,j,z⟩:=a;obtain⟨k,f,t,v⟩:=b;have A:=(JB s).1;have q:=J8 (by omega) _ 0 [] (lC _) (by simp) hp;have n:k.map Dy.pc=g.map λr=>fT r.erase:=by
    rw[f,d.2.1,<-j,mq];rfl
   have hF:F2 RX k g:=(F2.of_map n).mono (λc l i o w=>fR w (q.1 _ (by rw[<-f];exact lk.2 ⟨c,l,rfl⟩)) (t c l) (by
    have:=d.2.2 i.erase (by rw[<-j];exact lk.2 ⟨i,o,rfl⟩)
    exact this))
   have u:∀x y,iY s x y=Hw g x y:=by
    intro x y;rw[mN,(Me (by omega) hp f).yd,Mw];exact WG n x y
   rw[v,z];exact YI hF u
theorem E6(n:Int)(w:World):Calls prog 16 #[.int .i64 n] w λe a=>e=.returned (.int .i64 n)/\a=w:=by
 go_enter func16,ntmps16;go_wp2;go_ret;exact⟨rfl,rfl⟩
def LZ(w:World)(ab ao:Nat)(len:Nat)(K:Nat->Int)(S T:Nat->zA):Prop:=
 ∀i,i<len->w.cell? ⟨ab,ao+i*3,none⟩=some (.int .i64 (K i))/\w.cell? ⟨ab,ao+i*3+1,none⟩=some (.string (S i))/\w.cell? ⟨ab,ao+i*3+2,none⟩=some (.string (T i))
def O6(k:Ac [] w u){a:Addr}(h:w.cell? a=some z):u.cell? a=some z:=by
 rw[World.cell?_of_block (k.block a.block (World.block_lt_of_cell? w a h) (by simp))];exact h
def LZ.kept{w w':World}{b:Nat->Int}{S T:Nat->zA}(h:LZ w n m j b S T)(k:Ac [] w w'):LZ w' n m j b S T:=
 λi a=>⟨O6 k (h i a).1,O6 k (h i a).2.1,O6 k (h i a).2.2⟩
