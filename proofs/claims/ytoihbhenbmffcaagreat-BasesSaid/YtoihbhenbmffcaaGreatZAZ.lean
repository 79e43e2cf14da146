import Derived.Test.YtoihbhenbmffcaaGreatZAR
import Derived.Test.YtoihbhenbmffcaaGreatZAY
import Derived.Test.YtoihbhenbmffcaaGreatZAL
set_option linter.all false
set_option maxHeartbeats 0
open List renaming length->Z,toArray->j1,replicate->kD
open Option renaming none->Y,some->V
open Go.Value renaming slice->U,int->X,string->O,pointer->j2,agg->kx,bool->k0
open Bool renaming false->K,true->hG
open Go.IntKind renaming i64->J
open Go.Obj renaming cells->jj
open Go.Ending renaming returned->j3
open Or renaming inr->kp
open Go renaming World->kq
open Go.RowKit renaming Hid->kt
open Go.World renaming cell?->ku,ownsRow->kw
open ByteArray renaming empty->kB
open Go.Act renaming put->kG
namespace Go.Proofs.YtoihbhenbmffcaaGreat
open Go.RowKit Go.Proofs.Tryz
variable{n i:Nat}{s:zA}{w:kq}{z:Value}{c:kJ AY}{B:Bool}{g:UInt8}
def Uk(s:zA)(b:Nat)(a:Bool):(AK s b a).1.s.size<=s.size:=by
 unfold AK;split
 .exact fP _
 .split
  .split
   .exact fP _
   .split
    .exact Lh _ _ _
    .split
     .exact fP _
     .show(ByteArray.extract _ _ _).size<=_;rw[iA];omega
  .exact fP _
def Z3(s:zA)(b:Nat):∀t∈(Cy s b).1,t.s.size<=s.size:=by
 fun_induction Cy s b with
 |case1 b hc _ _ ih=>
  intro t a;rcases fx.1 a with rfl|a
  .exact Uk _ _ _
  .exact ih t a
 |case2 b hc=>
  intro t a;rw[ft]at a;subst a;exact Uk _ _ _
def eL(s:zA)(A:C8):Prop:=A.name.size<=s.size/\∀t∈A.args,t.s.size<=s.size
def Mi(s:zA)(c:Nat)(b:Bool):eL s (AV s c b).1:=by
 unfold AV;refine⟨Lh _ _ _,?_⟩;show∀t∈(Eo s _).1,_;unfold Eo;split
 .intro t a;cases a
 .exact Z3 _ _
def RF(s:zA):eL s Gz:=⟨fP _,λt a=>by cases a⟩
def W5(s:zA)(a:Nat):eL s (Dj s a).1.A:=by
 unfold Dj;simp only;split
 .exact Mi _ _ _
 .split
  .exact Mi _ _ _
  .unfold Hz;split
   .exact RF s
   .exact RF s
def ZY(s:zA)(b:Nat):∀x∈(Da s b).1,eL s x.A:=by
 fun_induction Da s b with
 |case1 b hc _ _ ih=>
  intro t a;rcases fx.1 a with rfl|a
  .exact W5 _ _
  .exact ih t a
 |case2 b hc=>
  intro t a;rw[ft]at a;subst a;exact W5 _ _
def fe(s:zA)(c:Cb):Prop:=eL s c.head/\∀x∈c.body,eL s x.A
def I6(s:zA)(b:Nat):fe s (Ao s b).1:=by
 unfold Ao;refine⟨Mi _ _ _,?_⟩;show∀x∈(DG s _ _).1,_;unfold DG;split
 .split
  .exact ZY _ _
  .intro x a;cases a
 .intro x a;cases a
def F9(s:zA)(b:Nat):∀c∈(Ar s b).1,fe s c:=by
 fun_induction Ar s b with
 |case1 b ha hc ih=>
  intro c a;rcases fx.1 a with rfl|a
  .exact I6 _ _
  .exact ih c a
 |case2 b ha hc=>
  intro c a;rw[ft]at a;subst a;exact I6 _ _
 |case3 b ha=>intro c a;cases a
def Ly:∀(k:Nat) (x:zA),(Ko k x).size<=x.size+k
 |0,x=>fJ _
 |k+1,x=>by
  rw[Ko];split
  .have h:=Ly k (Pn++x);have a:Pn.size=1:=rfl;rw[fV,a]at h;omega
  .omega
def NT(x:zA):(AA x).size<=x.size+3:=by
 unfold AA;split
 .exact Ly 3 x
 .omega
def OJ(cs ds:kJ AY):Prop:=∀c∈cs,∃d∈ds,d.head=c.head/\Ak d=Ak c
def OJ.inst{a f:kJ AY}(h:OJ a f){i:GE Ag}(l:Fj a i):Fj f i:=by
 obtain⟨c,k,σ,b,rfl⟩:=l;obtain⟨d,g,j,e⟩:=h c k;refine⟨d,g,σ,?_,?_⟩
 .unfold Ti at b⊢;rw[e];exact b
 .unfold DL;rw[j,e]
def OJ.consts{b e:kJ AY}(h:OJ b e){x:zA}(a:x∈consts b):x∈consts e:=by
 unfold Go.Proofs.YtoihbhenbmffcaaGreat.consts at a⊢;obtain⟨c,i,a⟩:=gc.1 a;obtain⟨d,f,g,_⟩:=h c i;exact gc.2 ⟨d,f,by rw[g];exact a⟩
def OJ.factIn{b g:kJ AY}(h:OJ b g){f:Ag}(a:FV b f):FV g f:=by
 refine⟨?_,λx l=>h.consts (a.args x l)⟩;obtain⟨c,k,e⟩:=a.ze;obtain⟨d,i,j,_⟩:=h c k;exact⟨d,i,by rw[j];exact e⟩
def OJ.inv{a b:kJ AY}(h:OJ a b)(g:OJ b a){L:zA->Nat}{s:kJ Ag}(c:Jj a L n s):Jj b L n s:=by
 have e:Fj a=Fj b:=funext λi=>propext ⟨h.inst,g.inst⟩
 exact⟨by rw[<-e];exact c.work,c.zH,λf d=>h.factIn (c.zX f d)⟩
def OJ.zR{g i:kJ AY}(l:OJ i g){L:zA->Nat}(j:Dl g L):Dl i L:=by
 refine⟨λd e x b a=>?_,λd e x b a=>?_⟩<;>obtain⟨c,h,f,k⟩:=l d e
 .rw[<-f];exact j.pos c h x (by rw[k];exact b) a
 .rw[<-f];exact j.neg c h x (by rw[k];exact b) a
def RR(H:s.size<=300){n:kJ PC}{g:kJ CB}(i:CR (Ez s) 0 []=.ok n)(j:g.map CB.pc=n)(E:Cv w z g){r:Int×Int}(C:Ey s (ep s) r)(y:r.1=0):
  r=(0,0)/\∃a:kJ AY,a.map AY.erase=(Ar s (Ae s 0)).1/\Ih g a:=by
 have h:=KN s;rw[i]at h;have d:((Ar s (Ae s 0)).1.map Vi).map AY.erase=(Ar s (Ae s 0)).1:=by
  rw[gR]
  conv=>rhs;rw[<-List.map_id (Ar s (Ae s 0)).1]
  exact gN λc _=>Ok c
 generalize(Ar s (Ae s 0)).1.map Vi=a at d;have F:Ed s (CD a).1 (CD a).2:=by
  unfold Ed;rw[fB (by omega),fB (by rw[h.1];simp)];exact⟨a,d,rfl⟩
 have t:=Nn F C;have o:CD a=(0,0):=Hk (by rw[<-show r.1=(CD a).1 by rw[t]];exact y);refine⟨by rw[t,o],a,d,?_⟩;have G:=(Mq s).1;have B:=Jc (by omega) _ 0 [] (fJ _) (by simp) i;have u:g.map CB.pc=a.map λr=>bF r.erase:=by
  rw[j,h.2.1,<-d,gR];rfl
 have m:∀c∈g,JB c.pc:=λc f=>B.1 _ (by rw[<-j];exact fC.2 ⟨c,f,rfl⟩)
 refine⟨(F2.of_map u).mono (λc f b l k=>bE k (m c f) (E.each c f).wf ?_),F8 h.1 d o,m,λc f=>?_⟩
 .exact h.2.2 b.erase (by rw[<-d];exact fC.2 ⟨b,l,rfl⟩)
 .obtain⟨b,l,k⟩:=(F2.of_map u).zo c f;have q:=F9 s (Ae s 0) b.erase (by rw[<-d];exact fW l);refine⟨?_,λp i=>?_⟩
  .have e:c.hn=b.erase.head.name:=congrArg PC.hn k;rw[e];have:=q.1.1;omega
  .have e:c.zE.map Prod.fst=b.erase.body.map L1:=congrArg PC.body k;(have j:p.1∈b.erase.body.map L1:=by rw[<-e];exact fW i);obtain⟨x,D,v⟩:=fC.1 j;rw[<-v];have:=(q.2 x D).1;show x.A.name.size<=_;omega
def Ku(x:zA):AG:=⟨0,x⟩
def Tg(f:Ag):C8:=⟨f.name,f.args.map Ku,0⟩
def Gi(f:Ag)(c:AY):Prop:=c.head=Tg f/\c.bl=[]/\c.at_=0
structure D0(cs:kJ AY)(f:Ag):Prop where
 canon:AQ f
 name:A1 f.name
 ne:f.args≠[]
 two:Z f.args<=2
 ar:B3 cs f.name=(Z f.args:Int)
 zC:∀x∈f.args,x∈Bc cs
def YE{a:kJ AY}(h:BI a):Z (DX a)<=6:=by
 cases a with
 |nil=>exact fP _
 |cons c l=>
  have b:=(Eh (h.each (Z l) (by simp))).2.2.2.1;rw[fo (by simp)]at b;exact b
def P5{a:kJ AY}(h:BI a):Z (Bc a)<=6:=by
 cases a with
 |nil=>exact fP _
 |cons c l=>
  have b:=(Eh (h.each (Z l) (by simp))).2.2.2.2.1;rw[fo (by simp)]at b;exact b
def Yw{a:kJ AY}(h:s∈consts a):s∈Bc a:=by
 rw[(IR a).mem,(Dz _).2];unfold consts at h;obtain⟨c,f,g⟩:=gc.1 h;obtain⟨t,e,rfl⟩:=fC.1 g;obtain⟨d,b⟩:=fT.1 e;refine gc.2 ⟨c,f,fC.2 ⟨t,fT.2 ⟨?_,b⟩,rfl⟩⟩;unfold Fb;exact ij _ d
def Pm{b:kJ AY}(h:B3 b s≠-1):s∈DX b:=by
 unfold B3 at h;cases hf:b.findSome? (FQ · s)with
 |none=>rw[hf]at h;exact absurd rfl h
 |some n=>
  obtain⟨c,i,e⟩:=List.exists_of_findSome?_eq_some hf;rw[LI,(Dz _).2];refine gc.2 ⟨c,i,?_⟩;unfold FQ at e;unfold GB;by_cases f:(c.head.name.toList==s.toList)=hG
  .rw[FG f];exact gJ ..
  .rw[fB f]at e;unfold QD at e;obtain⟨p,g,d⟩:=List.exists_of_findSome?_eq_some e;by_cases a:(On p&&(p.1.A.name.toList==s.toList))=hG
   .rw[fU]at a;exact gu _ (fC.2 ⟨p,fT.2 ⟨g,a.1⟩,FG a.2⟩)
   .rw[fB a]at d;cases d
def Q3(cs:kJ AY):kJ Ag:=(DX cs).flatMap λn=>(D3 (Bc cs) 0++D3 (Bc cs) 1++D3 (Bc cs) 2).map (Ag.mk n)
def UB(h:BI c):Z (Q3 c)<=258:=by
 have b:=P5 h;have f:=YE h;have d:Z (D3 (Bc c) 0++D3 (Bc c) 1++D3 (Bc c) 2)<=43:=by
  simp only[fE,Ln];have e:Z (Bc c)^2<=6^2:=Nat.pow_le_pow_left b 2;simp only[Nat.pow_zero,Nat.pow_one];omega
 unfold Q3;have a:∀l:kJ zA,Z (l.flatMap λn=>(D3 (Bc c) 0++D3 (Bc c) 1++D3 (Bc c) 2).map (Ag.mk n))<=Z l*43:=by
  intro l
  induction l with
  |nil=>simp
  |cons x l ih=>
   rw[fN,fE,fH,fD,iz];omega
 have:=a (DX c);omega
def UK{f:Ag}(g:f.name∈DX c)(b:Z f.args<=2)(e:∀x∈f.args,x∈Bc c):f∈Q3 c:=by
 unfold Q3;refine gc.2 ⟨f.name,g,fC.2 ⟨f.args,?_,rfl⟩⟩;have a:=Nf (Bc c) f.args e;obtain⟨n,d⟩:=kK (Z f.args);rw[d]at a b
 match n,b,a with
 |0,_,a=>exact ij _ (ij _ a)
 |1,_,a=>exact ij _ (List.mem_append_right _ a)
 |2,_,a=>exact List.mem_append_right _ a
def D0.pool{f:Ag}(h:D0 c f):f∈Q3 c:=UK (Pm (by rw[h.ar];omega)) h.two h.zC
def Ve(h:BI c){u:kJ Ag}(b:u.Nodup)(a:∀f∈u,D0 c f):Z u<=258:=by
 have:=Kw u (Q3 c) b λf d=>(a f d).pool
 have:=UB h;omega
def R5{f:Ag}{c:AY}(h:Gi f c):Ak c=[]:=by unfold Ak;rw[h.2.1];rfl
def No{a b:kJ AY}(h:∀c∈b,c.bl=[]):∀(d:Nat) (x:zA),BJ (a++b) d x=BJ a d x
 |0,x=>rfl
 |d+1,x=>by
  have ih:BJ (a++b) d=BJ a d:=funext (No h d);show(a++b).foldl (Ht (BJ (a++b) d) x) 0=a.foldl (Ht (BJ a d) x) 0;rw[ih,gM];generalize a.foldl (Ht (BJ a d) x) 0=n
  induction b generalizing n with
  |nil=>rfl
  |cons c b ih2=>
   have e:Ht (BJ a d) x n c=n:=by
    unfold Ht;rw[h c (by simp)];unfold If;simp
   rw[fZ,e];exact ih2 (λc e=>h c (by simp[e])) (funext λy=>by
    exact No (λc e=>h c (by simp[e])) d y) n
def Ub{f e:kJ AY}(h:∀c∈e,c.bl=[]){L:zA->Nat}(i:Dl f L):Dl (f++e) L:=by
 have g:∀c∈e,Ak c=[]:=λc a=>by unfold Ak;rw[h c a];rfl
 refine⟨λc a x b d=>?_,λc a x b d=>?_⟩<;>rcases fA.1 a with a|a
 .exact i.pos c a x b d
 .rw[g c a]at b;cases b
 .exact i.neg c a x b d
 .rw[g c a]at b;cases b
def LO{k n:kJ AY}{u:kJ Ag}(C:BI k)(l:CX k)(E:F2 Gi u n)(o:∀f∈u,D0 k f)(R:Z u<=900):CX (k++n):=by
 have w:∀c∈n,c.bl=[]:=λc a=>by obtain⟨f,_,h⟩:=E.mem c a;exact h.2.1
 have z:∀c∈n,Ak c=[]:=λc a=>by unfold Ak;rw[w c a];rfl
 have m:∀c∈n,∃f∈u,c.head=Tg f:=λc a=>by obtain⟨f,i,h⟩:=E.mem c a;exact⟨f,i,h.1⟩
 have A:∀c∈k++n,B3 k c.head.name=(Z c.head.args:Int):=by
  intro c a;rcases fA.1 a with a|a
  .exact C.zi c a
  .obtain⟨f,i,e⟩:=m c a;rw[e];show B3 k f.name=(Z (f.args.map Ku):Int);rw[fH];exact(o f i).ar
 have F:=C.small;have N:BJ (k++n) 6=BJ k 6:=funext (No w 6);refine⟨⟨⟨?_,λc a=>?_⟩,λs M H=>?_,λc a d q e=>?_,λc a d q x b v e=>?_⟩,⟨⟨λc a x b v=>?_,λc a x b v=>?_,λc a t j=>?_⟩,?_,λc a t j I=>?_⟩,λc a x b=>?_,λc a=>?_⟩
 .rw[fE,<-E.lenX];have:=F.1;omega
 .rcases fA.1 a with a|a
  .exact F.2 c a
  .obtain⟨f,i,e⟩:=m c a;rw[w c a,e];refine⟨by simp,?_,λp l=>by cases l⟩;show Z (f.args.map Ku)<=2;rw[fH];exact(o f i).two
 .have B:=Kw s (Q3 k) M λf i=>by
   obtain⟨c,a,P,L⟩:=(H f i).ze;have Q:f.name∈DX k:=Pm (by rw[P,A c a];omega);refine UK Q ?_ λx b=>?_
   .rw[L];rcases fA.1 a with a|a
    .exact(F.2 c a).2.1
    .obtain⟨g,D,e⟩:=m c a;rw[e];show Z (g.args.map Ku)<=2;rw[fH];exact(o g D).two
   .have b:=(H f i).args x b;unfold consts at b;obtain⟨c,a,G⟩:=gc.1 b;rcases fA.1 a with a|a
    .refine Yw ?_;unfold consts;exact gc.2 ⟨c,a,G⟩
    .obtain⟨g,D,e⟩:=m c a;rw[e]at G;obtain⟨t,j,rfl⟩:=fC.1 G;obtain⟨y,r,rfl⟩:=fC.1 (fT.1 j).1;exact(o g D).zC y r
  have:=UB C;omega
 .have B:=A c a;rw[e,A d q]at B;omega
 .rcases fA.1 q with q|q
  .have B:=A c a;rw[e,C.zw d q x b v]at B;omega
  .rw[z d q]at b;cases b
 .rcases fA.1 a with a|a
  .exact l.prog.zN.args c a x b v
  .rw[z c a]at b;cases b
 .rcases fA.1 a with a|a
  .exact l.prog.zN.safe c a x b v
  .rw[z c a]at b;cases b
 .rcases fA.1 a with a|a
  .exact l.prog.zN.head c a t j
  .obtain⟨f,i,e⟩:=m c a;rw[e]at j;obtain⟨y,r,rfl⟩:=fC.1 j;exact Or.inl rfl
 .rw[N];exact Ub w l.prog.lay
 .rcases fA.1 a with a|a
  .exact l.prog.zL c a t j I
  .obtain⟨f,i,e⟩:=m c a;rw[e]at j;obtain⟨y,r,rfl⟩:=fC.1 j;exact(o f i).canon y r
 .rcases fA.1 a with a|a
  .exact l.lits c a x b
  .rw[z c a]at b;cases b
 .rcases fA.1 a with a|a
  .exact l.zL c a
  .obtain⟨f,i,e⟩:=m c a;rw[e];refine⟨(o f i).name,λt j=>?_⟩;obtain⟨y,r,rfl⟩:=fC.1 j;exact Or.inl ⟨rfl,(o f i).canon y r⟩
def aK{b d:kJ AY}{u:kJ Ag}(i:∀c∈b,c.head.args≠[])(e:F2 Gi u d)(j:∀f∈u,D0 b f):∀c∈b++d,c.head.args≠[]:=by
 intro c a;rcases fA.1 a with a|a
 .exact i c a
 .obtain⟨f,g,h⟩:=e.mem c a;rw[h.1];intro k;exact(j f g).ne (List.map_eq_nil_iff.1 k)
def RJ{k j l i:kJ AY}{u:kJ Ag}(h:OJ k j)(n:F2 Gi u l)(p:F2 Gi u i):OJ (k++l) (j++i):=by
 intro c a;rcases fA.1 a with a|a
 .obtain⟨d,b,e⟩:=h c a;exact⟨d,ij _ b,e⟩
 .obtain⟨f,o,g⟩:=n.mem c a;obtain⟨d,b,m⟩:=p.zo f o;exact⟨d,List.mem_append_right _ b,by rw[g.1,m.1],by rw[R5 g,R5 m]⟩
set_option maxRecDepth 100000
theorem YN(h:Option Addr)(f:Nat)(l:kJ zA)(x:zA)(m:Nat)(w:kq)(i:kw w m 98 1 (U h (Z l) f) (Z l) (l.flatMap Ah))(s:Z l<=1000000)(j:Cz Fe l):
  Calls prog 40 #[U h (Z l) f,O x] w λe k=>e=j3 (k0 (Ig l x))/\k=w:=by
 have o:=Ab (M2 (U h (Z l) f) l 0 x m w i s (fP _) j);have t:=Ab j;have u:=Ab i;clear i j;go_enter func40,ntmps40;go_wp2_with fail
 refine o.mono ?_;rintro e k ⟨b,rfl,c,rfl⟩;have q:=Ab (c.inS t);have y:=c.le;clear o c;by_cases a:b<Z l
 .obtain⟨g,v,p,z,n⟩:=AC u (by simp[Ah]) b a;simp only[fg]at p;obtain⟨rfl,_,rfl⟩:=p;have r:=n b a 0 (by omega);simp[Ah]at r;clear n;have d:kt (Ig l x=dn l[b] x):=by show _=_;rw[<-Aa q];unfold DY;rw[dif_pos a]
  go_wp2;go_ret;rw[d.out];exact⟨rfl,rfl⟩
 .have d:kt (Ig l x=K):=by show _=_;rw[<-Aa q];unfold DY;rw[dif_neg a]
  go_wp2;go_ret;rw[d.out];exact⟨rfl,rfl⟩
def ax:Cz Fe ([]:kJ zA):=by
 intro i j a
 first|exact absurd a (by simp)|simp at a|(intro;simp_all)
def MW(pcs:kJ CB)(w:kq)(e:Ending)(w':kq):Prop:=∃(l:kJ zA) (ad:Option Addr) (cp:Nat),e=j3 (U ad (Z l) cp)/\kw w' 0 98 1 (U ad (Z l) cp) (Z l) (l.flatMap Ah)/\Z l<=900000/\Cz Fe l/\(∀y,y∈l↔y∈pcs.flatMap Ct)/\Ac [] w w'
theorem SN(AT:Option Addr)(AR:Nat)(a:kJ CB)(w:kq)(h:Cv w (U AT (Z a) AR) a)(HA:Z a<=12)(T:∀c∈a,Js c/\Z (A5 c)<=70000):
  Calls prog 39 #[U AT (Z a) AR] w (MW a w):=by
 have HP:=Ab h;have EK:=Ab T;obtain⟨N,hN⟩:=kK w.heap.size;have W:=Ab hN;clear h T hN;go_enter func39,ntmps39;go_wp2_with fail
 go_loopg [3,8] (Z a) (λgk lv i wr=>∃(k:Nat) (l:kJ zA) (f:Option Addr) (j:Nat),lv=U f (Z l) j/\i=X J k/\k<=Z a/\gk=Z a-k/\kt (kw wr N 98 1 (U f (Z l) j) (Z l) (l.flatMap Ah))/\kt (Z l<=k*70000)/\kt (Cz Fe l)/\kt (∀y,y∈l↔y∈(a.take k).flatMap Ct)/\kt (Ac [] w wr))
 case atStart=>exact⟨0,[],Y,0,rfl,rfl,by omega,rfl,fK _ _ _ _,by show _<=_;simp,ax,λy=>by simp,kL _ _⟩
 case round=>
  obtain⟨k,l,f,j,rfl,rfl,hk,R,B,E,I,H,q⟩:=hrel;have HG:=Ab R;clear R;have FP:Z l<=840000:=by have:=Aa E;omega
  by_cases C:k<Z a
  ·(have HC:(k:Int)<(Z a:Int):=by omega);(have Go:(0:Int)<=(k:Int):=by omega);obtain⟨g,Ha,o,r,b,p,n,m,u,d,he,P,e0,e1,e2,e3⟩:=EP (HP.kept q) k C;have M:=(HP.kept q).each _ (fj C);have L:=Aa EK _ (fj C);rw[P]at M L;simp only[fg]at he;obtain⟨rfl,-,rfl⟩:=he;have S:kt (Calls prog 79 #[U f (Z l) j,kx #[X J o,O r,U p (Z b) n,U m (Z d) u]] (wr.alloc (jj #[X J o,O r,U p (Z b) n,U m (Z d) u] 120)) λe w'=>∃z F G,e=j3 (U F (Z z) G)/\G8 N (U f (Z l) j) l (A5 ⟨o,r,b,U p (Z b) n,U m (Z d) u,d⟩) (wr.alloc (jj #[X J o,O r,U p (Z b) n,U m (Z d) u] 120)) z F G w'):=Ky ⟨o,r,b,U p (Z b) n,U m (Z d) u,d⟩ f j l N _ (M.kept ((kL [] wr).alloc _)) L.1 (by omega) (Ad (Aa B) ((kL [] wr).alloc _)) (by omega) I (by have:=q.size;have:=Aa W;simp;omega);have Q:kt (∀y,y∈(a.take (k+1)).flatMap Ct↔y∈(a.take k).flatMap Ct\/∃t∈A5 ⟨o,r,b,U p (Z b) n,U m (Z d) u,d⟩,t.v=0/\t.s=y):=by
    intro y;rw[fm C,fR,fA,P];simp only[fN,gI,gd];refine or_congr Iff.rfl ?_;unfold Ct;constructor
    .intro h;obtain⟨t,ht,rfl⟩:=fC.1 h;obtain⟨A,D⟩:=fT.1 ht;exact⟨t,A,by simpa using D,rfl⟩
    .rintro ⟨t,A,D,rfl⟩;exact fC.2 ⟨t,fT.2 ⟨A,by simpa using D⟩,rfl⟩
   have Bx:=Ab L.2;have Ax:=Ab (q.alloc (jj #[X J o,O r,U p (Z b) n,U m (Z d) u] 120));clear M L P;(go_wp2_with fail);refine S.mono ?_;rintro _ w3 ⟨z,F,G,rfl,x⟩;have EY:=Ab x.own;have EX:=Ab x.zH;(have B9:kt (Z z<=(k+1)*70000):=by have A:=x.le;have D:=Aa E;have h3:=Aa Bx;show _<=_;omega);have FA:kt (∀y,y∈z↔y∈(a.take (k+1)).flatMap Ct):=by
    intro y;rw[x.mem y,Q y,H y];exact Or.comm
   have FO:=Ab (Ax.trans' x.kept (λi hi=>by
    simp only[jx]at hi
    have A:=(World.ownsRow.lt (Aa B) i hi).1
    have:=Aa W
    exact kp (by omega)))
   clear S x B E I H q Q Bx Ax e0 e1 e2 e3;go_wp2_with fail
   go_roundg (Z a-(k+1))
   case measure=>have:=Aa HG;omega
   case rel=>exact⟨k+1,z,F,G,rfl,by go_num,by omega,rfl,EY,B9,EX,FA,FO⟩
  ·(obtain rfl:k=Z a:=by omega);have FB:kt (MW a w (j3 (U f (Z l) j)) wr):=⟨l,f,j,rfl,Al (Aa B) (fP _),by omega,I,λy=>by have h:=Aa H y;rw[gT]at h;exact h,q⟩;clear B E I H q;(go_wp2_with fail);go_ret;exact FB
def tl(t:AG):Nat:=if t.v=0 then t.s.size else 1
def dq:kJ AG->Nat
 |[]=>0
 |t::l=>tl t+dq l
def Ri(h:(A3 s i K).2.2=K):i+(A3 s i K).1.size<=(A3 s i K).2.1/\(A3 s i K).2.1<=s.size:=by
 have b:=BR s i;by_cases a:AM Az s (Ae s i)=Ae s i\/4<AM Az s (Ae s i)-Ae s i
 .rw[DT rfl rfl a]at h;cases h
 .rw[JX rfl rfl a];have c:=NR (p:=Az) (s:=s) (i:=Ae s i) (λe=>a (Or.inl e));have d:=Cr Az s (Ae s i);simp only;rw[iA];omega
def Rq(h:(AK s i K).2.2=K):i+tl (AK s i K).1<=(AK s i K).2.1:=by
 have g:=BR s i;unfold AK at h⊢;rw[fB (by simp)]at h⊢;by_cases c:Ae s i<s.size
 .rw[dif_pos c]at h⊢;by_cases a:Dk s[Ae s i]=hG
  .rw[fF a]at h⊢;unfold tl;have f:s[Ae s i]≠0:=by
    intro e;rw[e]at a;exact absurd a (by decide)
   simp only[fB f];omega
  .rw[fB a]at h⊢;by_cases d:(!Aq s[Ae s i])=hG
   .rw[fF d]at h⊢;have:=(Ri h).1;unfold tl;simp only[if_true];omega
   .rw[fB d]at h⊢;by_cases b:3<AM Aq s (Ae s i)-Ae s i\/(s[Ae s i]=48/\1<AM Aq s (Ae s i)-Ae s i)
    .rw[fF b]at h;cases h
    .rw[fB b]at h⊢;have j:=Cr Aq s (Ae s i);unfold tl;simp only[if_true];rw[iA];omega
 .rw[dif_neg c]at h;cases h
def Vk{s:zA}{i:Nat}(h:(Cy s i).2.2=K):0<Z (Cy s i).1/\i+dq (Cy s i).1+Z (Cy s i).1<=(Cy s i).2.1+1:=by
 fun_induction Cy s i with
 |case1 i hc _ _ ih=>
  have d:=ih h;have a:(AK s i K).2.2=K:=by
   have:=hc.1;rw[fU]at this;simpa using this.1
  have b:=Rq a;have c:(AK s i K).2.1+1<=BW s (AK s i K).2.1 (AK s i K).2.2 44:=by
   unfold BW;rw[fF hc.1];have:=BR s (AK s i K).2.1;rw[a];unfold AN;simp;omega
  simp only[fD,dq];omega
 |case2 i hc=>
  have b:=Rq h;have c:=Eb s (AK s i K).2.1 (AK s i K).2.2 44;simp only[fD,gh,dq];omega
def Qe(h:(Bm s i B g).2=K):B=K/\i+1<=(Bm s i B g).1:=by
 unfold Bm at h⊢;simp only[Bool.not_eq_false']at h;have a:(!B&&DV s (AN s i B) g)=hG:=by simpa using h
 have b:B=K:=by rw[fU]at a;simpa using a.1
 refine⟨b,?_⟩;unfold BW;rw[fF a];subst b;have:=BR s i;unfold AN;simp;omega
def VH(h:(AV s i K).2.2=K):0<Z (AV s i K).1.args/\i+(AV s i K).1.name.size+dq (AV s i K).1.args+Z (AV s i K).1.args+1<=(AV s i K).2.1:=by
 unfold AV at h⊢;simp only at h⊢;obtain⟨a,b⟩:=Qe h;unfold Eo at a b⊢;have k:=BR s i;cases hm:(Bm s (A3 s (AN s i K) K).2.1 (A3 s (AN s i K) K).2.2 40).2 with
 |true=>rw[hm]at a;simp at a
 |false=>
  rw[hm]at a b;simp only[fq,if_false]at a b⊢;obtain⟨j,e⟩:=Qe hm;have g:=(Ri j).1;obtain⟨c,f⟩:=Vk a;have d:AN s i K=Ae s i:=rfl;rw[d]at e g c f b a⊢;refine⟨c,?_⟩;omega
def IN(h:(Ao s i).2.2=K):0<Z (Ao s i).1.head.args/\Ae s i+(Ao s i).1.head.name.size+dq (Ao s i).1.head.args+Z (Ao s i).1.head.args+2<=(Ao s i).2.1/\
  ((Ao s i).1.body≠[]->Ae s i+(Ao s i).1.head.name.size+dq (Ao s i).1.head.args+Z (Ao s i).1.head.args+3<=(Ao s i).2.1):=by
 unfold Ao at h⊢;simp only at h⊢;obtain⟨a,b⟩:=Qe h;have f:=(Lm a).1;obtain⟨d,k⟩:=VH f;unfold DG at a b⊢;by_cases e:(!(AV s (Ae s i) K).2.2&&DV s (AN s (AV s (Ae s i) K).2.1 (AV s (Ae s i) K).2.2) 58)=hG
 .rw[fF e]at a b⊢;by_cases c:DV s (BW s (AV s (Ae s i) K).2.1 (AV s (Ae s i) K).2.2 58) 45=hG
  .rw[fF c]at a b⊢;have g:=Eb s (AV s (Ae s i) K).2.1 (AV s (Ae s i) K).2.2 58;have j:=Uw s (BW s (AV s (Ae s i) K).2.1 (AV s (Ae s i) K).2.2 58+1);refine⟨d,by omega,λ_=>by omega⟩
  .rw[fB c]at a;cases a
 .rw[fB e]at a b⊢;have g:=Eb s (AV s (Ae s i) K).2.1 (AV s (Ae s i) K).2.2 58;simp only at b⊢;exact⟨d,by omega,λh=>absurd rfl h⟩
def NP:∀(a:kJ zA) (s:zA) (b:Bool),(Dq s b a).size=s.size+Z a+(a.map λx=>(BN x).size).sum
 |[],s,b=>by simp[Dq]
 |x::a,s,b=>by
  rw[Dq,NP a,fV,fV];have:(if b=hG then(⟨#[44]⟩:zA)else⟨#[40]⟩).size=1:=by cases b<;>rfl
  rw[this];simp;omega
def YL(n:zA)(a:kJ zA):(Fi ⟨n,a⟩).size=n.size+Z a+(a.map λx=>(BN x).size).sum+2:=by
 unfold Fi;rw[fV,NP];rfl
def Z8{t:AG}(h:CS t):(BN (ct t).s).size+(if t.v=0 then 0 else 1)=tl t:=by
 unfold tl;rcases h with⟨a,c⟩|⟨b,_,d⟩
 .rw[fF a,fF a];show(BN (Dx t.s)).size+0=_;rw[ID c,G6 c];rfl
 .have a:t.v≠0:=by intro e;rw[e]at b;exact absurd b (by decide)
  rw[fB a,fB a];show(BN (Dx t.s)).size+1=1;rw[d];have e:Dx kB=kB:=by unfold Dx;rw[fF (show ByteArray.empty.size=0 from rfl)]
  rw[e];have a:=JK (k:=ByteArray.empty.size) (s:=kB) (by decide);unfold BN;split
  .rw[a];rfl
  .rfl
def RN:∀(a:kJ AG),(∀t∈a,CS t)->((a.map ct).map λt=>(BN t.s).size).sum<=dq a/\(dq a<=((a.map ct).map λt=>(BN t.s).size).sum->∀t∈a,t.v=0)
 |[],_=>⟨by simp[dq],λ_ t f=>by simp at f⟩
 |t::a,h=>by
  have d:=Z8 (h t (by simp));obtain⟨g,e⟩:=RN a (λx b=>h x (by simp[b]));simp only[fS,List.sum_cons,dq];refine⟨by omega,λi=>?_⟩;by_cases c:t.v=0
  .rw[fF c]at d;intro x b;rcases fx.1 b with rfl|b
   .exact c
   .exact e (by omega) x b
  .rw[fB c]at d;omega
def dh(s:zA):Option Cg:=match CR (Ez s) 0 [] with
 | .ok [c]=>if((Fi ⟨c.hn,c.zD.map AO.s⟩).toList==s.toList)=hG then V ⟨c.hn,c.zD.map AO.s⟩else Y
 |_=>Y
def Zu(s:zA):Option Cg:=if 300<s.size then Y else(dh s).bind λp=>if 2<Z p.zC then Y else V p
def Sh{a:kJ AG}(h:∀t∈a,CS t)(d:∀t∈a,t.v=0):(a.map ct).map AO.s=(a.map (AJ BM)).map AA:=by
 rw[gR,gR];refine gN (λt b=>?_);simp only[Function.comp];show Dx t.s=AA (AJ BM t);unfold AJ;rw[fF (d t b)];rcases h t b with⟨_,e⟩|⟨c,_⟩
 .exact ID e
 .rw[d t b]at c;exact absurd c (by decide)
def RT(h:(Ao s i).2.2=K)(d:∀t∈(Ao s i).1.head.args,t.v=0):AQ (Av BM (Ao s i).1.head)/\(Av BM (Ao s i).1.head).args≠[]:=by
 have f:=(Dd h).head;refine⟨λx j=>?_,?_⟩
 .obtain⟨t,a,rfl⟩:=fC.1 j;unfold AJ;rw[fF (d t a)];rcases f.args t a with⟨_,g⟩|⟨c,_⟩
  .exact g
  .rw[d t a]at c;exact absurd c (by decide)
 .intro e;have:=(IN h).1;have b:=congrArg List.length e;unfold Av at b;simp only[fH,gh]at b;omega
def Xs(h:(Ao s i).2.2=K)(a:∀t∈(Ao s i).1.head.args,t.v=0):Fi ⟨(Ao s i).1.head.name,((Ao s i).1.head.args.map ct).map AO.s⟩=EZ (Av BM (Ao s i).1.head):=by
 obtain⟨b,c⟩:=RT h a;rw[<-Sc b c,Sh (Dd h).head.args a];rfl
def Ik(h:KG s=hG):Zu s=V (Bn (CI s))/\AQ (CI s)/\(CI s).args≠[]:=by
 unfold KG at h;rw[fU]at h;obtain⟨k,j⟩:=h;have hF:CI s=Av BM (Ao s 0).1.head:=by unfold CI;rw[fF k]
 have A:EZ (CI s)=s:=FG j;unfold KP at k;simp only[fU,iK,it]at k;obtain⟨z,d,S,c4,D⟩:=k;obtain⟨T,W,R⟩:=IN d;have o:=(Dd d).head;have Ax:=I1 s 0 (fP _);have Q:s.size=(Ao s 0).1.head.name.size+Z (Ao s 0).1.head.args+((Ao s 0).1.head.args.map λt=>(AJ BM t).size).sum+2:=by
  have g:=congrArg ByteArray.size A;rw[hF]at g;rw[<-g];unfold EZ;rw[fV];have:∀(e:kJ zA) (b:Bool) (u:zA),(Fo u b e).size=u.size+(e.map ByteArray.size).sum+(if b then Z e else Z e-1):=by
   intro e
   induction e with
   |nil=>intro b u;cases b<;>simp[Fo]
   |cons x e ih=>
    intro b u;rw[Fo,ih,fV];have I:(⟨#[44]⟩:zA).size=1:=rfl;cases b
    .simp;omega
    .simp[fV,I];omega
  rw[this,fV];have y:(⟨#[40]⟩:zA).size=1:=rfl;have G:(⟨#[41,46]⟩:zA).size=2:=rfl;unfold Av;simp only[gR,fH,y,G,Function.comp_def];simp;omega
 have w:∀c:kJ AG,(∀t∈c,CS t)->(c.map λt=>(AJ BM t).size).sum<=dq c/\(dq c<=(c.map λt=>(AJ BM t).size).sum->∀t∈c,t.v=0):=by
  intro c
  induction c with
  |nil=>intro _;exact⟨by simp[dq],λ_ t j=>by simp at j⟩
  |cons t c ih=>
   intro H;obtain⟨M,E⟩:=ih (λx i=>H x (by simp[i]));have g:(AJ BM t).size+(if t.v=0 then 0 else 1)=tl t:=by
    unfold tl AJ;by_cases a:t.v=0
    .rw[fF a,fF a,fF a];rfl
    .rw[fB a,fB a,fB a];have:(BM.getD (t.v.toNat-65) kB).size=0:=by
      unfold BM;rw[fG,List.getElem?_replicate];split<;>rfl
     omega
   simp only[fS,List.sum_cons,dq];refine⟨by omega,λN=>?_⟩;by_cases a:t.v=0
   .rw[fF a]at g;intro x i;rcases fx.1 i with rfl|i
    .exact a
    .exact E (by omega) x i
   .rw[fB a]at g;omega
 obtain⟨P,C⟩:=w _ o.args;have l:=C (by omega);have F:Ae s 0=0:=by omega
 have q:(Ao s 0).2.1=s.size:=by omega
 obtain⟨n,m⟩:=RT d l;rw[<-hF]at n m;refine⟨?_,n,m⟩;have L:Ar s (Ae s 0)=([(Ao s 0).1],(Ar s s.size).2):=by
  rw[F,Ar,dif_pos (by omega),dif_pos ⟨d,by rw[d,q,P9 _ _ (by omega)];omega⟩];rw[d,q,P9 _ _ (by omega)];have:(Ar s s.size).1=[]:=by rw[Ar,dif_neg (by omega)]
  rw[this]
 have f:=KN s;rw[L]at f;have r:(Ar s s.size).2=(s.size,K):=by rw[Ar,dif_neg (by omega)]
 rw[r]at f;unfold Zu dh;rw[fB z];cases hp:CR (Ez s) 0 [] with
 |error p=>rw[hp]at f;exact absurd f.1 (by simp)
 |ok cs=>
  rw[hp]at f;obtain⟨_,rfl,_⟩:=f;simp only[fS,iV];have B:=Xs d l;show Option.bind (if((Fi ⟨(Ao s 0).1.head.name,((Ao s 0).1.head.args.map ct).map AO.s⟩).toList==s.toList)=hG then V (⟨(Ao s 0).1.head.name,((Ao s 0).1.head.args.map ct).map AO.s⟩:Cg)else Y) _=_;rw[B,<-hF,fF j];simp only[Option.bind_some];rw[fB (by simp only[fH];exact D),Sh o.args l,hF];rfl
def Yh{p:Cg}(h:Zu s=V p):KG s=hG:=by
 unfold Zu at h;by_cases n:300<s.size
 .rw[fF n]at h;cases h
 .rw[fB n]at h;have r:=KN s;unfold dh at h;cases hp:CR (Ez s) 0 [] with
  |error q=>rw[hp]at h;simp at h
  |ok cs=>
   rw[hp]at h r;obtain⟨k,a,_⟩:=r;cases hcs:(Ar s (Ae s 0)).1 with
   |nil=>rw[hcs]at a;subst a;simp at h
   |cons c rest=>
    cases rest with
    |cons d rest=>rw[hcs]at a;subst a;simp at h
    |nil=>
     rw[hcs]at a;subst a;simp only[fS,iV]at h;by_cases g:((Fi ⟨(bF c).hn,(bF c).zD.map AO.s⟩).toList==s.toList)=hG
     .rw[fF g]at h;simp only[Option.bind_some]at h;by_cases i:2<Z ((bF c).zD.map AO.s)
      .rw[fF i]at h;cases h
      .have B:Fi ⟨(bF c).hn,(bF c).zD.map AO.s⟩=s:=FG g;have y:Ae s 0<s.size:=by
        by_cases o:Ae s 0<s.size
        .exact o
        .rw[Ar,dif_neg o]at hcs;cases hcs
       have L:c=(Ao s (Ae s 0)).1/\(Ao s (Ae s 0)).2.2=K:=by
        rw[Ar,dif_pos y]at hcs k;by_cases m:(Ao s (Ae s 0)).2.2=K/\Ae s 0<AN s (Ao s (Ae s 0)).2.1 (Ao s (Ae s 0)).2.2
        .rw[dif_pos m]at hcs;simp only[iH]at hcs;exact⟨hcs.1.symm,m.1⟩
        .rw[dif_neg m]at hcs k;simp only[iH]at hcs;exact⟨hcs.1.symm,k⟩
       obtain⟨f,b⟩:=L;obtain⟨H,u,j⟩:=IN b;have v:=(Dd b).head;have I:=I1 s (Ae s 0) (by omega);rw[<-f]at H u j v;have N:s.size=c.head.name.size+Z c.head.args+((c.head.args.map ct).map λt=>(BN t.s).size).sum+2:=by
        rw[<-B];show(Fi ⟨c.head.name,(c.head.args.map ct).map AO.s⟩).size=_;rw[YL];simp[gR,Function.comp_def]
       obtain⟨M,C⟩:=RN _ v.args;have D:Ae s 0<=Ae s (Ae s 0):=BR _ _;have A:=C (by omega);(have F:Ae s 0=0:=by omega);rw[F]at f b u j I D;(have G:(Ao s 0).2.1=s.size:=by omega);have z:c.body=[]:=by
        cases hbb:c.body with
        |nil=>rfl
        |cons x l=>have:=j (by rw[hbb];simp);omega
       have w:KP s=hG:=by
        unfold KP;rw[b,G,ic n,<-f,z];have E:¬2<Z c.head.args:=by
         (have e:Z ((bF c).zD.map AO.s)=Z c.head.args:=by show Z ((c.head.args.map ct).map AO.s)=_;simp);rw[e]at i;exact i
        simp[E]
       unfold KG;rw[w,ii];unfold CI;rw[fF w,<-Xs b (by rw[<-f];exact A),<-f];exact g
     .rw[fB g]at h;simp at h
def dR(s:zA):Zu s=if KG s=hG then V (Bn (CI s))else Y:=by
 cases h:KG s with
 |true=>rw[fF rfl];exact(Ik h).1
 |false=>
  rw[fB (by simp)];cases hl:Zu s with
  |none=>rfl
  |some p=>rw[Yh hl]at h;cases h
def TN(x:zA):(Dx x).size<=x.size+3:=by
 unfold Dx;split
 .omega
 .split
  .split
   .exact Ly 3 x
   .rw[fV];have:(⟨#[0]⟩:zA).size=1:=rfl;omega
  .omega
def Jz(o:Option Cg)(w:kq)(e:Ending)(w':kq):Prop:=∃(p:DF),e=j3 (.tuple #[kx (j1 (AI p)),k0 o.isSome])/\(∀f,o=V f->p.f=f)/\Dc w' p/\Z p.f.zC<=1000/\Ac [] w w'
def Jz.none(w a:kq)(k:Ac [] w a):Jz Y w (j3 (.tuple #[kx #[O ⟨#[]⟩,U Y 0 0],k0 K])) a:=
 ⟨⟨⟨⟨#[]⟩,[]⟩,U .none 0 0⟩,rfl,(λf h=>by cases h),fK _ _ _ _,fP _,k⟩
theorem Sp(s:zA)(w:kq)(hs:s.size<=300):
  Calls prog 78 #[O s] w λe w'=>Jz (dh s) w e w':=by
 obtain⟨i0,SL,Pl,S0,SB⟩:=gH Tryz.info98;have E:dh s=match CR (Ez s) 0 [] with
  | .ok [c]=>if((Fi ⟨c.hn,c.zD.map AO.s⟩).toList==s.toList)=hG then V ⟨c.hn,c.zD.map AO.s⟩else Y
  |_=>Y:=rfl
 have FP:kt (∀cs,CR (Ez s) 0 []=.ok cs->∀y:kJ CB,y.map CB.pc=cs->∀c∈y,c.hn.size<=1000000/\Z c.zD<=1000/\∀t∈c.zD,t.s.size<=1000000):=by
  intro cs LC y hm c hc;have L:=MH hs LC hm;have TS:=(L.fit c hc).pc.head.2;have MY:=KN s;rw[LC]at MY;obtain⟨g1,g2,_⟩:=MY;have LB:c.pc∈cs:=by rw[<-hm];exact fW hc
  rw[g2]at LB;obtain⟨r,hr,L0⟩:=fC.1 LB;have hz:=(F9 s (Ae s 0) r hr).1;have e1:r.head.name=c.hn:=congrArg PC.hn L0;have e2:r.head.args.map ct=c.zD:=congrArg PC.zD L0;refine⟨by rw[<-e1];have:=hz.1;omega,TS,λt ht=>?_⟩;rw[<-e2]at ht;obtain⟨u,hu,rfl⟩:=fC.1 ht;show(Dx u.s).size<=_;have I:=TN u.s;have h2:=hz.2 u hu;omega
 obtain⟨N,hN⟩:=kK w.heap.size;have HN:=Ab hN;have HC:=Ab ((kL [] w).alloc (jj [O ⟨#[]⟩,U Y 0 0].toArray 56));have B9:=Ab (kN w [O ⟨#[]⟩,U Y 0 0] 56);rw[hN]at B9;clear hN;go_enter func78,ntmps78;refine kI (λKK H7=>?_);go_wp2;refine H7 _ _ ?_;clear H7 KK;rw[Aa HN];change Code.wp _ _ _ _ (w.alloc (jj [O ⟨#[]⟩,U Y 0 0].toArray 56));generalize w.alloc (jj [O ⟨#[]⟩,U Y 0 0].toArray 56)=w1 at HC B9⊢;have NS:=Ab (Je s w1 hs);have Nx:kt (∀M,Ac [] w1 M->dh s=Y->Jz (dh s) w (j3 (.tuple #[kx [O ⟨#[]⟩,U Y 0 0].toArray,k0 K])) ((M.setCell ⟨N,0,Y⟩ (O ⟨#[]⟩)).setCell ⟨N,1,Y⟩ (U Y 0 0))):=λM hk h=>by
  rw[h];exact Jz.none _ _ (((HC.trans hk).setCell (p:=⟨N,0,Y⟩) (kp (by have:=Aa HN;show _<=N;omega)) _).setCell (p:=⟨N,1,Y⟩) (kp (by have:=Aa HN;show _<=N;omega)) _)
 go_wp2_with fail
 refine NS.mono ?_;intro e w2 EX;clear NS;cases hp:CR (Ez s) 0 [] with
 |error p=>
  rw[hp]at EX E;obtain⟨rfl,A⟩:=EX;have G:kt (dh s=Y):=E;have j:=Ab (B9.kept A);have R:=j.cell 0;have P:=j.cell 1;have z0:=j.frozen 0;have z1:=j.frozen 1;simp at R P;have FF:=Ab A;clear hp E FP A;go_wp2;refine fL (An rfl (by rfl) ((j.set 0 _).set 1 _) underlying56 rfl (by kernel_rfl)) rfl ?_;exact Nx _ FF G
 |ok cs=>
  rw[hp]at EX E;obtain⟨ad,cp,y,rfl,AR,FT,A⟩:=EX;have HR:Z cs=Z y:=by rw[<-AR];simp
  rw[HR]at FT⊢;obtain⟨FB,M0⟩:=FT.into;have j:=Ab (B9.kept A);have R:=j.cell 0;have P:=j.cell 1;have z0:=j.frozen 0;have z1:=j.frozen 1;simp at R P;have FF:=Ab A;by_cases I:Z y=1
  .obtain⟨c,rfl⟩:∃c,y=[c]:=List.length_eq_one_iff.1 I;obtain⟨g,W1,YP,b,a,NM,HD,VR,UO,TV,he,IS,d0,d1,d2,d3⟩:=EP FB 0 (by simp);simp only[jl]at IS;simp only[fg]at he;obtain⟨rfl,-,rfl⟩:=he;have L:=Aa FP cs hp [c] AR c (by simp);have HZ:=(FB.each c (by simp)).head;have HI:dh s=if((Fi ⟨c.hn,c.zD.map AO.s⟩).toList==s.toList)=hG then V ⟨c.hn,c.zD.map AO.s⟩else Y:=by
    rw[E,<-AR];rfl
   subst IS;simp only at L HZ HI;simp only[List.length_singleton];have Jx:=Ab HI;have HO:=Ab HZ;have K6:=Ab L;have W0:=L.2.1;clear hp E FP AR FT FB M0 HR L HZ HI A I d0 d3;simp only[Nat.zero_mul,gE]at d1 d2;(have T:w.heap.size<=N:=by have:=Aa HN;omega);have S1:N<w2.heap.size:=j.lt;have H1:kt (AF (w2.setCell ⟨N,0,Y⟩ (O b)) N [O b,U Y 0 0] 56):=j.set 0 (O b);have HY:kt (Ac [] w (w2.setCell ⟨N,0,Y⟩ (O b))):=(HC.trans FF).setCell (p:=⟨N,0,Y⟩) (kp T) _;have HP:kt (kw (w2.setCell ⟨N,0,Y⟩ (O b)) 0 164 2 (U NM (Z a) HD) (Z a) (a.flatMap Ap)):=Af (Aa HO) (As (Aa HO) (Aa j) (by decide)) _;(go_wp2_with fail);generalize w2.setCell ⟨N,0,Y⟩ (O b)=w3 at H1 HY HP⊢;clear d1 d2 R P z0 z1 j HO B9 S1
   go_loopg [34] (Z a) (λgk i wr=>∃(k:Nat) (m:Option Addr) (o:Nat),i=X J k/\k<=Z a/\gk=Z a-k/\kt (AF wr N [O b,U m k o] 56)/\kt (kw wr (N+1) 98 1 (U m k o) k (((a.take k).map AO.s).flatMap Ah))/\kt (kw wr 0 164 2 (U NM (Z a) HD) (Z a) (a.flatMap Ap))/\kt (Ac [] w wr))
   case atStart=>exact⟨0,Y,0,rfl,by omega,rfl,H1,fK _ _ _ _,HP,HY⟩
   case round=>
    clear H1 HP HY;obtain⟨k,m,o,rfl,hk,NA,S,HX,HH,HK⟩:=hrel;have HG:=Ab NA;clear NA;by_cases EY:k<Z a
    .obtain⟨gt,W2,K9,_,HJ⟩:=AC HH (λc _=>rfl) k EY;simp only[fg]at K9;obtain⟨rfl,-,rfl⟩:=K9;have a0:=HJ k EY 0 (by omega);have a1:=HJ k EY 1 (by omega);obtain⟨⟨tv,v⟩,H2⟩:∃t,a[k]=t:=⟨_,rfl⟩;rw[H2]at a0 a1;simp[Ap]at a0 a1;have K2:kt (((a.take (k+1)).map AO.s).flatMap Ah=((a.take k).map AO.s).flatMap Ah++[O v]):=by
      show _=_;rw[fm EY,gn,fR,H2];rfl
     (have WB:(0:Int)<=(k:Int):=by omega);(have TT:(k:Int)<(Z a:Int):=by omega);have Q:=Ab ((kL [] wr).alloc (jj [X .i32 tv,O v].toArray 164));have CL:=Ab (kN wr [X .i32 tv,O v] 164);have H:=Ab (S.kept Q);have HS:=Ab (Ad HX Q);have FO:=Ab (Ad HH Q);have HL:=Ab (HK.trans Q);clear H2 HJ;refine kI (λK1 z=>?_);go_wp2;refine z _ _ ?_;clear z K1;refine kI (λK1 z=>?_);go_wp2;refine z _ _ ?_;clear z K1;refine kI (λK5 M1=>?_);refine wp_block ?_;refine kI (λK1 z=>?_);go_wp2;refine z _ _ ?_;clear z K1 a0 a1;change Code.wp _ _ _ _ (wr.alloc (jj [X .i32 tv,O v].toArray 164));generalize wr.alloc (jj [X .i32 tv,O v].toArray 164)=wa at Q CL H HS FO HL⊢;obtain⟨BT,Mo⟩:=kK wr.heap.size;rw[Mo]at CL⊢;clear Mo S HX HH HK;have b1:=H.cell 1;have f1:=H.frozen 1;have t1:=CL.cell 1;simp at b1 t1;have AH:=Aa HS;have VL:N+1<=wa.heap.size:=H.lt;go_wp2_with (at_builtin;refine fO _ rfl (.tmp 39) (.tmp 42) _ rfl (N+1) 98 i0 _ 1 16 underlying54 SL Pl S0 SB rfl (by omega) (U m k o) k (((a.take k).map AO.s).flatMap Ah) rfl (fw AH _) ⟨wa.heap.size,0,Y⟩ 1 1 [O v] rfl rfl (fM (fX wa _)) (by simp[Value.oneCell']) (by omega) (by unfold maxLen;omega) (by omega) (by simp;omega) (wa.heap.size+1) (by simp) ?_;intro D C w9 HW E0 NV Os;have W:=(H.alloc (jj #[O v] 98)).grown E0 (As AH H (by decide));have b9:=W.cell 1;have f9:=W.frozen 1;simp at b9)
     have Nq:kt (AF (w9.setCell ⟨N,1,Y⟩ (U (V ⟨D,0,Y⟩) (k+1) C)) N [O b,U (V ⟨D,0,Y⟩) (k+1) C] 56):=W.set 1 _;have KS:kt (kw (w9.setCell ⟨N,1,Y⟩ (U (V ⟨D,0,Y⟩) (k+1) C)) (N+1) 98 1 (U (V ⟨D,0,Y⟩) (k+1) C) (k+1) (((a.take (k+1)).map AO.s).flatMap Ah)):=by
      rw[Aa K2];exact Af HW (As HW W (by decide)) _
     have NL:kt (kw (w9.setCell ⟨N,1,Y⟩ (U (V ⟨D,0,Y⟩) (k+1) C)) 0 164 2 (U (V ⟨gt,0,Y⟩) (Z a) HD) (Z a) (a.flatMap Ap)):=by
      have h3:=gY (fw FO (jj #[O v] 98)) E0 (kp (λe=>Bg FO AH (by decide) gt rfl e.symm));exact Af h3 (As h3 W (by decide)) _
     have MB:kt (Ac [] w (w9.setCell ⟨N,1,Y⟩ (U (V ⟨D,0,Y⟩) (k+1) C))):=((HL.alloc (jj #[O v] 98)).grown E0 (λq hq=>kp (by have:=(AH.lt q hq).1;omega))).setCell (p:=⟨N,1,Y⟩) (kp T) _;generalize w9.setCell ⟨N,1,Y⟩ (U (V ⟨D,0,Y⟩) (k+1) C)=w10 at Nq KS NL MB⊢;clear HW E0 NV Os W b9 f9 b1 f1 t1 AH H HS FO HL CL Q K2
     try go_wp2
     refine M1 _ _ ?_;clear M1;go_wp2
     go_roundg (Z a-(k+1))
     case measure=>have:=Aa HG;omega
     case rel=>exact⟨k+1,V ⟨D,0,Y⟩,C,by go_num,by omega,rfl,Nq,KS,NL,MB⟩
    ·(have P0:k=Z a:=by omega);subst P0;obtain⟨n,BA⟩:=kK (a.map AO.s);(have NY:Z n=Z a:=by rw[<-BA,fH]);have HT:kt (Dc wr ⟨⟨b,n⟩,U m (Z a) o⟩):=by
      have h:=Aa HX;rw[gT,BA]at h;show kw wr 0 98 1 _ (Z n) _;rw[NY];exact Al h (fP _)
     have H4:=Aa K6;have Ha:=Ab (λM (hkz:Ac [] wr M)=>N7 ⟨⟨b,n⟩,U m (Z a) o⟩ M (HT.kept hkz) (by show Z n<=1000;omega) (λx hx=>by
      have LS:x∈n:=hx
      rw[<-BA]at LS
      obtain⟨t,ht,rfl⟩:=fC.1 LS
      exact H4.2.2 t ht) H4.1)
     simp only[AI]at Ha;have Go:=Aa Jx;rw[BA]at Go;obtain⟨TX,HU⟩:=kK (Fi ⟨b,n⟩);rw[HU]at Go;simp only[HU]at Ha;have K8:=Ab Go;have b0:=S.cell 0;have b1:=S.cell 1;simp at b0 b1;clear Go HU BA HX HH H4 Jx K6;(go_wp2_with fail);refine(Ha _ (kL _ _)).mono ?_;rintro _ w5 ⟨rfl,k5⟩;have F:=Ab (S.kept k5);have LM:=Ab (HK.trans k5);have RB:=Ab (HT.kept k5);have R:=F.cell 0;have P:=F.cell 1;have z0:=F.frozen 0;have z1:=F.frozen 1;simp at R P;clear Ha k5 b0 b1 S HK HT;cases heq:(TX.toList==s.toList)with
     |false=>
      (have NX:(TX.toList !=s.toList)=hG:=by simp only[bne,heq];rfl);have G:kt (dh s=Y):=by
       show _=_;rw[Aa K8,heq,fB (by simp)]
      have H3:kt (Jz (dh s) w (j3 (.tuple #[kx [O ⟨#[]⟩,U Y 0 0].toArray,k0 K])) ((w5.setCell ⟨N,0,Y⟩ (O ⟨#[]⟩)).setCell ⟨N,1,Y⟩ (U Y 0 0))):=by
       rw[Aa G];exact Jz.none _ _ ((LM.setCell (p:=⟨N,0,Y⟩) (kp T) _).setCell (p:=⟨N,1,Y⟩) (kp T) _)
      go_wp2;refine fL (An rfl (by rfl) ((F.set 0 _).set 1 _) underlying56 rfl (by kernel_rfl)) rfl ?_;exact H3
     |true=>
      (have NX:(TX.toList !=s.toList)=K:=by simp only[bne,heq];rfl);have G:kt (dh s=V ⟨b,n⟩):=by
       show _=_;rw[Aa K8,heq,fF rfl]
      have H3:kt (Jz (dh s) w (j3 (.tuple #[kx [O b,U m (Z a) o].toArray,k0 hG])) ((w5.setCell ⟨N,0,Y⟩ (O b)).setCell ⟨N,1,Y⟩ (U m (Z a) o))):=by
       rw[Aa G];refine⟨⟨⟨b,n⟩,U m (Z a) o⟩,rfl,λf h=>jD h,?_,by show Z n<=1000;omega,(LM.setCell (p:=⟨N,0,Y⟩) (kp T) _).setCell (p:=⟨N,1,Y⟩) (kp T) _⟩;have I:=Aa RB;have h2:=Af I (As (v1:=U m (Z a) o) I F (by decide)) (p:=⟨N,0,Y⟩) (O b);have h3:=F.set 0 (O b);exact Af h2 (As (v1:=U m (Z a) o) h2 h3 (by decide)) (p:=⟨N,1,Y⟩) (U m (Z a) o)
      go_wp2;refine fL (An rfl (by rfl) ((F.set 0 _).set 1 _) underlying56 rfl (by kernel_rfl)) rfl ?_;exact H3
  .have G:kt (dh s=Y):=by
    show _=_;rw[E]
    match cs,HR with
    |[],_=>rfl
    |[c],h=>simp at h;omega
    |c::d::l,_=>rfl
   (have WW:((Z y:Int) !=1)=hG:=by simp;omega);clear hp E FP A AR FT FB M0 I;go_wp2;refine fL (An rfl (by rfl) ((j.set 0 _).set 1 _) underlying56 rfl (by kernel_rfl)) rfl ?_;exact Nx _ FF G
theorem SF(s:zA)(w:kq)(BA:s.size<=9223372036854775807):
  Calls prog 37 #[O s] w λe Q=>Jz (Zu s) w e Q:=by
 obtain⟨N,C⟩:=kK w.heap.size;have F:=Ab C;have u:=Ab ((kL [] w).alloc (jj [O ⟨#[]⟩,U Y 0 0].toArray 56));have n:=Ab (kN w [O ⟨#[]⟩,U Y 0 0] 56);rw[C]at n;have v:w.heap.size<=N:=by omega
 clear C;by_cases H:300<s.size
 .have k:kt (Zu s=Y):=by show _=_;unfold Zu;rw[fF H]
  go_enter func37,ntmps37;go_wp2;rw[Aa F];refine fL (An rfl (by rfl) n underlying56 rfl (by kernel_rfl)) rfl ?_;rw[Aa k];exact Jz.none _ _ u
 .have I:=Ab (λwz=>Sp s wz (by omega));have m:kt (Zu s=(dh s).bind λp=>if 2<Z p.zC then Y else V p):=by show _=_;unfold Zu;rw[fB H]
  go_enter func37,ntmps37;refine kI (λr i=>?_);go_wp2;refine i _ _ ?_;clear i r;rw[Aa F];change Code.wp _ _ _ _ (w.alloc (jj [O ⟨#[]⟩,U Y 0 0].toArray 56));generalize w.alloc (jj [O ⟨#[]⟩,U Y 0 0].toArray 56)=w1 at u n⊢;refine kI (λr i=>?_);go_wp2;refine i _ _ ?_;clear i r;refine kI (λr i=>?_);go_wp2_with fail
  refine(I w1).mono ?_;rintro _ l ⟨⟨⟨d,a⟩,CC⟩,rfl,z,A,D,y⟩;obtain⟨c,b,e⟩:=Aj A;simp only at e D z;subst e;simp only[AI];have g:=Ab ((n.kept y).alloc (jj [O d,U c (Z a) b].toArray 56));have x:=Ab (kN l [O d,U c (Z a) b] 56);have G:kt (Dc (l.alloc (jj [O d,U c (Z a) b].toArray 56)) ⟨⟨d,a⟩,U c (Z a) b⟩):=Dc.kept A ((kL [] l).alloc _);have B:=Ab ((u.trans y).alloc (jj [O d,U c (Z a) b].toArray 56));have AT:N≠l.heap.size:=by have:=(n.kept y).lt;omega
  have t:=Ab z;clear z A y I u n;go_wp2;refine i _ _ ?_;clear i r;change Code.wp _ _ _ _ (l.alloc (jj [O d,U c (Z a) b].toArray 56));generalize l.alloc (jj [O d,U c (Z a) b].toArray 56)=w3 at g x G B⊢;obtain⟨M,P⟩:=kK l.heap.size;rw[P]at x AT⊢;clear P;have c0:=g.cell 0;have c1:=g.cell 1;have z0:=g.frozen 0;have z1:=g.frozen 1;have S:=x.cell 0;have W:=x.cell 1;simp at c0 c1 S W;have L:kt (Zu s=Y->Jz (Zu s) w (j3 (.tuple #[kx [O ⟨#[]⟩,U Y 0 0].toArray,k0 K])) ((w3.setCell ⟨N,0,Y⟩ (O ⟨#[]⟩)).setCell ⟨N,1,Y⟩ (U Y 0 0))):=λh=>by
   rw[h];exact Jz.none _ _ ((B.setCell (p:=⟨N,0,Y⟩) (kp v) _).setCell (p:=⟨N,1,Y⟩) (kp v) _)
  cases hr:dh s with
  |none=>
   (have k:kt (Zu s=Y):=by show _=_;rw[Aa m,hr];rfl);simp only[Option.isSome_none];clear hr m t;go_wp2;refine fL (An rfl (by rfl) ((g.set 0 _).set 1 _) underlying56 rfl (by kernel_rfl)) rfl ?_;exact L k
  |some q=>
   have T:=Aa t q hr;subst T;simp only[Option.isSome_some];by_cases o:2<Z a
   ·(have k:kt (Zu s=Y):=by show _=_;rw[Aa m,hr];show(if 2<Z a then Y else _)=Y;rw[fF o]);(have AR:(2:Int)<(Z a:Int):=by omega);clear hr m t;go_wp2;refine fL (An rfl (by rfl) ((g.set 0 _).set 1 _) underlying56 rfl (by kernel_rfl)) rfl ?_;exact L k
   ·(have k:kt (Zu s=V ⟨d,a⟩):=by show _=_;rw[Aa m,hr];show(if 2<Z a then Y else _)=_;rw[fB o]);(have AR:¬(2:Int)<(Z a:Int):=by omega);have R:kt (Jz (Zu s) w (j3 (.tuple #[kx [O d,U c (Z a) b].toArray,k0 hG])) ((w3.setCell ⟨N,0,Y⟩ (O d)).setCell ⟨N,1,Y⟩ (U c (Z a) b))):=by
     rw[Aa k];refine⟨⟨⟨d,a⟩,U c (Z a) b⟩,rfl,λf h=>jD h,?_,D,(B.setCell (p:=⟨N,0,Y⟩) (kp v) _).setCell (p:=⟨N,1,Y⟩) (kp v) _⟩;have E:=Aa G;have o:=Af E (As (v1:=U c (Z a) b) E g (by decide)) (p:=⟨N,0,Y⟩) (O d);have h3:=g.set 0 (O d);exact Af o (As (v1:=U c (Z a) b) o h3 (by decide)) (p:=⟨N,1,Y⟩) (U c (Z a) b)
    clear hr m t;go_wp2;refine fL (An rfl (by rfl) ((g.set 0 _).set 1 _) underlying56 rfl (by kernel_rfl)) rfl ?_;exact R
def Ug(pcs:kJ CB)(s:zA):Int:=match Zu s with
 |none=>2
 |some p=>if bJ pcs p.name=V (Z p.zC) then(if p.zC.all (Ig (pcs.flatMap Ct))=hG then 0 else 7)else 4
def Jp(pcs:kJ CB)(s:zA)(w:kq)(e:Ending)(w':kq):Prop:=∃x:DF,e=j3 (.tuple #[kx (j1 (AI x)),X J (Ug pcs s)])/\(Ug pcs s=0->Zu s=V x.f)/\Dc w' x/\Z x.f.zC<=1000/\Ac [] w w'
theorem JD(L:Option Addr)(H:Nat)(b:kJ CB)(s:zA)(w:kq)(h:Cv w (U L (Z b) H) b)(H8:Z b<=12)(hf:∀c∈b,Js c/\Z (A5 c)<=70000)(HM:∀c∈b,Z c.zE<=1000)(IS:s.size<=9223372036854775807):
  Calls prog 17 #[U L (Z b) H,O s] w (Jp b s w):=by
 have HX:=Ab ((kL [] w).alloc (jj [O ⟨#[]⟩,U Y 0 0].toArray 56));have HS:=Ab (kN w [O ⟨#[]⟩,U Y 0 0] 56);have HY:=Ab (SF s (w.alloc (jj [O ⟨#[]⟩,U Y 0 0].toArray 56)) IS);have HI:kt (∀x g,Ac [] w g->Calls prog 38 #[O x,U L (Z b) H] g λe w'=>e=j3 (BP ((bJ b x).map fun(n:Nat)=>(n:Int)))/\Ac [] g w'):=λx g q=>N8 x L H b g (h.kept q) HM (by omega)
 have Go:kt (∀g,Ac [] w g->Calls prog 39 #[U L (Z b) H] g (MW b g)):=λg q=>SN L H b g (h.kept q) H8 hf
 clear h hf HM;go_enter func17,ntmps17;go_wp2_with fail
 refine HY.mono ?_;rintro _ E ⟨⟨⟨d,a⟩,xv⟩,rfl,EK,HP,HD,k3⟩;obtain⟨j,k,e⟩:=Aj HP;simp only at e EK HD;subst e;simp only[AI];have FL:=Ab EK;have Ax:=Ab HP;have o:=Ab (HS.kept k3);have E0:=Ab (HX.trans k3);clear HY EK k3 HS HX;have FT:kt ((U j (Z a) k).ownBlock≠V w.heap.size):=As (Aa Ax) (Aa o) (by decide);have AT:=Ab (kN E [O d,U j (Z a) k] 56);have EY:=Ab (o.alloc (jj [O d,U j (Z a) k].toArray 56));have FC:=Ab (E0.alloc (jj [O d,U j (Z a) k].toArray 56));have HZ:w.heap.size<E.heap.size:=o.lt;obtain⟨R,hR⟩:=kK w.heap.size;rw[hR]at o EY HZ FT⊢;have D:kt (w.heap.size<=R):=by show _<=_;omega
 have CC:kt (∀B (r:Int),r=Ug b s->r≠0->Ac [] w B->Jp b s w (j3 (.tuple #[kx #[O ⟨#[]⟩,U Y 0 0],X J r])) B):=λB r e h0 q=>⟨⟨⟨⟨#[]⟩,[]⟩,U Y 0 0⟩,by rw[e];rfl,λh=>absurd (e.trans h) h0,fK _ _ _ _,fP _,q⟩
 have H6:kt (∀B,(0:Int)=Ug b s->Zu s=V ⟨d,a⟩->Ac [] w B->Ac [R] E B->Jp b s w (j3 (.tuple #[kx #[O d,U j (Z a) k],X J 0])) B):=λB e H9 q IJ=>⟨⟨⟨d,a⟩,U j (Z a) k⟩,by rw[<-e];rfl,λ_=>H9,Am (Aa Ax) IJ (λi hi hm=>by
   simp at hm
   subst hm
   exact Aa FT hi),HD,q⟩
 have y:=o.cell 0;have A:=o.cell 1;have P:=o.frozen 0;have M:=o.frozen 1;simp at y A;obtain⟨LD,FA⟩:=kK (Zu s);rw[FA]at FL⊢;cases LD with
 |none=>
  simp only[Option.isSome_none];have u:kt (Jp b s w (j3 (.tuple #[kx #[O ⟨#[]⟩,U Y 0 0],X J 2])) (((E.setCell ⟨R,0,Y⟩ (O ⟨#[]⟩)).setCell ⟨R,1,Y⟩ (U Y 0 0)).alloc (jj #[O d,U j (Z a) k] 56))):=CC _ 2 (by unfold Ug;rw[FA]) (by decide) (((E0.setCell (p:=⟨R,0,Y⟩) (kp (Aa D)) _).setCell (p:=⟨R,1,Y⟩) (kp (Aa D)) _).alloc _);go_wp2_with fail
  refine fL (An rfl (by rfl) ((((Aa o).set 0 _).set 1 _).alloc _) underlying56 rfl (by kernel_rfl)) rfl ?_;exact u
 |some p=>
  obtain rfl:(⟨d,a⟩:Cg)=p:=FL p rfl;simp only[Option.isSome_some];clear y A P M;have CL:=Ab FA;have HA:=Ab ((kL [R] E).alloc (jj [O d,U j (Z a) k].toArray 56));have FW:=Ab (Dc.kept (Aa Ax) ((kL [] E).alloc (jj [O d,U j (Z a) k].toArray 56)));have z:=AT.cell 0;have m:=AT.cell 1;simp at z m;have AB:=Ab (HI d _ FC);go_wp2_with fail
  refine AB.mono ?_;rintro _ w5 ⟨rfl,F⟩;have K8:=Ab F;have AH:=Ab (FC.trans F);have H1:=Ab (HA.trans' F (by simp));have C:=Ab ((Aa EY).kept F);have H2:=Ab (Dc.kept (Aa FW) F);have N:=Ab ((Aa AT).kept F);clear z m AB F HI HA EY FW AT FC Ax o E0;have z:=N.cell 0;have m:=N.cell 1;have y:=C.cell 0;have A:=C.cell 1;have P:=C.frozen 0;have M:=C.frozen 1;simp at z m y A;have Q:kt (bJ b d≠V (Z a)->Jp b s w (j3 (.tuple #[kx #[O ⟨#[]⟩,U Y 0 0],X J 4])) ((w5.setCell ⟨R,0,Y⟩ (O ⟨#[]⟩)).setCell ⟨R,1,Y⟩ (U Y 0 0))):=λT=>CC _ 4 (by unfold Ug;rw[Aa CL];show(4:Int)=if bJ b d=V (Z a) then _ else 4;rw[fB T]) (by decide) ((AH.setCell (p:=⟨R,0,Y⟩) (kp (Aa D)) _).setCell (p:=⟨R,1,Y⟩) (kp (Aa D)) _)
  obtain⟨HL,hX⟩:=kK E.heap.size;rw[hX]at z m N HZ⊢;clear hX;cases hav:bJ b d with
  |none=>
   have u:=Ab (Q (by rw[hav];simp));simp only[BP,Option.map_none];clear Q;(go_wp2_with fail);refine fL (An rfl (by rfl) (((Aa C).set 0 _).set 1 _) underlying56 rfl (by kernel_rfl)) rfl ?_;exact u
  |some n=>
   simp only[BP,im];by_cases hn:n=Z a
   .subst hn;(have T:((Z a:Int) !=(Z a:Int))=K:=by simp);clear Q y A P M;have HN:=Ab (Go w5 AH);(go_wp2_with fail);refine HN.mono ?_;rintro _ w6 ⟨TH,HV,HH,rfl,HB,S,HC,Ha,I⟩;have K5:=Ab HB;have K1:=Ab HC;have H0:=Ab (AH.trans I);have JJ:=Ab (H1.trans' I (by simp));have Ix:=Ab ((Aa C).kept I);have Jx:=Ab (Dc.kept (Aa H2) I);have HR:=Ab ((Aa N).kept I);have H4:kt (∀x g,Ac [] w6 g->Calls prog 40 #[U HV (Z TH) HH,O x] g λe w'=>e=j3 (k0 (Ig (b.flatMap Ct) x))/\w'=g):=λx g q=>by
     have h:=YN HV HH TH x 0 g (Ad (Aa K5) q) (by omega) K1;have e:Ig TH x=Ig (b.flatMap Ct) x:=by
      rw[gU,Gr,Gr];exact Ha x
     rw[e]at h;exact h
    have FF:kt (∀r:Int,(r=if a.all (Ig (b.flatMap Ct))=hG then 0 else 7)->r=Ug b s):=by
     intro r hr;unfold Ug;rw[Aa CL];show r=if bJ b d=V (Z a) then _ else 4;rw[fF hav];exact hr
    generalize b.flatMap Ct=PT at H4 FF;clear HN HB HC Ha I AH H1 C H2 N z m T Go;have m:=HR.cell 1;simp at m;go_wp2_with fail
    go_loopg [43] (Z a) (λgk i wq=>∃(t:Nat),i=X J t/\t<=Z a/\gk=Z a-t/\kt ((a.take t).all (Ig PT)=hG)/\kt (Ac [] w6 wq))
    case atStart=>exact⟨0,rfl,by omega,rfl,by show _=_;simp,kL _ _⟩
    case round=>
     clear m;obtain⟨t,rfl,ht,HU,BA,v⟩:=hrel;have HG:=Ab HU;clear HU;have G:=Ab ((Aa Ix).kept v);have y:=G.cell 0;have A:=G.cell 1;have P:=G.frozen 0;have M:=G.frozen 1;simp at y A;by_cases S:t<Z a
     ·(have LM:(t:Int)<(Z a:Int):=by omega);(have LE:(0:Int)<=(t:Int):=by omega);obtain⟨ga,LB,HT,_,FO⟩:=AC (f:=Ah) (l:=a) (Dc.kept (Aa Jx) v) (λ_ _=>rfl) t S;have a0:=FO t S 0 (by omega);simp only[fg]at HT;obtain⟨rfl,-,rfl⟩:=HT;simp[Ah]at a0;have BT:kt (Ig PT a[t]=hG->(a.take (t+1)).all (Ig PT)=hG):=λh=>by
       show(a.take (t+1)).all (Ig PT)=hG;rw[fm S,List.all_append,Aa BA];simpa using h
      (have Bx:kt (Ig PT a[t]=K->a.all (Ig PT)=K):=λh=>List.all_eq_false.2 ⟨a[t],fj S,by rw[h];simp⟩);obtain⟨W,hY⟩:=kK (a[t]);rw[hY]at a0 BT Bx;clear hY FO;(go_wp2_with fail);refine(H4 W wr v).mono ?_;rintro _ w7 ⟨rfl,K3⟩;subst K3;cases hb:Ig PT W with
      |true=>
       have AB:=Ab (BT hb);clear BT Bx a0 y A P M;go_wp2_with fail
       go_roundg (Z a-(t+1))
       case measure=>have:=Aa HG;omega
       case rel=>exact⟨t+1,by go_num,by omega,rfl,AB,v⟩
      |false=>
       have u:kt (Jp b s w (j3 (.tuple #[kx #[O ⟨#[]⟩,U Y 0 0],X J 7])) ((w7.setCell ⟨R,0,Y⟩ (O ⟨#[]⟩)).setCell ⟨R,1,Y⟩ (U Y 0 0))):=CC _ 7 (FF 7 (by rw[Aa Bx hb];rfl)) (by decide) (((H0.trans v).setCell (p:=⟨R,0,Y⟩) (kp (Aa D)) _).setCell (p:=⟨R,1,Y⟩) (kp (Aa D)) _);clear BT Bx a0 BA HG;(go_wp2_with fail);refine fL (An rfl (by rfl) (((Aa G).set 0 _).set 1 _) underlying56 rfl (by kernel_rfl)) rfl ?_;exact u
     ·(obtain rfl:t=Z a:=by omega);have u:kt (Jp b s w (j3 (.tuple #[kx #[O d,U j (Z a) k],X J 0])) ((wr.setCell ⟨R,0,Y⟩ (O d)).setCell ⟨R,1,Y⟩ (U j (Z a) k))):=H6 _ (FF 0 (by have h:=Aa BA;rw[gT]at h;rw[fF h])) (Aa CL) (((H0.trans v).setCell (p:=⟨R,0,Y⟩) (kp (Aa D)) _).setCell (p:=⟨R,1,Y⟩) (kp (Aa D)) _) (((JJ.trans' v (by simp)).setCell (p:=⟨R,0,Y⟩) (by simp) _).setCell (p:=⟨R,1,Y⟩) (by simp) _);have HW:=Ab ((Aa HR).kept v);have z:=HW.cell 0;have m:=HW.cell 1;simp at z m;(have LL:¬(Z a:Int)<(Z a:Int):=by omega);clear BA HG;(go_wp2_with fail);refine fL (An rfl (by rfl) (((Aa G).set 0 _).set 1 _) underlying56 rfl (by kernel_rfl)) rfl ?_;exact u
   .have u:=Ab (Q (by rw[hav];simp[hn]));(have T:((Z a:Int) !=(n:Int))=hG:=by simp;omega);clear Q;(go_wp2_with fail);refine fL (An rfl (by rfl) (((Aa C).set 0 _).set 1 _) underlying56 rfl (by kernel_rfl)) rfl ?_;exact u
def WO(s:zA)(w:kq)(e:Ending)(w':kq):Prop:=∃(p:BD),e=j3 (.tuple #[kx (j1 (Bp p)),k0 (KG s)])/\p.f=CI s/\Ew w' p/\(∀q,p.av.ownBlock=V q->w.heap.size<=q)/\Ac [] w w'
theorem cU(s:zA)(w:kq)(NY:s.size<=9223372036854775807):
  Calls prog 44 #[O s] w λe T=>WO s w e T:=by
 have LL:kt (∀g,KP s=K->Ac [] w g->WO s w (j3 (.tuple #[kx [O ⟨#[]⟩,U Y 0 0].toArray,k0 K])) g):=λg hc hk=>⟨⟨aW,U Y 0 0⟩,by unfold KG;rw[hc];rfl,by unfold CI;rw[hc];rfl,fK _ _ _ _,λq hq=>by simp[Value.ownBlock]at hq,hk⟩
 have HB:=Ab (kN w [O ⟨#[]⟩,U Y 0 0] 63);have HU:=Ab ((kL [] w).alloc (jj [O ⟨#[]⟩,U Y 0 0].toArray 63));by_cases H4:300<s.size
 .have r:kt (KP s=K):=by show _=_;unfold KP;rw[ix H4];rfl
  go_enter func44,ntmps44;go_wp2;refine fL (An rfl (by rfl) HB underlying63 rfl (by kernel_rfl)) rfl ?_;exact LL _ r HU
 .have hs:s.size<=300:=by omega
  have M6:s.size<=1000000:=by omega
  have u:kt (KP s=(!(Ao s 0).2.2&&(!decide ((Ao s 0).2.1<s.size)&&(!decide (0<Z (Ao s 0).1.body)&& !decide (2<Z (Ao s 0).1.head.args))))):=by show _=_;unfold KP;rw[ic H4];rfl
  have D:kt (KP s=hG->CI s=Av BM (Ao s 0).1.head):=λh=>by unfold CI;rw[fF h]
  have L:kt ((Ao s 0).2.2=K->Qv (Ao s 0).1):=λh=>Dd h
  have G:kt (eL s (Ao s 0).1.head):=Mi _ _ _;have HL:kt (∀b g,AF g b (BL s 0 K) 81->Calls prog 35 #[j2 (V ⟨b,0,Y⟩)] g λe T=>∃(hv bv:Value) (bl:kJ Bs),e=j3 (kx (j1 (Dg (Ao s 0).1 hv bv)))/\kw T g.heap.size 135 2 hv (Z (Ao s 0).1.head.args) ((Ao s 0).1.head.args.flatMap AP)/\bl.map Prod.fst=(Ao s 0).1.body/\kw T g.heap.size 173 9 bv (Z bl) (Du bl)/\AF T b (BL s (Ao s 0).2.1 (Ao s 0).2.2) 81/\Ac [b] g T):=λb g hb=>(Pe b s 0 g M6 (fP _) hb).mono λe T ⟨hv,bv,bl,o,B,Q,h4,h5,h6,h7⟩=>⟨hv,bv,bl,o,B,Q,h4,h6,h7⟩
  obtain⟨⟨⟨f,d,y⟩,A,CW⟩,a,HX,hR⟩:∃c a HX,Ao s 0=(c,a,HX):=⟨_,_,_,rfl⟩;rw[hR]at u D L G HL;simp only at u D L G HL;clear hR H4;obtain⟨N,hN⟩:=kK w.heap.size;have HN:=Ab hN;have HD:=Ab (kN (w.alloc (jj [O ⟨#[]⟩,U Y 0 0].toArray 63)) (BL s 0 K) 81);rw[fY,hN]at HD;have HG:=Ab (HB.alloc (jj (j1 (BL s 0 K)) 81));rw[hN]at HG;have H0:=Ab (HU.alloc (jj (j1 (BL s 0 K)) 81));have HV:kt (((w.alloc (jj [O ⟨#[]⟩,U Y 0 0].toArray 63)).alloc (jj (j1 (BL s 0 K)) 81)).heap.size=N+2):=by show _=_;simp;omega
  clear hN HB HU;go_enter func44,ntmps44;refine kI (λn j=>?_);go_wp2;refine j _ _ ?_;clear j n;refine kI (λn j=>?_);go_wp2;refine j _ _ ?_;clear j n;refine kI (λn j=>?_);go_wp2;refine j _ _ ?_;clear j n;refine kI (λn j=>?_);go_wp2_with fail
  rw[Aa HN];change Calls _ _ _ ((w.alloc (jj [O ⟨#[]⟩,U Y 0 0].toArray 63)).alloc (jj (j1 (BL s 0 K)) 81)) _;generalize(w.alloc (jj [O ⟨#[]⟩,U Y 0 0].toArray 63)).alloc (jj (j1 (BL s 0 K)) 81)=w2 at HD HG H0 HV⊢;refine(HL (N+1) w2 HD).mono ?_;rintro _ w3 ⟨hv,bv,bl,rfl,H6,KS,K2,HQ,k3⟩;obtain⟨AH,AB,rfl⟩:=B5 H6;obtain⟨FP,BT,rfl⟩:=B5 K2;have K3:=Ab (HG.kept k3);have NB:kt (Ac [] w w3):=H0.trans' k3 (λq hq=>kp (by simp only[ft]at hq;have:=Aa HN;omega));have Mo:=Ab (Al H6 (fP _));have H8:Z bl=Z A:=by rw[<-KS,fH]
  rw[H8];have f1:=HQ.cell 1;have f2:=HQ.cell 2;simp[BL]at f1 f2;have M0:=k3.size;rw[Aa HV]at M0;clear HL HD HG H0 HV H6 KS K2 HQ k3 H8;simp only[Dg];have FT:=Ab ((kL [] w3).alloc (jj [O f,U AH (Z d) AB,X J y,U FP (Z A) BT,X J CW].toArray 90));have z:=Ab (K3.alloc (jj [O f,U AH (Z d) AB,X J y,U FP (Z A) BT,X J CW].toArray 90));have H:=Ab (kN w3 [O f,U AH (Z d) AB,X J y,U FP (Z A) BT,X J CW] 90);have g1:=FT.cellAt f1;have g2:=FT.cellAt f2;have CL:=Ab (NB.trans FT);have P:=Ab (Ad Mo FT);clear f1 f2 K3 Mo FT;go_wp2;refine j _ _ ?_;clear j n;change Code.wp _ _ _ _ (w3.alloc (jj [O f,U AH (Z d) AB,X J y,U FP (Z A) BT,X J CW].toArray 90));generalize w3.alloc (jj [O f,U AH (Z d) AB,X J y,U FP (Z A) BT,X J CW].toArray 90)=w4 at z H g1 g2 CL P⊢;obtain⟨C,hC⟩:=kK w3.heap.size;rw[hC]at H⊢;clear hC;have e1:=H.cell 1;have e3:=H.cell 3;simp at e1 e3;have e0:=H.cell 0;have e2:=H.cell 2;have c0:=z.cell 0;have c1:=z.cell 1;have z0:=z.frozen 0;have z1:=z.frozen 1;simp at e0 e2 c0 c1;have Go:kt (KP s=K->WO s w (j3 (.tuple #[kx [O ⟨#[]⟩,U Y 0 0].toArray,k0 K])) ((w4.setCell ⟨N,0,Y⟩ (O ⟨#[]⟩)).setCell ⟨N,1,Y⟩ (U Y 0 0))):=λh=>LL _ h ((CL.setCell (p:=⟨N,0,Y⟩) (kp (by have:=Aa HN;show _<=N;omega)) _).setCell (p:=⟨N,1,Y⟩) (kp (by have:=Aa HN;show _<=N;omega)) _)
  cases HX with
  |true=>
   have r:kt (KP s=K):=u;clear u D L G P;go_wp2;refine fL (An rfl (by rfl) ((z.set 0 _).set 1 _) underlying63 rfl (by kernel_rfl)) rfl ?_;exact Go r
  |false=>
   by_cases o:a<s.size
   ·(have r:kt (KP s=K):=by show _=_;rw[Aa u,ix o];rfl);(have NV:(a:Int)<(s.size:Int):=by omega);clear u D L G P;go_wp2;refine fL (An rfl (by rfl) ((z.set 0 _).set 1 _) underlying63 rfl (by kernel_rfl)) rfl ?_;exact Go r
   ·(have NV:¬(a:Int)<(s.size:Int):=by omega);by_cases B:0<Z A
    ·(have r:kt (KP s=K):=by show _=_;rw[Aa u,ic o,ix B];rfl);(have NS:(0:Int)<(Z A:Int):=by omega);clear u D L G P;go_wp2;refine fL (An rfl (by rfl) ((z.set 0 _).set 1 _) underlying63 rfl (by kernel_rfl)) rfl ?_;exact Go r
    ·(have NS:¬(0:Int)<(Z A:Int):=by omega);by_cases Q:2<Z d
     ·(have r:kt (KP s=K):=by show _=_;rw[Aa u,ic o,ic B,ix Q];rfl);(have NA:(2:Int)<(Z d:Int):=by omega);clear u D L G P;go_wp2;refine fL (An rfl (by rfl) ((z.set 0 _).set 1 _) underlying63 rfl (by kernel_rfl)) rfl ?_;exact Go r
     ·(have NA:¬(2:Int)<(Z d:Int):=by omega);(have r:kt (KP s=hG):=by show _=_;rw[Aa u,ic o,ic B,ic Q];rfl);have LB:=(L rfl).head.args;have B9:=Ab (λg (hk:Ac [] w4 g)=>Nv BM ⟨f,d,y⟩ AH AB g rfl (Ad P hk) (by show Z d<=1000;omega) (λt ht=>by
       rcases LB t ht with h|h
       .exact Or.inl h.1
       .exact kp ⟨h.1,h.2.1⟩))
      simp only[Uy,Cc]at B9;have HP:kt (CI s=Av BM ⟨f,d,y⟩):=D r;have H2:kt ((∀x∈(Av BM ⟨f,d,y⟩).args,x.size<=1000000)/\f.size<=1000000):=by
       have hz:=Aa G;refine⟨λx hx=>?_,by have:=hz.1;simp only at this;omega⟩;obtain⟨t,ht,rfl⟩:=fC.1 hx;unfold AJ;split
       .have:=hz.2 t ht;omega
       .unfold BM;rw[fG,List.getElem?_replicate];split<;>exact fP _
      have AT:kt ((Av BM ⟨f,d,y⟩).name=f/\Z (Av BM ⟨f,d,y⟩).args=Z d):=⟨rfl,by show Z (d.map _)=_;rw[fH]⟩;have S:=Ab ((kL [] w4).alloc (jj dw 141));have CC:=Ab (kN w4 (kD 26 (O ⟨#[]⟩)) 141);obtain⟨M,HW⟩:=kK (Av BM ⟨f,d,y⟩);simp only[HW]at B9;rw[HW]at HP H2 AT;clear u D L G LB Go P HW;have Bx:=Ab (H.kept S);refine kI (λn j=>?_);go_wp2;refine j _ _ ?_;clear j n g1 g2 e0 e1 e2 e3 c0 c1 z0 z1;refine kI (λn j=>?_);go_wp2;refine j _ _ ?_;clear j n;change Code.wp _ _ _ _ (w4.alloc (jj (j1 (kD 26 (O ⟨#[]⟩))) 141));change kt (Ac [] w4 (w4.alloc (jj (j1 (kD 26 (O ⟨#[]⟩))) 141)))at S;change kt (AF (w4.alloc (jj (j1 (kD 26 (O ⟨#[]⟩))) 141)) C _ 90)at Bx;generalize w4.alloc (jj (j1 (kD 26 (O ⟨#[]⟩))) 141)=w5 at S CC Bx⊢;obtain⟨E,hE⟩:=kK w4.heap.size;rw[hE]at CC⊢;clear hE;obtain⟨EM,HC⟩:∃EM:kJ Value,kD 26 (O ⟨#[]⟩)=EM:=⟨_,rfl⟩;(have LE:Z EM=26:=by rw[<-HC];rfl);(have H7:(prog.info? 141).map (·.size)=V (Z EM):=by rw[LE];exact Tryz.size141);rw[HC]at CC;simp only[HC]at B9;clear HC;have e0:=Bx.cell 0;have e1:=Bx.cell 1;have e2:=Bx.cell 2;simp at e0 e1 e2;refine kI (λn j=>?_);go_wp2_with ((with_reducible show wpList _ _ _ ({dst:=_,op:=Op.load 141 _,type:=_,pos:=_,after:=_,guard:=_}::_) _ _);refine iq rfl 141 _ rfl E 0 (by rfl) EM _ CC.range underlying141 rfl H7 ?_)
      refine(B9 _ S).mono ?_;rintro _ R ⟨l,m,rfl,K5,K1,k6⟩;have HT:Ac [] w4 R:=S.trans k6;have IJ:=Ab K5;have NX:kt (∀q,(U l (Z d) m).ownBlock=V q->w.heap.size<=q):=λq hq=>by
       have o:=K1 q hq;have B:=CL.size;have Q:=S.size;omega
      have Jx:=Ab (z.kept HT);have NM:=Ab (CL.trans HT);clear B9 K5 K1 k6 HT e0 e1 e2 S z CL Bx CC H7 LE H;simp only[Bp,(Aa AT).1];have H5:=Ab (λg (hk:Ac [] R g)=>L5 ⟨M,U l (Z d) m⟩ g (IJ.kept hk) (by show Z M.args<=1000;have:=AT.2;omega) H2.1 (by show M.name.size<=_;rw[(Aa AT).1];exact H2.2));simp only[Bp,(Aa AT).1]at H5;have K6:=Ab (Jx.alloc (jj [O f,U l (Z d) m].toArray 63));have HF:=Ab (kN R [O f,U l (Z d) m] 63);have HJ:=Ab ((kL [] R).alloc (jj [O f,U l (Z d) m].toArray 63));go_wp2;refine j _ _ ?_;clear j n;change Code.wp _ _ _ _ (R.alloc (jj [O f,U l (Z d) m].toArray 63));generalize R.alloc (jj [O f,U l (Z d) m].toArray 63)=w7 at K6 HF HJ⊢;obtain⟨F,hF⟩:=kK R.heap.size;rw[hF]at HF⊢;(have K8:N≠F:=by have:=Jx.lt;omega);clear hF;have FO:kt (∀g,AF g F [O f,U l (Z d) m] 63->ku g ⟨F,0,Y⟩=V (O f)/\ku g ⟨F,1,Y⟩=V (U l (Z d) m)):=by
       intro g hb;have h0:=hb.cell 0;have o:=hb.cell 1;simp at h0 o;exact⟨h0,o⟩
      obtain⟨TX,HZ⟩:=kK (EZ M);simp only[HZ]at H5;(have M1:kt (KG s=(TX.toList==s.toList)):=by show _=_;unfold KG;rw[Aa r,Aa HP,HZ,ii]);clear HZ;refine kI (λn j=>?_);have H1:=Ab (FO w7.drew HF);refine Cn 7 (λg=>ku g ⟨F,0,Y⟩=V (O f)/\ku g ⟨F,1,Y⟩=V (U l (Z d) m)) (by kernel_rfl) ?_;refine Ci.tqH (i:=0) (v:=kx #[O f,U l (Z d) m]) rfl (λ_ _ _ h=>h) H1 ?_;simp only[kG,ff,fh,fi];refine Ci.tqH (i:=1) (v:=kx #[O f,U l (Z d) m]) rfl (λ_ _ _ h=>h) H1 ?_;simp only[kG,ff,fh,fi];refine Ci.tqH (i:=3) (v:=O s) rfl (λ_ _ _ h=>h) H1 ?_;simp only[kG,ff,fh,fi];refine Ci.one (i:=2) (by kernel_rfl) rfl (λFL I=>?_)
      go_simp
      refine(H5 _ (HJ.trans (kL [] w7).drew)).mono ?_;rintro _ w8 ⟨rfl,Nq⟩;have k8:Ac [] w7 w8:=(kL [] w7).drew.trans Nq;have HS:=HF.kept k8;have W:=K6.kept k8;refine I.out _ _ (λ_=>FO _ HS) ?_;clear I FL
      try simp only[kG,ff,fh,fi]
      have NL:=Ab (FO _ HS);refine Ci.tqH (i:=4) (v:=k0 (TX.toList==s.toList)) rfl (λ_ _ _ h=>h) NL ?_;simp only[kG,ff,fh,fi];have c0:=W.cell 0;have c1:=W.cell 1;have z0:=W.frozen 0;have z1:=W.frozen 1;simp at c0 c1;refine Ci.one (i:=5) (by kernel_rfl) rfl (λFL I=>?_)
      go_simp
      have K7:=(HS.zB ⟨N,0,Y⟩ K8 (O f)).zB ⟨N,1,Y⟩ K8 (U l (Z d) m);refine I.out _ _ (λ_=>FO _ K7) ?_;clear I FL
      try simp only[kG,ff,fh,fi]
      refine Ci.one (i:=6) (by kernel_rfl) rfl (λFL I=>?_)
      go_simp
      refine I.out _ _ (λ_=>FO _ K7) ?_;clear I FL;refine Ci.done (by kernel_rfl) ?_ _
      try simp only[kG,ff,fh,fi]
      refine j _ _ ?_;clear j n;refine wp_ret ?_;refine fL (An rfl (by rfl) ((W.set 0 _).set 1 _) underlying63 rfl (by kernel_rfl)) rfl ?_;(have LS:w.heap.size<=N:=by have:=Aa HN;omega);have NE:=(((NM.trans HJ).trans k8).setCell (p:=⟨N,0,Y⟩) (kp LS) (O f)).setCell (p:=⟨N,1,Y⟩) (kp LS) (U l (Z d) m);refine⟨⟨M,U l (Z d) m⟩,?_,HP.symm,?_,NX,NE⟩
      .rw[Aa M1];simp only[Bp,(Aa AT).1];rfl
      .have o:Ew w8 ⟨M,U l (Z d) m⟩:=(IJ.kept HJ).kept k8;have B:=Af o (As (v1:=U l (Z d) m) o W (by decide)) (p:=⟨N,0,Y⟩) (O f);have Q:=W.set 0 (O f);exact Af B (As (v1:=U l (Z d) m) B Q (by decide)) (p:=⟨N,1,Y⟩) (U l (Z d) m)
def EI(cs:kJ AY)(s:zA):Int:=if KG s=hG then(if B3 cs (CI s).name=(Z (CI s).args:Int)then(if(CI s).args.all (C1 (Bc cs))=hG then 0 else 7)else 4)else 2
structure G5(w:kq)(bb pb:Nat)(lad:Option Addr)(lcp:Nat)(cs:kJ AY)(fad:Option Addr)(fcp:Nat)(fs:kJ BD):Prop where
 base:AF w bb [j2 (V ⟨pb,0,Y⟩),U fad (Z fs) fcp] 52
 prog:AF w pb [U lad (Z cs) lcp] 84
 rows:Cd w (U lad (Z cs) lcp) cs
 facts:D8 w (U fad (Z fs) fcp) fs
def G5.kept{w w':kq}{f i:Nat}{e:Option Addr}{a:Nat}{d:kJ AY}{c:Option Addr}{b:Nat}{g:kJ BD}(h:G5 w f i e a d c b g)(k:Ac [] w w'):G5 w' f i e a d c b g:=⟨h.base.kept k,h.prog.kept k,h.rows.kept k,h.facts.kept k⟩
def Mc(cs:kJ AY)(s:zA)(w:kq)(e:Ending)(w':kq):Prop:=∃x:BD,e=j3 (.tuple #[kx (j1 (Bp x)),X J (EI cs s)])/\x.f=CI s/\Ew w' x/\Ac [] w w'
def au{α:Type}(f:α->Bool)(l:kJ α)(k:Nat)(b:k<Z l)(c:(l.take k).all f=hG)(a:f l[k]=hG):(l.take (k+1)).all f=hG:=by
 rw[fm b,List.all_append,c];simpa using a
theorem Xy(bb D:Nat)(M0:Option Addr)(LC:Nat)(g:kJ AY)(LE:Option Addr)(LD:Nat)(fs:kJ BD)(s:zA)(w:kq)(h:G5 w bb D M0 LC g LE LD fs)(hF:N6 g)(hl:Z g<=12)(HL:∀c∈g,GC c)(IJ:Z (Bc g)<=6)(KS:s.size<=9223372036854775807):
  Calls prog 20 #[j2 (V ⟨bb,0,Y⟩),O s] w λe z=>Mc g s w e z:=by
 have HB:=Ab h;have H2:=Ab ((kL [] w).alloc (jj [O ⟨#[]⟩,U Y 0 0].toArray 63));have HY:=Ab (kN w [O ⟨#[]⟩,U Y 0 0] 63);have H3:=Ab (cU s (w.alloc (jj [O ⟨#[]⟩,U Y 0 0].toArray 63)) KS);have HS:kt (∀T b,Ac [] w b->Calls prog 45 #[j2 (V ⟨D,0,Y⟩),O T] b λe z=>e=j3 (X J (B3 g T))/\Ac [] b z):=λT b m=>Kg D _ g T b (h.kept m).prog (h.kept m).rows (by omega) (λc hc=>by have:=hF.body c hc;omega)
 have HJ:kt (∀b,Ac [] w b->Calls prog 46 #[j2 (V ⟨D,0,Y⟩)] b λe z=>∃v,e=j3 v/\kw z b.heap.size 9 1 v (Z (Bc g)) ((Bc g).flatMap Ah)/\Ac [] b z):=λb m=>P1 D _ g b (h.kept m).prog (h.kept m).rows hl HL hF.full
 have MN:kt (∀(x:BD) b (r:Int),r=EI g s->x.f=CI s->Ew b x->Ac [] w b->Mc g s w (j3 (.tuple #[kx (j1 (Bp x)),X J r])) b):=λx b r e h1 h2 h3=>⟨x,by rw[e],h1,h2,h3⟩
 clear h HL hF;go_enter func20,ntmps20;go_wp2_with fail
 refine H3.mono ?_;rintro _ y ⟨⟨⟨d,a⟩,xv⟩,rfl,FL,AH,K7,k3⟩;obtain⟨k,j,e⟩:=Aj AH;simp only at e FL;subst e;simp only[Bp];have HI:kt (∀q,(U k (Z a) j).ownBlock=V q->q≠w.heap.size):=λq hq=>by have:=K7 q hq;simp at this;omega
 have EY:=Ab FL;have Jx:=Ab AH;have C:=Ab (HY.kept k3);have H4:=Ab (H2.trans k3);have BA:=Ab (C.alloc (jj [O d,U k (Z a) j].toArray 63));have BT:=Ab (kN y [O d,U k (Z a) j] 63);have S:=Ab (H4.alloc (jj [O d,U k (Z a) j].toArray 63));have E0:=Ab (Ew.kept AH ((kL [] y).alloc (jj [O d,U k (Z a) j].toArray 63)));have H5:w.heap.size<y.heap.size:=C.lt;clear H3 AH FL k3 HY H2;obtain⟨R,hR⟩:=kK w.heap.size;rw[hR]at BA C H5 HI;have HR:=Ab hR;have W:kt (∀W' (r:Int),r=EI g s->Ac [] w W'->Ac [R] y W'->Mc g s w (j3 (.tuple #[kx #[O d,U k (Z a) j],X J r])) W'):=by
  intro W' r e m KK;refine MN ⟨⟨d,a⟩,U k (Z a) j⟩ _ r e (Aa EY) ?_ m;exact Am (Aa Jx) KK (λi hi hm=>by
   simp at hm
   subst hm
   exact absurd rfl (Aa HI i hi))
 have E:kt (w.heap.size<=R):=by have:=Aa HR;show _<=_;omega
 have A:=C.cell 0;have B:=C.cell 1;have Q:=C.frozen 0;have P:=C.frozen 1;simp at A B;cases ho:KG s with
 |false=>
  have F:kt (Mc g s w (j3 (.tuple #[kx #[O d,U k (Z a) j],X J 2])) (((y.setCell ⟨R,0,Y⟩ (O d)).setCell ⟨R,1,Y⟩ (U k (Z a) j)).alloc (jj #[O d,U k (Z a) j] 63))):=W _ 2 (by unfold EI;rw[ho];rfl) (((H4.setCell (p:=⟨R,0,Y⟩) (kp (Aa E)) _).setCell (p:=⟨R,1,Y⟩) (kp (Aa E)) _).alloc _) ((((kL [R] y).setCell (p:=⟨R,0,Y⟩) (by simp) _).setCell (p:=⟨R,1,Y⟩) (by simp) _).alloc _);go_wp2_with fail
  refine fL (An rfl (by rfl) ((((Aa C).set 0 _).set 1 _).alloc _) underlying63 rfl (by kernel_rfl)) rfl ?_;exact F
 |true=>
  clear A B Q P;have FA:=Ab ((kL [R] y).alloc (jj [O d,U k (Z a) j].toArray 63));go_wp2_with fail
  change Code.wp _ _ _ _ (y.alloc (jj [O d,U k (Z a) j].toArray 63));generalize y.alloc (jj [O d,U k (Z a) j].toArray 63)=w4 at BA BT S E0 FA⊢;obtain⟨L,hX⟩:=kK y.heap.size;rw[hX]at BT H5⊢;clear hX C hR;have FW:kt (∀b,Ac [] w4 b->ku b ⟨bb,0,Y⟩=V (j2 (V ⟨D,0,Y⟩))/\ku b ⟨L,0,Y⟩=V (O d)/\ku b ⟨L,1,Y⟩=V (U k (Z a) j)):=λb m=>⟨by have:=(HB.kept (S.trans m)).base.cell 0;simpa using this,m.cellAt (by have:=BT.cell 0;simpa using this),m.cellAt (by have:=BT.cell 1;simpa using this)⟩
  obtain⟨I,FF⟩:=kK (B3 g d);have AB:kt (∀b,Ac [] w4 b->Calls prog 45 #[j2 (V ⟨D,0,Y⟩),O d] b λe z=>e=j3 (X J I)/\Ac [] b z):=λb m=>by
   have h:=HS d b (S.trans m);rw[FF]at h;exact h
  have FC:=Ab FF;clear FF HS
  go_region_held3 (λb=>Ac [] w4 b/\ku b ⟨bb,0,Y⟩=V (j2 (V ⟨D,0,Y⟩))/\ku b ⟨L,0,Y⟩=V (O d)/\ku b ⟨L,1,Y⟩=V (U k (Z a) j)) ((go_split_ands;refine(fun(H8:Ac [] w4 _)=>And.intro H8 (FW _ H8)) ?_;repeat (first|assumption|exact kL [] _|refine Ac.drew ?_|refine Ac.alloc ?_ _))) ((go_at_call 45;refine(AB _ (by go_split_ands;assumption)).mono ?_;rintro _ w5 ⟨rfl,k5⟩;have G:Ac [] w4 w5:=(by go_split_ands;exact Ac.trans (by assumption) k5);clear k5))
  rename_i K8;clear K8 AB;have AT:=Ab (S.trans G);have Go:=Ab (FA.trans' G (by simp));have H:=Ab ((Aa BA).kept G);have H7:=Ab (Ew.kept (Aa E0) G);obtain⟨d0,d1,d2⟩:=FW w5 G;have A:=H.cell 0;have B:=H.cell 1;have Q:=H.frozen 0;have P:=H.frozen 1;simp at A B;by_cases N:I=(Z a:Int)
  ·(have HD:(I !=(Z a:Int))=K:=by simp[N]);clear A B Q P;have HW:=Ab (HJ w5 AT);(go_wp2_with fail);refine HW.mono ?_;rintro _ w6 ⟨tv,rfl,FB,M⟩;obtain⟨K6,K1,rfl⟩:=Aj FB;have Ha:=Ab (Al (base':=0) FB (fP _));clear HW FB;have K3:=Ab (G.trans M);have H6:=Ab (AT.trans M);have HV:=Ab (Go.trans' M (by simp));have HN:=Ab ((Aa H).kept M);have HU:=Ab (Ew.kept (Aa H7) M);obtain⟨n,FT⟩:=kK (Bc g);rw[FT]at Ha IJ⊢;have H9:kt (∀r:Int,(r=if a.all (C1 n)=hG then 0 else 7)->r=EI g s):=by
    intro r hr;unfold EI;rw[fF ho,<-Aa EY,FT];show r=if B3 g d=(Z a:Int)then _ else _;rw[fF (by rw[Aa FC];exact N)];exact hr
   (have MY:kt (∀x b,Ac [] w6 b->Calls prog 47 #[U K6 (Z n) K1,O x] b λe z=>e=j3 (k0 (C1 n x))/\z=b):=λx b m=>Dr _ n x 0 b (Ad (Aa Ha) m) (by omega));clear FT HJ G M AT Go H H7 S FA BA E0 HD Ha d0 d1 d2 N FC;go_wp2_with fail
   go_loopg [9] (Z a) (λgk i wq=>∃(t:Nat),i=X J t/\t<=Z a/\gk=Z a-t/\kt ((a.take t).all (C1 n)=hG)/\kt (Ac [] w6 wq))
   case atStart=>exact⟨0,rfl,by omega,rfl,by show _=_;simp,kL _ _⟩
   case round=>
    obtain⟨t,rfl,ht,H0,EK,u⟩:=hrel;have HG:=Ab H0;clear H0;obtain⟨d0,d1,d2⟩:=FW wr (K3.trans u);by_cases CL:t<Z a
    ·(have NL:(t:Int)<(Z a:Int):=by omega);(have NB:(0:Int)<=(t:Int):=by omega);obtain⟨ga,Nq,HZ,_,HF⟩:=AC (f:=Ah) (l:=a) (Ew.kept (Aa HU) u) (λ_ _=>rfl) t CL;have Nx:=Xt (Aa HU);have a0:=HF t CL 0 (by omega);simp only[fg]at HZ;obtain⟨rfl,-,rfl⟩:=HZ;simp[Ah]at a0;(have EX:kt (C1 n a[t]=hG->(a.take (t+1)).all (C1 n)=hG):=λh=>au _ _ t CL (Aa EK) h);(have CW:kt (C1 n a[t]=K->a.all (C1 n)=K):=λh=>List.all_eq_false.2 ⟨a[t],fj CL,by rw[h];simp⟩);obtain⟨Ax,hY⟩:=kK (a[t]);rw[hY]at a0 EX CW;clear hY HF;(go_wp2_with fail);refine(MY Ax wr u).mono ?_;rintro _ w7 ⟨rfl,Mo⟩;subst Mo;cases hb:C1 n Ax with
     |true=>
      have AB:=Ab (EX hb);clear EX CW a0;go_wp2_with fail
      go_roundg (Z a-(t+1))
      case measure=>have:=Aa HG;omega
      case rel=>exact⟨t+1,by go_num,by omega,rfl,AB,u⟩
     |false=>
      have F:kt (Mc g s w (j3 (.tuple #[kx #[O d,U (V ⟨ga,0,Y⟩) (Z a) j],X J 7])) ((w7.setCell ⟨R,0,Y⟩ (O d)).setCell ⟨R,1,Y⟩ (U (V ⟨ga,0,Y⟩) (Z a) j))):=W _ 7 (H9 7 (by rw[Aa CW hb];rfl)) (((H6.trans u).setCell (p:=⟨R,0,Y⟩) (kp (Aa E)) _).setCell (p:=⟨R,1,Y⟩) (kp (Aa E)) _) (((HV.trans' u (by simp)).setCell (p:=⟨R,0,Y⟩) (by simp) _).setCell (p:=⟨R,1,Y⟩) (by simp) _);have o:=Ab ((Aa HN).kept u);have A:=o.cell 0;have B:=o.cell 1;have Q:=o.frozen 0;have P:=o.frozen 1;simp at A B;clear EX CW a0 EK HG;(go_wp2_with fail);refine fL (An rfl (by rfl) (((Aa o).set 0 _).set 1 _) underlying63 rfl (by kernel_rfl)) rfl ?_;exact F
    ·(obtain rfl:t=Z a:=by omega);have F:kt (Mc g s w (j3 (.tuple #[kx #[O d,U k (Z a) j],X J 0])) ((wr.setCell ⟨R,0,Y⟩ (O d)).setCell ⟨R,1,Y⟩ (U k (Z a) j))):=W _ 0 (H9 0 (by have h:=Aa EK;rw[gT]at h;rw[fF h])) (((H6.trans u).setCell (p:=⟨R,0,Y⟩) (kp (Aa E)) _).setCell (p:=⟨R,1,Y⟩) (kp (Aa E)) _) (((HV.trans' u (by simp)).setCell (p:=⟨R,0,Y⟩) (by simp) _).setCell (p:=⟨R,1,Y⟩) (by simp) _);have o:=Ab ((Aa HN).kept u);have A:=o.cell 0;have B:=o.cell 1;have Q:=o.frozen 0;have P:=o.frozen 1;simp at A B;(have NE:¬(Z a:Int)<(Z a:Int):=by omega);clear EK HG;(go_wp2_with fail);refine fL (An rfl (by rfl) (((Aa o).set 0 _).set 1 _) underlying63 rfl (by kernel_rfl)) rfl ?_;exact F
  ·(have HD:(I !=(Z a:Int))=hG:=by simp[N]);have F:kt (Mc g s w (j3 (.tuple #[kx #[O d,U k (Z a) j],X J 4])) ((w5.setCell ⟨R,0,Y⟩ (O d)).setCell ⟨R,1,Y⟩ (U k (Z a) j))):=W _ 4 (by
     unfold EI
     rw[fF ho,fB]
     rw[<-Aa EY]
     show¬B3 g d=(Z a:Int)
     rw[Aa FC]
     exact N) ((AT.setCell (p:=⟨R,0,Y⟩) (kp (Aa E)) _).setCell (p:=⟨R,1,Y⟩) (kp (Aa E)) _) ((Go.setCell (p:=⟨R,0,Y⟩) (by simp) _).setCell (p:=⟨R,1,Y⟩) (by simp) _)
   (go_wp2_with fail);refine fL (An rfl (by rfl) (((Aa H).set 0 _).set 1 _) underlying63 rfl (by kernel_rfl)) rfl ?_;exact F
