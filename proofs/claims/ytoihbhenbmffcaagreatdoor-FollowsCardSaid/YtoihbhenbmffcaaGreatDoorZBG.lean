import Derived.Test.YtoihbhenbmffcaaGreatDoorZBB
import Derived.Test.YtoihbhenbmffcaaGreatDoorZAX
set_option linter.unusedVariables false
set_option linter.unusedSimpArgs false
set_option maxHeartbeats 6400000
namespace Go.Proofs.YtoihbhenbmffcaaGreatDoor
open Go.RowKit
open Go.Proofs.Tryz
abbrev Gk(D:Nat):Deferred:={target:= .collected D,args:=#[]}
def Zv{α:Type}(P:Program)(l:Nat)(encs:α->Array Value)(xs:List α)(J Jx:List α->List Nat->World->Prop):Prop:=
 ∀pre x rest M W1,xs=pre++x::rest->J pre M W1->YieldAt Fence.wide 0 P l (encs x) W1 λe W'=>
  (e= .returned (.bool true)/\∃M',J (pre++[x]) M' W'/\Ac M W1 W'/\∀k∈M',(k∈M\/W1.heap.size<=k)/\k<W'.heap.size)\/
  (e= .returned (.bool false)/\∃M',Jx (pre++[x]) M' W'/\Ac (l::M) W1 W')
def Mi{α:Type}(P:Program)(g:Nat)(lb:Array Value)(encs:α->Array Value)(xs:List α)(M0:List Nat)(w:World):Prop:=
 ∀(l:Nat) (J Jx:List α->List Nat->World->Prop) (W:World),Ac [] w W->w.heap.size<=l->l<W.heap.size->
  OwnFrom W.heap.size (fun(s:List α×List Nat) W=>J s.1 s.2 W)->OwnFrom W.heap.size (fun(s:List α×List Nat) W=>Jx s.1 s.2 W)->
  Zv P l encs xs J Jx->J [] M0 W->
  Calls P g (#[.func (.yield l) #[] #[]]++lb) W λe W'=>(∃v,e= .returned v)/\((∃M',J xs M' W')\/(∃pre M',Jx pre M' W'))
def Tz{α:Type}(I:List α->List Nat->World->Prop)(Ix:Code->List α->List Nat->World->Prop)(xs:List α)(M:List Nat)(W:World):Exit->Act->World->Prop
 | .normal,_,W'=>Ac M W W'/\∃M',I xs M' W'/\∀k∈M',(k∈M\/W.heap.size<=k)/\k<W'.heap.size
 | .ret,_,W'=>Ac M W W'/\∃M',Ix .ret xs M' W'
 | .exit id,_,W'=>Ac M W W'/\∃M',Ix (.exit id) xs M' W'
 | .goto t,_,W'=>Ac M W W'/\∃M',Ix (.goto t) xs M' W'
 | .panic _,_,_=>False
 | .outgrown,_,_=>False
theorem KN{K:Act->World->Prop}{Q:Exit->Act->World->Prop}(h:¬LetsOut Q):¬LetsOut (Exit.then K Q):=fun⟨a,w,q⟩=>h ⟨a,w,q⟩
theorem Jk:¬LetsOut (fun(_:Exit) (_:Act) (_:World)=>False):=fun⟨_,_,q⟩=>q
theorem Ac.grow{w w':World}(k:Ac [] w w'):w.grownBy w' none:=⟨k.os,k.tape,k.output,k.size,λi a _=>k.block i a (by simp)⟩
theorem BH{β:Type}{B:Nat}{I:β->World->Prop}(h:OwnFrom B I){s:β}{W a:World}(b:I s W)(k:Ac [] W a):I s a:=h s W a none b k.grow (λr e=>by cases e)
variable {P:Program}
theorem WF{α:Type}{g:Operand}{ps:Array Tmp}{assign body:Code}{Q:Exit->Act->World->Prop}{a:Act}{w:World}{gf:Nat}{lb:Array Value}{encs:α->Array Value}{xs:List α}{M0:List Nat}
  (hg:a.eval g= .func (.func gf) #[] lb) (eg:∀args w,(callFunc gf args).run P w= .ok (.enter gf args) w)
  (hseq:Mi P gf lb encs xs M0 w) (hps:∀x,(encs x).size=ps.size) (hM0:∀k∈M0,k<w.heap.size)
  (I:List α->List Nat->World->Prop) (Ix:Code->List α->List Nat->World->Prop)
  (hI:OwnFrom w.heap.size (fun(s:List α×List Nat) W=>I s.1 s.2 W)) (hIx:∀c,OwnFrom w.heap.size (fun(s:List α×List Nat) W=>Ix c s.1 s.2 W)) (h0:I [] M0 w)
  (Ax:Nat->α->Act->World->Prop) (hAx:∀n0 x a',OwnFrom w.heap.size (fun(_:Unit) W=>Ax n0 x a' W))
  (hassign:∀(l:Nat) (x:α) (W:World) (K:Act->World->Prop),x∈xs->w.heap.size<=W.heap.size->(∀a' W',Ac [] W W'->Ax W.heap.size x a' W'->K a' W')->
   assign.wpIn (Fence.wide.inRound l) 0 P (Exit.then K (λ_ _ _=>False)) {tmps:=(ps.zip (encs x)).foldl (λt (p,v)=>t.setIfInBounds p v) a.tmps,defers:=[]} W)
  (hbody:∀(l n0:Nat) (pre:List α) (x:α) (rest:List α) (M:List Nat) (a':Act) (W:World),xs=pre++x::rest->I pre M W->(∀k∈M,k<n0)->w.heap.size<=n0->n0<=W.heap.size->Ax n0 x a' W->
   body.wpIn (Fence.wide.inRound l) 0 P (Tz I Ix (pre++[x]) M W) a' W)
  (hdone:∀(D:Nat) (M':List Nat) (W:World),w.heap.size<=D->I xs M' W->W.heap[D]?=some (.deferred (some []))->(∀k∈M',k≠D)->Q .normal {a with defers:=Gk D::a.defers} W)
  (hstop:∀(D:Nat) (c:Code) (pre:List α) (M':List Nat) (W:World),w.heap.size<=D->Ix c pre M' W->W.heap[D]?=some (.deferred (some []))->c.wp P Q {a with defers:=Gk D::a.defers} W):
  (Code.rangeFunc g ps assign body).wp P Q a w:=by
 refine wpIn_wide.1 (wpIn_rangeFunc (n:=1) ?_);intro fn _;obtain⟨rec,hrec⟩:∃rec:LoopState->Option Code->Loop,rec=λst pe=>{state:=st,pending:=pe,fn,tmps:=a.tmps,params:=ps,assign,body,defers:=w.heap.size}:=⟨_,rfl⟩
 obtain⟨D,hD⟩:∃D,w.heap.size=D:=⟨_,rfl⟩;obtain⟨W1,hW1⟩:∃W1,(w.alloc (.deferred (some []))).alloc (.loop (rec .ready none))=W1:=⟨_,rfl⟩;have hs1:W1.heap.size=D+2:=by rw[<-hW1];simp;omega
 have hk1:Ac [] w W1:=by rw[<-hW1];exact((Ac.refl [] w).alloc _).alloc _
 have hL1:W1.heap[D+1]?=some (.loop (rec .ready none)):=by
  rw[<-hW1];have:=World.alloc_heap_new (w.alloc (.deferred (some []))) (.loop (rec .ready none))
  rwa [aP,hD]at this
 have hK1:W1.heap[D]?=some (.deferred (some [])):=by
  rw[<-hW1];have h2:=World.alloc_heap_new w (.deferred (some []));rw[hD]at h2;have h3:=(Ac.refl [] (w.alloc (.deferred (some [])))).alloc (.loop (rec .ready none));rw[h3.block D (by simp;omega) (by simp)];exact h2
 refine⟨D+1,[Gk D],W1,{target:= .fn (.func gf) lb,args:=#[.func (.yield (D+1)) #[] #[]]},W1,gf,#[.func (.yield (D+1)) #[] #[]]++lb,W1,?_,?_,λ_ _=>trivial,?_,λh=>(by cases h),?_⟩
 ·rw[<-hW1,hrec,<-hD];exact run_enterLoop_outer _ _ _ _ _
 ·simp only[resolve,hg];simp[go_sem]
 ·simp[invoke,go_sem,eg]
 refine callsIn_wide.2 ?_;have own2:∀{A B:World} {row:Option Nat} {k:Nat} {o:Obj},A.grownBy B row->(∀r,row=some r->W1.heap.size<=r/\∃o:Obj,A.heap[r]?=some o/\o.isCells=false)->k<W1.heap.size->A.heap[k]?=some o->B.heap[k]?=some o:=by
  intro A B row k o hgr hr hk ho;rw[hgr.block k (bg.1 ho).1 (λe=>by have:=(hr k e.symm).1;omega)];exact ho
 have own1:∀{A:World} {row:Option Nat},(∀r,row=some r->W1.heap.size<=r/\∃o:Obj,A.heap[r]?=some o/\o.isCells=false)->∀r,row=some r->w.heap.size<=r/\∃o:Obj,A.heap[r]?=some o/\o.isCells=false:=
  λhr r e=>⟨by have:=(hr r e).1;omega,(hr r e).2⟩
 refine(hseq (D+1)
  (λpre M W=>I pre M W/\W.heap[D+1]?=some (.loop (rec .ready none))/\W.heap[D]?=some (.deferred (some []))/\∀k∈M,k≠D/\k≠D+1/\k<W.heap.size)
  (λpre M W=>∃c,Ix c pre M W/\W.heap[D+1]?=some (.loop (rec .done (some c)))/\W.heap[D]?=some (.deferred (some [])))
  W1 hk1 (by omega) (by omega)
  (λs A B row hs hgr hr=>⟨hI s A B row hs.1 hgr (own1 hr),own2 hgr hr (by omega) hs.2.1,own2 hgr hr (by omega) hs.2.2.1,λk hk=>⟨(hs.2.2.2 k hk).1,(hs.2.2.2 k hk).2.1,cB (hs.2.2.2 k hk).2.2 hgr.size⟩⟩)
  (λs A B row hs hgr hr=>by
   obtain⟨c,hc,hl,hd⟩:=hs
   exact⟨c,hIx c s A B row hc hgr (own1 hr),own2 hgr hr (by omega) hl,own2 hgr hr (by omega) hd⟩)
  ?_ ⟨BH hI (s:=([],M0)) h0 hk1,hL1,hK1,λk hk=>⟨by have:=hM0 k hk;omega,by have:=hM0 k hk;omega,by have:=hM0 k hk;omega⟩⟩).mono ?_
 ·
  rintro pre x rest M W hxs ⟨hi,hl,hd,hM⟩;have hlt:D+1<W.heap.size:=(bg.1 hl).1;have hy:=run_yield (P:=P) (args:=encs x) hl (by rw[hrec];exact hps x);rw[hrec]at hy;refine⟨fn,_,assign,body,hy,roundIn_of_wpIn trivial (hassign _ x W _ (by rw[hxs];simp) (by omega) ?_)⟩;clear hy;intro a' Wa hka hax;have hla:Wa.heap[D+1]?=some (.loop (rec .ready none)):=(hka.block _ hlt (by simp)).trans hl;have hda:Wa.heap[D]?=some (.deferred (some [])):=(hka.block _ (by omega) (by simp)).trans hd;have hia:I pre M Wa:=BH hI (s:=(pre,M)) hi hka;refine⟨_,run_beginRound hla (by rw[hrec]),?_⟩;have hsz:=hka.size;have hlta:D+1<Wa.heap.size:=by omega
  have hl2:(Wa.putObj (D+1) (.loop {rec .ready none with state:= .busy})).heap[D+1]?=some (.loop {rec .ready none with state:= .busy}):=World.putObj_heap_same hlta;have hd2:(Wa.putObj (D+1) (.loop {rec .ready none with state:= .busy})).heap[D]?=some (.deferred (some [])):=(World.putObj_heap_other (by omega)).trans hda;have hs2:(Wa.putObj (D+1) (.loop {rec .ready none with state:= .busy})).heap.size=Wa.heap.size:=by simp
  refine wpIn_mono (hbody _ W.heap.size pre x rest M a' _ hxs (hI.putObj (s:=(pre,M)) _ hia (by omega) hla rfl) (λk hk=>(hM k hk).2.2) (by omega) (by rw[hs2];omega) ((hAx _ x a').putObj (s:=()) _ hax (by omega) hla rfl)) ?_;have fin:∀(jump:Option Code) (W3:World),Ac M (Wa.putObj (D+1) (.loop {rec .ready none with state:= .busy})) W3->
    (Instr.endRound (D+1) jump).run P W3= .ok (.bool jump.isNone) (W3.putObj (D+1) (.loop (rec (if jump.isNone then .ready else .done) jump)))/\
    W3.heap[D+1]?=some (.loop {rec .ready none with state:= .busy})/\
    (W3.putObj (D+1) (.loop (rec (if jump.isNone then .ready else .done) jump))).heap[D+1]?=some (.loop (rec (if jump.isNone then .ready else .done) jump))/\
    (W3.putObj (D+1) (.loop (rec (if jump.isNone then .ready else .done) jump))).heap[D]?=some (.deferred (some [])):=λjump W3 hk3=>by
   have hl3:=(hk3.block (D+1) (by rw[hs2];omega) (λh=>(hM _ h).2.1 rfl)).trans hl2;have hd3:=(hk3.block D (by rw[hs2];omega) (λh=>(hM _ h).1 rfl)).trans hd2;have:=run_endRound (P:=P) jump hl3;rw[hrec]at this⊢;exact⟨this,by rw[hrec]at hl3;exact hl3,World.putObj_heap_same (bg.1 hl3).1,(World.putObj_heap_other (by omega)).trans hd3⟩
  have fk:∀(o:Obj) (W3:World),Ac M (Wa.putObj (D+1) (.loop {rec .ready none with state:= .busy})) W3->Ac ((D+1)::M) W (W3.putObj (D+1) o):=λo W3 hk3=>by
   have hs3:=hk3.size;rw[hs2]at hs3;refine⟨hk3.os.trans hka.os,hk3.tape.trans hka.tape,hk3.output.trans hka.output,by simp;omega,λk hk hkm=>?_⟩;rw[aj,not_or]at hkm;rw[World.putObj_heap_other hkm.1,hk3.block k (by rw[hs2];omega) hkm.2,World.putObj_heap_other hkm.1,hka.block k hk (by simp)]
  rintro e a3 W3 hp;cases e with
  |normal=>
   obtain⟨hk3,M',hi3,hM'⟩:=hp;obtain⟨hr,hl3,hl4,hd4⟩:=fin none W3 hk3;have hs3:=hk3.size;refine⟨_,_,hr, .inl ⟨rfl,M',⟨hI.putObj (s:=(pre++[x],M')) _ hi3 (by omega) hl3 rfl,hl4,hd4,λk hk=>?_⟩,?_,λk hk=>?_⟩⟩
   ·have h1:=hM' k hk;refine⟨λe=>?_,λe=>?_,by simp;exact h1.2⟩
    ·rcases h1.1 with h2|h2
     ·exact(hM k h2).1 e
     ·rw[hs2]at h2;omega
    ·rcases h1.1 with h2|h2
     ·exact(hM k h2).2.1 e
     ·rw[hs2]at h2;omega
   ·rw[hs2]at hs3;refine⟨?_,?_,?_,by simp;omega,λk hk hkm=>?_⟩
    ·exact hk3.os.trans hka.os
    ·exact hk3.tape.trans hka.tape
    ·exact hk3.output.trans hka.output
    ·by_cases hkl:k=D+1
     ·subst hkl;rw[hl4,hl];rfl
     ·rw[World.putObj_heap_other hkl,hk3.block k (by rw[hs2];omega) hkm,World.putObj_heap_other hkl,hka.block k hk (by simp)]
   ·have h1:=hM' k hk;rw[hs2]at h1;exact⟨h1.1.imp id (λh=>by omega),by simp;exact h1.2⟩
  |ret=>
   obtain⟨hk3,M',hi3⟩:=hp;obtain⟨hr,hl3,hl4,hd4⟩:=fin (some .ret) W3 hk3;exact⟨_,_,hr, .inr ⟨rfl,M',⟨.ret,(hIx _).putObj (s:=(pre++[x],M')) _ hi3 (by omega) hl3 rfl,hl4,hd4⟩,fk _ W3 hk3⟩⟩
  |exit id=>
   obtain⟨hk3,M',hi3⟩:=hp;obtain⟨hr,hl3,hl4,hd4⟩:=fin (some (.exit id)) W3 hk3;exact⟨_,_,hr, .inr ⟨rfl,M',⟨.exit id,(hIx _).putObj (s:=(pre++[x],M')) _ hi3 (by omega) hl3 rfl,hl4,hd4⟩,fk _ W3 hk3⟩⟩
  |goto t=>
   obtain⟨hk3,M',hi3⟩:=hp;obtain⟨hr,hl3,hl4,hd4⟩:=fin (some (.goto t)) W3 hk3;exact⟨_,_,hr, .inr ⟨rfl,M',⟨.goto t,(hIx _).putObj (s:=(pre++[x],M')) _ hi3 (by omega) hl3 rfl,hl4,hd4⟩,fk _ W3 hk3⟩⟩
  |panic ch=>exact hp.elim
  |outgrown=>exact hp.elim
 ·
  rintro e W2 ⟨⟨v,rfl⟩,(⟨M',hi,hl,hd,hM⟩|⟨pre,M',c,hi,hl,hd⟩)⟩
  ·exact⟨none,_,by have:=run_endLoop (P:=P) hl (by rw[hrec];simp);rw[hrec]at this;exact this,hdone _ M' _ (by omega) (hI.putObj (s:=(xs,M')) _ hi (by omega) hl rfl) ((World.putObj_heap_other (by omega)).trans hd) (λk hk=>(hM k hk).1)⟩
  ·exact⟨some c,_,by have:=run_endLoop (P:=P) hl (by rw[hrec];simp);rw[hrec]at this;exact this,wpIn_wide.2 (hstop _ c pre M' _ (by omega) ((hIx c).putObj (s:=(pre,M')) _ hi (by omega) hl rfl) ((World.putObj_heap_other (by omega)).trans hd))⟩
theorem CR{β:Type}{B:Nat}{I:β->World->Prop}(h:∀s W b M,I s W->Ac M W b->(∀r∈M,B<=r/\∃o:Obj,W.heap[r]?=some o/\o.isCells=false)->I s b):OwnFrom B I:=λs W b f j a i=>
 h s W b f.toList j ⟨a.os,a.tape,a.output,a.size,λk d c=>a.block k d (λe=>c (by rw[<-e];simp))⟩ (λr g=>i r (by simpa using g))
theorem Do{W:World}{B:Nat}{M:List Nat}(c:∀r∈M,B<=r/\∃o:Obj,W.heap[r]?=some o/\o.isCells=false){b:Nat}{cs:List Value}{t:TypeId}(h:Aw W b cs t):b∉M:=λd=>by
 obtain⟨_,o,a,e⟩:=c b d;unfold Aw at h;rw[h]at a;cases a
 cases e
theorem Gb{W:World}{B:Nat}{M:List Nat}(f:∀r∈M,B<=r/\∃o:Obj,W.heap[r]?=some o/\o.isCells=false){base e size n:Nat}{v:Value}{j:List Value}(h:W.ownsRow base e size v n j):∀i,v.ownBlock=some i->i∉M:=λi a d=>by
 obtain⟨_,o,b,l⟩:=f i d;rcases h.2 with⟨rfl,_⟩|⟨g,c,m,rfl,_,k,_⟩
 ·simp[Value.ownBlock]at a
 ·simp only[Value.ownBlock,ai]at a;subst a;rw[k]at b;cases b
  cases l
theorem Ge{a W b:World}{B:Nat}{M:List Nat}(h:Ac [] a W)(k:Ac M W b)(c:∀r∈M,B<=r/\∃o:Obj,W.heap[r]?=some o/\o.isCells=false)(e:a.heap.size<=B):Ac [] a b:=
 h.trans' k (λi d=>Or.inr (by have:=(c i d).1;omega))
def S8:List Nat->World->World->Prop
 |[],w,w'=>w'=w
 |D::ds,w,w'=>S8 ds (w.putObj D (.deferred none)) w'
structure D3(B:Nat)(ds:List Nat)(w:World):Prop where
 nodup:ds.Nodup
 ge:∀D∈ds,B<=D
 at_:∀D∈ds,w.heap[D]?=some (.deferred (some []))
theorem S8.own{β:Type}{B:Nat}{I:β->World->Prop}(f:OwnFrom B I){s:β}:∀{ds:List Nat} {w a:World},S8 ds w a->D3 B ds w->I s w->I s a
 |[],w,a,h,_,hi=>by
  have h:a=w:=h;rw[h];exact hi
 |D::ds,w,a,h,hm,hi=>by
  have c:=ck.1 hm.nodup;refine S8.own f (ds:=ds) h ⟨c.2,λd b=>hm.ge d (be _ b),λd b=>?_⟩ (OwnFrom.putObj f _ hi (hm.ge D (bC ..)) (hm.at_ D (bC ..)) rfl);rw[World.putObj_heap_other (λe=>c.1 (by rw[<-e];exact b))];exact hm.at_ d (be _ b)
theorem EH{P:Program}{fn:Func}{tmps:Array Value}{R:Ending->World->Prop}{B:Nat}:∀(b:List Nat) (w:World),D3 B b w->
  (∀a,S8 b w a->∃v,(results fn tmps).run P a= .ok v a/\R (.returned v) a)->LeavesInM Fence.wide 0 P fn tmps R (b.map Gk) .returning w
 |[],w,_,h=>h w rfl
 |D::b,w,hm,h=>by
  have f:=ck.1 hm.nodup;refine⟨by simp, .inl ⟨D,_,rfl,run_takeDeferred (hm.at_ D (bC ..)),EH (B:=B) b _ ⟨f.2,λd c=>hm.ge d (be _ c),λd c=>?_⟩ (λa g=>h a g)⟩⟩;rw[World.putObj_heap_other (λe=>f.1 (by rw[<-e];exact c))];exact hm.at_ d (be _ c)
theorem GE{P:Program}{f:FuncId}{fn:Func}{c:Code}{args:Array Value}{w:World}{R:Ending->World->Prop}(a:P.funcs[f]?=some fn)(b:fn.body=some c)
  (h:c.wp P (bodyPostM Fence.wide 0 P fn R) {tmps:=args++Array.replicate (fn.ntmps-args.size) undef,defers:=[]} w):Calls P f args w R:=
 callsIn_wide.1 (callsIn_of_wp_marks a b trivial (wpIn_wide.2 h))
theorem VY{P:Program}{fn:Func}{R:Ending->World->Prop}(h:∀w,¬R .outgrown w):¬LetsOut (bodyPostM Fence.wide 0 P fn R):=fun⟨_,w,q⟩=>h w q
theorem J1{P:Program}{F:Fence}{n:Nat}(hF:∀f,F.fn f)(g:F.depth=none)(k:Machine.fenced P F=Machine.fenced P Fence.wide){ops:Array Oper}{Q:Exit->Act->World->Prop}{d:List Oper}{o:Oper}{a:Act}{w:World}{l:Nat}{args:Array Value}{R:Ending->World->Prop}
  (i:Region.wanted o (yielded ops a.tmps)=true) (x:(o.semAt F.round a.eval).run P w=(Instr.yield l args).run P w) (p:YieldAt Fence.wide 0 P l args w R)
  (r:∀e b,R e b->∃v,e= .returned v/\wpListIn F n P ops Q d (a.put o.dst v) b):wpListIn F n P ops Q (o::d) a w:=by
 unfold wpListIn;rw[if_pos i];refine⟨λf _=>hF f,?_⟩;obtain⟨q,B,z,A,t,m⟩:=p;rw[x,t];refine⟨λh=>(by rw[g]at h;cases h),hF q,λc s _=>?_⟩;obtain⟨e,b,u,y⟩:=m.2 c s (room_wide _);obtain⟨v,rfl,j⟩:=r e b u;refine⟨.returned v,b,j,?_⟩;rw[k];exact y
theorem Jh{P:Program}{α:Type}{g:Operand}{p q:Nat}{T:TypeId}{F E:Code}{Q:Exit->Act->World->Prop}{a:Act}{w:World}{o:Nat}{G:Array Value}{b:α->List Value}{r:List α}{A:List Nat}
  (L:a.eval g= .func (.func o) #[] G) (U:∀C w,(callFunc o C).run P w= .ok (.enter o C) w)
  (H:Mi P o G (λx=>#[.agg (b x).toArray]) r A w) (Z:∀k∈A,k<w.heap.size)
  (I:List α->List Nat->World->Prop) (n:Code->List α->List Nat->World->Prop)
  (X:OwnFrom w.heap.size (fun(s:List α×List Nat) W=>I s.1 s.2 W)) (AT:∀c,OwnFrom w.heap.size (fun(s:List α×List Nat) W=>n c s.1 s.2 W)) (J:I [] A w)
  (Y:∀(l:Nat) (x:α) (W:World) (K:Act->World->Prop),x∈r->Hid (∀f,Ac [] W f->Aw f W.heap.size (b x) T->K {tmps:=(a.tmps.setIfInBounds p (.agg (b x).toArray)).setIfInBounds q (.pointer (some ⟨W.heap.size,0,none⟩)),defers:=[]} f)->
   F.wpIn (Fence.wide.inRound l) 0 P (Exit.then K (λ_ _ _=>False)) {tmps:=a.tmps.setIfInBounds p (.agg (b x).toArray),defers:=[]} W)
  (BA:∀(l m:Nat) (d:List α) (x:α) (B:List α) (M:List Nat) (W:World),r=d++x::B->I d M W->(∀k∈M,k<m)->w.heap.size<=m->Aw W m (b x) T->
   E.wpIn (Fence.wide.inRound l) 0 P (Tz I n (d++[x]) M W) {tmps:=(a.tmps.setIfInBounds p (.agg (b x).toArray)).setIfInBounds q (.pointer (some ⟨m,0,none⟩)),defers:=[]} W)
  (V:∀(D:Nat) (j:List Nat) (W:World),w.heap.size<=D->I r j W->W.heap[D]?=some (.deferred (some []))->(∀k∈j,k≠D)->Q .normal {a with defers:=Gk D::a.defers} W)
  (Ax:∀(D:Nat) (c:Code) (d:List α) (j:List Nat) (W:World),w.heap.size<=D->n c d j W->W.heap[D]?=some (.deferred (some []))->c.wp P Q {a with defers:=Gk D::a.defers} W):
  (Code.rangeFunc g #[p] F E).wp P Q a w:=by
 refine WF L U H (λ_=>rfl) Z I n X AT J (λi x z W=>Aw W i (b x) T/\z={tmps:=(a.tmps.setIfInBounds p (.agg (b x).toArray)).setIfInBounds q (.pointer (some ⟨i,0,none⟩)),defers:=[]}) ?_ ?_ ?_ V Ax
 ·intro i x z;exact CR (λ_ W f M h k u=>⟨h.1.kept k (Do u h.1),h.2⟩)
 ·intro l x W K hx _ S;have e:(#[p].zip #[Value.agg (b x).toArray]).foldl (λt (x:Nat×Value)=>match x with|(p,v)=>t.setIfInBounds p v) a.tmps=a.tmps.setIfInBounds p (.agg (b x).toArray):=by simp
  have h:=Y l x W K hx (λf O y=>S _ f O ⟨y,rfl⟩);rw[<-e]at h;exact h
 ·rintro l i d x B M z W N hi u R h2 ⟨y,rfl⟩;exact BA l i d x B M W N hi u R y
theorem JC{P:Program}{c n:Nat}{os:List Oper}{a:Act}{w:World}{Q:Exit->Act->World->Prop}(k:Nat)(b:¬LetsOut Q)
  (h:∀K:Act->World->Prop,Hid (∀a w,wpListIn Fence.wide n P os.toArray Q (os.drop k) a w->K a w)->wpList P os.toArray (Exit.then K Q) (os.take k) a w):(Code.region c os.toArray false).wp P Q a w:=
 Lh (n:=n) (bF k os).symm b (h _ (λ_ _ h=>h))
theorem MJ{P:Program}{c n l:Nat}{os:List Oper}{a:Act}{w:World}{Q:Exit->Act->World->Prop}(k:Nat)(b:DN (os.take k)=true)(d:¬LetsOut Q)
  (h:∀K:Act->World->Prop,Hid (∀a w,wpListIn (Fence.wide.inRound l) n P os.toArray Q (os.drop k) a w->K a w)->wpList P os.toArray (Exit.then K Q) (os.take k) a w):(Code.region c os.toArray false).wpIn (Fence.wide.inRound l) n P Q a w:=
 Kh (n:=n) (bF k os).symm b d (h _ (λ_ _ h=>h))
theorem E5{P:Program}{n:Nat}{ops:Array Oper}{os:List Oper}{a:Act}{w:World}{Q:Exit->Act->World->Prop}(c:¬LetsOut Q)(h:wpList P ops Q os a w):wpListIn Fence.wide n P ops Q os a w:=by
 have b:=I8 (P:=P) (ops:=ops) (Q:=Q) (n:=n) c [] os a w (by
  have d:Exit.then (wpListIn Fence.wide n P ops Q []) Q=Q:=by
   funext e a w
   cases e<;>rfl
  rw[d]
  exact h)
 rw[aX]at b;exact b
theorem II{P:Program}{n l:Nat}{ops:Array Oper}{os:List Oper}{a:Act}{w:World}{Q:Exit->Act->World->Prop}(c:DN os=true)(d:¬LetsOut Q)(h:wpList P ops Q os a w):wpListIn (Fence.wide.inRound l) n P ops Q os a w:=by
 have b:=Gn (P:=P) (ops:=ops) (Q:=Q) (n:=n) (l:=l) d [] os c a w (by
  have f:Exit.then (wpListIn (Fence.wide.inRound l) n P ops Q []) Q=Q:=by
   funext e a w
   cases e<;>rfl
  rw[f]
  exact h)
 rw[aX]at b;exact b
