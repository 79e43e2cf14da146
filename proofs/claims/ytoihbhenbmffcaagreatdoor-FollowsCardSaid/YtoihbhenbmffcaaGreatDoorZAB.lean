import Derived.Test.YtoihbhenbmffcaaGreatDoorZAA
set_option linter.unusedVariables false
set_option linter.unusedSimpArgs false
set_option maxHeartbeats 6400000
namespace Go.Proofs.YtoihbhenbmffcaaGreatDoor
open Go.RowKit
open Go.Proofs.Tryz
theorem Tryz.size243:(Tryz.prog.info? 243).map (·.size)=some 26:=by kernel_rfl
theorem Tryz.size90:(Tryz.prog.info? 90).map (·.size)=some 26:=by kernel_rfl
theorem World.setCells_list(b:Nat)(t:TypeId):∀(a:List Value) (o:Nat) (w:World) (c:List Value),Aw w b c t->o+a.length<=c.length->Aw (w.setCells b o a) b (c.take o++a++c.drop (o+a.length)) t
 |[],o,w,c,h,hl=>by
  simp only[aH,eD,aX,bF];exact h
 |v::a,o,w,c,h,hl=>by
  simp only[ak]at hl;have ih:=World.setCells_list b t a (o+1) (w.setCell ⟨b,o,none⟩ v) (c.set o v) (h.set o v) (by simp;omega);have e:(c.set o v).take (o+1)++a++(c.set o v).drop (o+1+a.length)=c.take o++v::a++c.drop (o+(v::a).length):=by
   rw[List.drop_set,if_pos (by omega),ac (by simp;omega),List.getElem_set_self,List.take_set,List.set_eq_of_length_le (by simp;omega)];simp only[ak,bk,el,cJ,bU];rw[show o+1+a.length=o+(a.length+1) by omega]
  rw[e]at ih;exact ih
theorem Aw.setAll{w:World}{b:Nat}{cs:List Value}{t:TypeId}(h:Aw w b cs t)(a:List Value)(c:a.length=cs.length):Aw (w.setCells b 0 a) b a t:=by
 have:=World.setCells_list b t a 0 w cs h (by omega);rw[bf,c,List.drop_length]at this;simpa using this
theorem Ac.putCells{M:List Nat}{a w:World}(h:Ac M a w){b:Nat}(d:b∈M\/a.heap.size<=b):∀(c:List Value) (o:Nat),Ac M a (w.setCells b o c)
 |[],_=>h
 |v::c,o=>(h.setCell (p:=⟨b,o,none⟩) d v).putCells d c (o+1)
end Go.Proofs.YtoihbhenbmffcaaGreatDoor
namespace Go.Proofs.YtoihbhenbmffcaaGreatDoor
open Go.RowKit
open Go.Proofs.Tryz
section
variable {α:Type} {lt eq:α->α->Bool}
def Bv(ls:List (List α))(i:Nat):List α:=ls.getD i []
theorem Ee{ls:List (List α)}{i:Nat}(h:i<ls.length):Bv ls i∈ls:=by
 unfold Bv;rw[aq,aA h];exact Z7 h
theorem Xi{ls:List (List α)}{l:List α}(h:l∈ls):∃i,i<ls.length/\Bv ls i=l:=by
 obtain⟨i,a,e⟩:=aZ h;refine⟨i,a,?_⟩;unfold Bv;rw[aq,aA a];exact e
def Iy(ls:List (List α))(y:α):Prop:=∀l∈ls,y∈l
def Ev(k t:Nat):Nat:=if t+1=k then 0 else t+1
theorem Xj{k t:Nat}(h:t<k):(t+1)%k=Ev k t:=by
 unfold Ev;split
 ·rename_i e;rw[e,Nat.mod_self]
 ·exact Nat.mod_eq_of_lt (by omega)
theorem Qz{k t:Nat}(h:t<k):Ev k t<k:=by
 unfold Ev;split<;>omega
def KO(k t ag i:Nat):Prop:=(ag<=t/\t-ag<=i/\i<t)\/(t<ag/\(i<t\/t+k-ag<=i))
theorem X0{k t a i:Nat}(c:t<k)(b:a<k)(d:i<k)(h:KO k (Ev k t) (a+1) i):KO k t a i\/i=t:=by
 unfold KO Ev at h;unfold KO;split at h<;>omega
theorem YE{k t a i:Nat}(d:t<k)(b:a+1=k)(c:i<k):KO k t a i\/i=t:=by
 unfold KO;omega
theorem Ok{k t i:Nat}:¬KO k t 0 i:=by
 unfold KO;omega
def Zy(lt:α->α->Bool)(s:α)(l:List α):Nat:=l.countP λy=> !lt y s
def QE(lt:α->α->Bool)(s:α)(ls:List (List α)):Nat:=(ls.map (Zy lt s)).sum
theorem Uv(o:L2 lt eq){s a:α}(h:lt s a=true)(l:List α):Zy lt a l<=Zy lt s l:=by
 unfold Zy;refine List.countP_mono_left (λy _ b=>?_);cases hh:lt y s with
 |false=>rfl
 |true=>rw[o.trans _ _ _ hh h]at b;cases b
theorem Yq(o:L2 lt eq){s a:α}(h:lt s a=true):∀{l:List α},s∈l->Zy lt a l<Zy lt s l
 |x::l,b=>by
  have e:∀z,Zy lt z (x::l)=Zy lt z l+(if(!lt x z)=true then 1 else 0):=λz=>by unfold Zy;rw[List.countP_cons]
  rw[e,e];have d:=Uv o h l;rcases aj.1 b with rfl|b
  ·rw[h,o.irr];simp;omega
  ·have c:=Yq o h b;cases hx:lt x s with
   |true=>rw[o.trans _ _ _ hx h];simp;omega
   |false=>
    cases lt x a<;>simp<;>omega
theorem Yu(o:L2 lt eq){s b:α}(h:lt s b=true):∀(a:List (List α)),QE lt b a<=QE lt s a
 |[]=>au _
 |l::a=>by
  have e:∀z,QE lt z (l::a)=Zy lt z l+QE lt z a:=λz=>by unfold QE;simp
  rw[e,e];have:=Uv o h l;have:=Yu o h a;omega
theorem Uw(o:L2 lt eq){s d:α}(h:lt s d=true):∀{a:List (List α)},(∃l∈a,s∈l)->QE lt d a<QE lt s a
 |l::a,b=>by
  have e:∀z,QE lt z (l::a)=Zy lt z l+QE lt z a:=λz=>by unfold QE;simp
  rw[e,e];obtain⟨q,c,b⟩:=b;have g:=Yu o h a;have f:=Uv o h l;rcases aj.1 c with rfl|c
  ·have:=Yq o h b;omega
  ·have:=Uw o h ⟨q,c,b⟩;omega
def UF(p:Nat->Nat)(t v:Nat):Nat->Nat:=λi=>if i=t then v else p i
structure Mz(lt:α->α->Bool)(ls:List (List α))(t:Nat)(s:α)(ag:Nat)(p:Nat->Nat)(m:List α):Prop where
 tk:t<ls.length
 agk:ag<ls.length
 win:∀i,i<ls.length->KO ls.length t ag i->s∈Bv ls i
 ple:∀i,i<ls.length->p i<=(Bv ls i).length
 below:∀i,i<ls.length->∀j (h:j<(Bv ls i).length),j<p i->lt (Bv ls i)[j] s=true
 src:∃l∈ls,s∈l
 sound:∀y∈m,Iy ls y
 low:∀y∈m,lt y s=true
 rise:m.Pairwise λa b=>lt a b=true
 compl:∀y,Iy ls y->y∈m\/lt y s=false
structure Pg(lt:α->α->Bool)(ls:List (List α))(t:Nat)(s:α)(ag at_:Nat)(p:Nat->Nat)(m:List α):Prop where
 tk:t<ls.length
 agk:ag<ls.length
 hlt:at_<(Bv ls t).length
 hit:(Bv ls t)[at_]=s
 win:∀i,i<ls.length->KO ls.length t ag i\/i=t->s∈Bv ls i
 ple:∀i,i<ls.length->p i<=(Bv ls i).length
 below:∀i,i<ls.length->∀j (h:j<(Bv ls i).length),j<p i->lt (Bv ls i)[j] s=true
 here:∀j (h:j<(Bv ls t).length),j<at_->lt (Bv ls t)[j] s=true
 sound:∀y∈m,Iy ls y
 low:∀y∈m,lt y s=true
 rise:m.Pairwise λa b=>lt a b=true
 compl:∀y,Iy ls y->y∈m\/lt y s=false
variable {ls:List (List α)} {t:Nat} {s:α} {ag:Nat} {p:Nat->Nat} {m:List α}
theorem Ct.mem_ge(o:L2 lt eq){l:List α}(d:Ct lt l){i:Nat}(g:i<l.length){y:α}(b:y∈l)(h:∀j (a:j<l.length),j<i->l[j]≠y):lt y l[i]=false:=by
 obtain⟨j,a,e⟩:=aZ b;have f:i<=j:=by
  by_cases c:j<i
  ·exact absurd e (h j a c)
  ·omega
 rw[<-e];exact d.up o a f (o.irr _)
theorem Mz.start(o:L2 lt eq)(b:0<ls.length)(f:Ct lt (Bv ls 0))(c:0<(Bv ls 0).length):Mz lt ls 0 (Bv ls 0)[0] 0 (λ_=>0) []:=by
 refine⟨b,b,λi k d=>absurd d Ok,λi _=>aG _,λi _ j h e=>by omega,⟨_,Ee b,Z7 c⟩,λy a=>by simp at a,λy a=>by simp at a,List.Pairwise.nil,λy a=>Or.inr ?_⟩;exact f.mem_ge o c (a _ (Ee b)) (λj e g=>by omega)
theorem Mz.before(h:Mz lt ls t s ag p m){at_:Nat}(c:Ck lt (Bv ls t) (p t) s at_):∀j (a:j<(Bv ls t).length),j<at_->lt (Bv ls t)[j] s=true:=by
 intro j a d;by_cases b:j<p t
 ·exact h.below t h.tk j a b
 ·exact c.below j a (by omega) d
theorem Mz.done(h:Mz lt ls t s ag p m){at_:Nat}(d:Ck lt (Bv ls t) (p t) s at_)(f:at_=(Bv ls t).length):∀y,y∈m↔Iy ls y:=by
 intro y;refine⟨h.sound y,λb=>?_⟩;rcases h.compl y b with a|a
 ·exact a
 ·obtain⟨j,c,e⟩:=aZ (b _ (Ee h.tk));have:=h.before d j c (by omega);rw[e,a]at this;cases this
theorem Mz.same(h:Mz lt ls t s ag p m){at_:Nat}(d:Ck lt (Bv ls t) (p t) s at_)(b:at_<(Bv ls t).length)(c:(Bv ls t)[at_]=s):Pg lt ls t s ag at_ p m:=by
 refine⟨h.tk,h.agk,b,c,λi e a=>?_,h.ple,h.below,h.before d,h.sound,h.low,h.rise,h.compl⟩;rcases a with a|rfl
 ·exact h.win i e a
 ·rw[<-c];exact Z7 b
theorem Mz.past(o:L2 lt eq)(r:Ct lt (Bv ls t))(h:Mz lt ls t s ag p m){at_:Nat}(k:Ck lt (Bv ls t) (p t) s at_)(d:at_<(Bv ls t).length)(q:(Bv ls t)[at_]≠s):Pg lt ls t (Bv ls t)[at_] 0 at_ p m/\QE lt (Bv ls t)[at_] ls<QE lt s ls:=by
 have c:lt s (Bv ls t)[at_]=true:=by
  refine o.tot _ _ (k.above at_ d (au _)) ?_;cases hq:eq (Bv ls t)[at_] s with
  |false=>rfl
  |true=>exact absurd ((o.eqv _ _).1 hq) q
 refine⟨⟨h.tk,by have:=h.tk;omega,d,rfl,λi n g=>?_,h.ple,λi n j b a=>o.trans _ _ _ (h.below i n j b a) c,λj b a=>o.trans _ _ _ (h.before k j b a) c,h.sound,λy f=>o.trans _ _ _ (h.low y f) c,h.rise,λy f=>?_⟩,Uw o c h.src⟩
 ·rcases g with g|rfl
  ·exact absurd g Ok
  ·exact Z7 d
 ·rcases h.compl y f with l|l
  ·exact Or.inl l
  ·right;refine r.mem_ge o d (f _ (Ee h.tk)) (λj b a e=>?_);have:=h.before k j b a;rw[e,l]at this;cases this
theorem PO(a:∀i,i<ls.length->p i<=(Bv ls i).length){v:Nat}(b:v<=(Bv ls t).length):∀i,i<ls.length->UF p t v i<=(Bv ls i).length:=by
 intro i c;unfold UF;split
 ·rename_i e;rw[e];exact b
 ·exact a i c
variable {at_:Nat}
theorem Pg.next(h:Pg lt ls t s ag at_ p m)(f:ag+1<ls.length):Mz lt ls (Ev ls.length t) s (ag+1) (UF p t at_) m:=by
 refine⟨Qz h.tk,f,λi b d=>h.win i b (X0 h.tk h.agk b d),PO h.ple (Nat.le_of_lt h.hlt),λi b j c a=>?_,⟨_,Ee h.tk,h.win t h.tk (Or.inr rfl)⟩,h.sound,h.low,h.rise,h.compl⟩;unfold UF at a;split at a
 ·rename_i e;subst e;exact h.here j c a
 ·exact h.below i b j c a
theorem Pg.common(h:Pg lt ls t s ag at_ p m)(b:ag+1=ls.length):Iy ls s:=by
 intro l c;obtain⟨i,a,rfl⟩:=Xi c;exact h.win i a (YE h.tk b a)
theorem Pg.took(h:Pg lt ls t s ag at_ p m)(e:ag+1=ls.length):(∀y∈m++[s],Iy ls y)/\(m++[s]).Pairwise (λa b=>lt a b=true):=by
 refine⟨λy c=>?_,?_⟩
 ·rcases aw.1 c with c|c
  ·exact h.sound y c
  ·rw[ae]at c;subst c;exact h.common e
 ·rw[dz];refine⟨h.rise,by simp,λa f b d=>?_⟩;rw[ae]at d;subst d;exact h.low a f
theorem Pg.last(o:L2 lt eq)(k:Ct lt (Bv ls t))(h:Pg lt ls t s ag at_ p m)(g:ag+1=ls.length)(i:at_+1=(Bv ls t).length):∀y,y∈m++[s]↔Iy ls y:=by
 intro y;refine⟨(h.took g).1 y,λb=>?_⟩;rw[aw,ae];rcases h.compl y b with a|a
 ·exact Or.inl a
 ·right;obtain⟨j,f,e⟩:=aZ (b _ (Ee h.tk));by_cases d:j<at_
  ·have:=h.here j f d;rw[e,a]at this;cases this
  ·(have c:j=at_:=by omega);subst c;rw[<-e];exact h.hit
theorem Pg.more(o:L2 lt eq)(q:Ct lt (Bv ls t))(h:Pg lt ls t s ag at_ p m)(n:ag+1=ls.length)(f:at_+1<(Bv ls t).length):Mz lt ls (Ev ls.length t) (Bv ls t)[at_+1] 0 (UF p t (at_+1)) (m++[s])/\QE lt (Bv ls t)[at_+1] ls<QE lt s ls:=by
 have b:lt s (Bv ls t)[at_+1]=true:=by
  have:=q at_ (at_+1) h.hlt f (by omega);rw[h.hit]at this;exact this
 have w:0<ls.length:=by have:=h.tk;omega
 refine⟨⟨Qz h.tk,w,λi r v=>absurd v Ok,PO h.ple (Nat.le_of_lt f),λi r j d c=>?_,⟨_,Ee h.tk,Z7 f⟩,(h.took n).1,λy a=>?_,(h.took n).2,λy a=>?_⟩,Uw o b ⟨_,Ee h.tk,h.win t h.tk (Or.inr rfl)⟩⟩
 ·unfold UF at c;split at c
  ·rename_i e;subst e;by_cases g:j<at_
   ·exact o.trans _ _ _ (h.here j d g) b
   ·(have l:j=at_:=by omega);subst l;rw[h.hit];exact b
  ·exact o.trans _ _ _ (h.below i r j d c) b
 ·rcases aw.1 a with a|a
  ·exact o.trans _ _ _ (h.low y a) b
  ·rw[ae]at a;subst a;exact b
 ·rw[aw,ae];rcases h.compl y a with k|k
  ·exact Or.inl (Or.inl k)
  ·by_cases u:y=s
   ·exact Or.inl (Or.inr u)
   ·right;refine q.mem_ge o f (a _ (Ee h.tk)) (λj d c e=>?_);by_cases g:j<at_
    ·have:=h.here j d g;rw[e,k]at this;cases this
    ·(have l:j=at_:=by omega);subst l;rw[h.hit]at e;exact u e.symm
end
