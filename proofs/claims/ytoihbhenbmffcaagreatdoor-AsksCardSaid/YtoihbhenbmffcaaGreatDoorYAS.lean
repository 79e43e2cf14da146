import Derived.Test.YtoihbhenbmffcaaGreatDoorYAF
import Derived.Test.YtoihbhenbmffcaaGreatDoorYAM
set_option linter.all false
set_option maxHeartbeats 0
namespace Go.Proofs.YtoihbhenbmffcaaGreatDoor
open Go.RowKit Go.Proofs.Tryz
structure KQ(w:World)(sv:Value)(fs:List Gm):Prop where
 row:w.ownsRow 0 104 2 sv fs.length (fs.flatMap Bh)
 each:∀p∈fs,Ec w p/\p.f.dc.length<=1000
theorem KQ.kept{w w':World}{c:Value}{b:List Gm}(h:KQ w c b)(k:Ac [] w w'):KQ w' c b:=⟨Ad h.row k (by simp),λp a=>⟨(h.each p a).1.kept k,(h.each p a).2⟩⟩
theorem Lt{w:World}{r:Value}{b:List Gm}(h:KQ w r b)(k:Nat)(d:k<b.length):
  ∃g m n a i f,r=.slice (some ⟨g,0,none⟩) b.length m/\b[k]=⟨⟨n,a⟩,.slice i a.length f⟩/\w.cell? ⟨g,k*2,none⟩=some (.string n)/\w.cell? ⟨g,k*2+1,none⟩=some (.slice i a.length f):=by
 obtain⟨g,m,t,_,s⟩:=Av h.row (λc _=>rfl) k d;have j:=s k d 0 (by omega);have l:=s k d 1 (by omega);obtain⟨⟨⟨n,a⟩,u⟩,o⟩:∃p,b[k]=p:=⟨_,rfl⟩;have q:=(h.each _ (bL d)).1;rw[o]at j l q;obtain⟨i,f,e⟩:=Aj q;simp only at e;subst e;simp[Bh]at j l;exact⟨g,m,n,a,i,f,t,o,j,l⟩
structure GI(fs:List Gm)(x:Ev)(p:Nat):Prop where
 le:p<=fs.length
 below:∀i (h:i<fs.length),i<p->Cc fs[i].f x<0
 gU:∀i (h:i<fs.length),p<=i->¬Cc fs[i].f x<0
def EQ(fs:List Gm)(x:Ev)(p:Nat):Bool:=if h:p<fs.length then Cc fs[p].f x==0 else false
set_option maxRecDepth 100000
theorem Jk(EK:Option Addr)(B9:Nat)(c:List Gm)(x:Gm)(w:World)(h:KQ w (.slice EK c.length B9) c)(Q:Ec w x)(FP:x.f.dc.length<=1000)(HP:c.length<=1000000)(CC:∀i j (l:i<c.length) (hj:j<c.length),i<=j->Cc c[j].f x.f<0->Cc c[i].f x.f<0):
  Calls prog 103 #[.slice EK c.length B9,.agg (Bh x).toArray,.func (.func 104) #[] #[]] w λe s=>∃p:Nat,e=.returned (.tuple #[.int .i64 p,.bool (EQ c x.f p)])/\GI c x.f p/\Ac [] w s:=by
 have H:Hid (∀(p:Gm) wr,p∈c->Ac [] w wr->Calls prog 104 #[.agg (Bh p).toArray,.agg (Bh x).toArray] wr λe s=>e=.returned (.int .i64 (Cc p.f x.f))/\Ac [] wr s):=λp wr hp hk=>Q6 p x wr ((h.each p hp).1.kept hk) (Q.kept hk) (by have:=(h.each p hp).2;omega) (by omega)
 have T:=Ab h;have G:=Ab CC;obtain⟨⟨t,u⟩,xv⟩:=x;obtain⟨z,A,BT⟩:=Aj Q;simp only at BT;subst BT;simp only[Bh]at H⊢;simp only at G;have r:=Ab (AE.new w [.string t,.slice z u.length A] 104);have o:=Ab ((Ac.refl [] w).alloc (.cells [.string t,.slice z u.length A].toArray 104));obtain⟨X,Z⟩:∃X:Ev,X=⟨t,u⟩:=⟨_,rfl⟩;rw[<-Z]at G H⊢;clear h Q FP CC Z;go_enter func103,ntmps103;go_wp2;change Code.wp _ _ _ _ (w.alloc (.cells [.string t,.slice z u.length A].toArray 104));generalize w.alloc (.cells [.string t,.slice z u.length A].toArray 104)=w1 at r o⊢;generalize w.heap.size=N at r⊢
 go_loopg [9,10] c.length (λgk a b wr=>∃(d l:Nat),a=.int .i64 d/\b=.int .i64 l/\d<=l/\l<=c.length/\gk=l-d/\Hid (∀i (h:i<c.length),i<d->Cc c[i].f X<0)/\Hid (∀i (h:i<c.length),l<=i->¬Cc c[i].f X<0)/\Hid (Ac [] w wr)/\Hid (AE wr N [.string t,.slice z u.length A] 104))
 case atStart=>exact⟨0,c.length,rfl,rfl,by omega,by omega,rfl,λi h h0=>by omega,λi h h0=>by omega,o,r⟩
 case round=>
  clear r o;obtain⟨d,l,rfl,rfl,H6,Y,CL,Bx,AB,o,r⟩:=hrel;have HG:=Ab CL;clear CL;have c0:=(Aa r).cell 0;have c1:=(Aa r).cell 1;simp at c0 c1;by_cases HW:d<l
  .obtain⟨k,HR⟩:∃k,(d+l)/2=k:=⟨_,rfl⟩;(have H4:d<=k:=by omega);(have HY:k<l:=by omega);(have M:k<c.length:=by omega);(have H7:((d:Int)+(l:Int))>>>(1:Nat)=(k:Int):=by rw[Int.shiftRight_eq_div_pow];omega);(have H3:((d:Int)+(l:Int))/2=(k:Int):=by omega);obtain⟨g,HJ,n,I,U,V,D,v,d0,d1⟩:=Lt ((Aa T).kept (Aa o)) k M;simp only[bK]at D;obtain⟨rfl,_,rfl⟩:=D;have m:=Ab (Aa H c[k] wr.drew (bL M) (Aa o).drew);(have L:Hid (Cc c[k].f X<0->∀i (h:i<c.length),i<k+1->Cc c[i].f X<0):=λR i h FA=>Aa G i k h M (by omega) R);(have O:Hid (¬Cc c[k].f X<0->∀i (h:i<c.length),k<=i->¬Cc c[i].f X<0):=λR i h FA hh=>R (Aa G k i M h (by omega) hh));rw[v]at m;simp only at m;obtain⟨C,E⟩:∃C,Cc c[k].f X=C:=⟨_,rfl⟩;rw[E]at L O;rw[v]at E;simp only at E;rw[E]at m;clear v E;by_cases AH:C<0
   .have W:=Ab (Aa L AH);clear L O;go_wp2_with fail
    go_region_law (go_simp;go_at_call 104;refine(Aa m).mono ?_;rintro e J ⟨rfl,q⟩;have y:=Ab ((Aa o).drew.trans q);have S:=Ab ((Aa r).drew.kept q (by simp));clear q)
    all_goals
     clear m;go_wp2
     go_roundg (l-(k+1))
     case measure=>have:=Aa HG;omega
     case rel=>exact⟨k+1,l,by go_num,rfl,by omega,Y,rfl,W,AB,y,S⟩
   .have W:=Ab (Aa O AH);clear L O;go_wp2_with fail
    go_region_law (go_simp;go_at_call 104;refine(Aa m).mono ?_;rintro e J ⟨rfl,q⟩;have y:=Ab ((Aa o).drew.trans q);have S:=Ab ((Aa r).drew.kept q (by simp));clear q)
    all_goals
     clear m;go_wp2
     go_roundg (k-d)
     case measure=>have:=Aa HG;omega
     case rel=>exact⟨d,k,rfl,rfl,by omega,by omega,rfl,Bx,W,y,S⟩
  ·(have HB:d=l:=by omega);subst HB;have EY:Hid (GI c X d):=⟨Y,Aa Bx,Aa AB⟩;by_cases F:d<c.length
   ·(have FL:(d:Int)<(c.length:Int):=by omega);obtain⟨g,HJ,n,I,U,V,D,v,d0,d1⟩:=Lt ((Aa T).kept (Aa o)) d F;simp only[bK]at D;obtain⟨rfl,_,rfl⟩:=D;have m:=Ab (Aa H c[d] wr.drew (bL F) (Aa o).drew);(have B:Hid (EQ c X d=(Cc c[d].f X==0)):=by show _=_;unfold EQ;rw[dif_pos F]);rw[v]at m B;simp only at m B;generalize Cc ⟨n,I⟩ X=C at m B;have ES:Hid (∀K:World,Ac [] w K->K.cell? ⟨g,d*2,none⟩=some (.string n)/\K.cell? ⟨g,d*2+1,none⟩=some (.slice U I.length V)):=by
     intro K HL;obtain⟨g',HX,n',HZ,H5,H2,Ax,FW,f0,f1⟩:=Lt ((Aa T).kept HL) d F;have e2:=FW.symm.trans v;simp only[bK,bR,cI,Gm.mk.injEq,Ev.mk.injEq]at Ax e2;obtain⟨⟨rfl,_,_⟩,_,_⟩:=Ax;obtain⟨⟨rfl,rfl⟩,rfl,_,rfl⟩:=e2;exact⟨f0,f1⟩
    clear v;go_wp2_with fail
    go_region_held3 (λs=>s.cell? ⟨g,d*2,none⟩=some (.string n)/\s.cell? ⟨g,d*2+1,none⟩=some (.slice U I.length V)/\s.cell? ⟨N,0,none⟩=some (.string t)/\s.cell? ⟨N,1,none⟩=some (.slice z u.length A)) (go_keep) ((go_at_call 104;refine(Aa m).mono ?_;rintro e J ⟨rfl,q⟩;have y:=Ab ((Aa o).drew.trans q);have P:=(Aa r).drew.kept q (by simp);have x0:=P.cell 0;have x1:=P.cell 1;have x2:=(Aa ES J (Aa y)).1;have x3:=(Aa ES J (Aa y)).2;simp at x0 x1;clear q P))
    rename_i HD;clear HD m;go_wp2;go_ret2;refine⟨d,?_,Aa EY,Aa y⟩;rw[Aa B];rfl
   ·(have FL:¬(d:Int)<(c.length:Int):=by omega);(have B:Hid (EQ c X d=false):=by show _=_;unfold EQ;rw[dif_neg F]);(have FC:Hid (∀n,Ac [] w (wr.drewN n)):=λn=>(Aa o).drewN n);go_wp2_with fail
    go_quiet (fail)
    go_wp2;go_ret2;rw[<-Aa B];exact⟨d,rfl,Aa EY,Aa FC _⟩
theorem Ac.cellAt{w w':World}(k:Ac [] w w'){b o:Nat}{v:Value}(h:w.cell? ⟨b,o,none⟩=some v):w'.cell? ⟨b,o,none⟩=some v:=by
 have a:b<w.heap.size:=by
  cases hq:w.heap[b]? with
  |none=>simp[World.cell?,hq]at h
  |some x=>exact(cS.1 hq).1
 have e:=k.block b a (by simp);simp only[World.cell?,e]at h⊢;exact h
theorem OP{w:World}{b o:Nat}{v:Value}(h:w.cell? ⟨b,o,none⟩=some v):b<w.heap.size:=by
 cases hq:w.heap[b]? with
 |none=>simp[World.cell?,hq]at h
 |some x=>exact(cS.1 hq).1
theorem Qd(C v:Nat)(l:Option Addr)(m:Nat)(a:List Gm)(x:Gm)(w:World)(t:w.cell? ⟨C,v,none⟩=some (.slice l a.length m))(h:KQ w (.slice l a.length m) a)(s:Ec w x)(u:x.f.dc.length<=1000)(G:a.length<=1000000)(D:∀i j (M:i<a.length) (O:j<a.length),i<=j->Cc a[j].f x.f<0->Cc a[i].f x.f<0):
  Calls prog 60 #[.pointer (some ⟨C,v,none⟩),.agg (Bh x).toArray] w λe o=>∃p:Nat,e=.returned (.bool (EQ a x.f p))/\GI a x.f p/\Ac [] w o:=by
 have L:=OP t;have g:Hid (∀wr,Ac [] w wr->Calls prog 103 #[.slice l a.length m,.agg (Bh x).toArray,.func (.func 104) #[] #[]] wr λe o=>∃p:Nat,e=.returned (.tuple #[.int .i64 p,.bool (EQ a x.f p)])/\GI a x.f p/\Ac [] wr o):=λwr y=>Jk l m a x wr (h.kept y) (s.kept y) u G D
 obtain⟨⟨b,c⟩,K⟩:=x;obtain⟨n,k,B⟩:=Aj s;simp only at B;subst B;simp only[Bh]at g⊢;generalize(⟨b,c⟩:Ev)=X at g⊢;have q:=(Ac.refl [] w).alloc (.cells [.string b,.slice n c.length k].toArray 104);have I:=q.cellAt t;clear t;have d:=AE.new w [.string b,.slice n c.length k] 104;have r:=Ab q;clear h s u D q;go_enter func60,ntmps60;go_wp2_with fail
 change Code.wp _ _ _ _ (w.alloc (.cells [.string b,.slice n c.length k].toArray 104));generalize w.alloc (.cells [.string b,.slice n c.length k].toArray 104)=w1 at r I d⊢;generalize w.heap.size=N at d⊢;have E:=d.cell 0;have H:=d.cell 1;simp at E H;have F:=Ab (Aa g w1.drew (Aa r).drew);clear g d
 go_region_law (go_simp;go_at_call 103;refine(Aa F).mono ?_;rintro e J ⟨p,rfl,hcut,A⟩;have z:=Ab (And.intro hcut ((Aa r).drew.trans A));clear hcut A)
 all_goals
  go_wp2;go_ret;exact⟨p,rfl,(Aa z).1,(Aa z).2⟩
