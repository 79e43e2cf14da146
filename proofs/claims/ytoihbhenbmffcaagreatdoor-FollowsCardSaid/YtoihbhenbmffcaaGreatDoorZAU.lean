import Derived.Test.YtoihbhenbmffcaaGreatDoorZAH
import Derived.Test.YtoihbhenbmffcaaGreatDoorZAN
set_option linter.unusedVariables false
set_option linter.unusedSimpArgs false
set_option maxHeartbeats 6400000
namespace Go.Proofs.YtoihbhenbmffcaaGreatDoor
open Go.RowKit
open Go.Proofs.Tryz
structure Mc(w:World)(sv:Value)(fs:List Fm):Prop where
 row:w.ownsRow 0 104 2 sv fs.length (fs.flatMap A9)
 each:∀p∈fs,DW w p/\p.f.things.length<=1000
theorem Mc.kept{w w':World}{c:Value}{b:List Fm}(h:Mc w c b)(k:Ac [] w w'):Mc w' c b:=⟨Ad h.row k (by simp),λp a=>⟨(h.each p a).1.kept k,(h.each p a).2⟩⟩
theorem IZ{w:World}{r:Value}{b:List Fm}(h:Mc w r b)(k:Nat)(d:k<b.length):
  ∃g m n a i f,r= .slice (some ⟨g,0,none⟩) b.length m/\b[k]=⟨⟨n,a⟩, .slice i a.length f⟩/\w.cell? ⟨g,k*2,none⟩=some (.string n)/\w.cell? ⟨g,k*2+1,none⟩=some (.slice i a.length f):=by
 obtain⟨g,m,t,_,s⟩:=AE h.row (λc _=>rfl) k d;have j:=s k d 0 (by omega);have l:=s k d 1 (by omega);obtain⟨⟨⟨n,a⟩,u⟩,o⟩:∃p,b[k]=p:=⟨_,rfl⟩;have q:=(h.each _ (Z7 d)).1;rw[o]at j l q;obtain⟨i,f,e⟩:=Ak q;simp only at e;subst e;simp[A9]at j l;exact⟨g,m,n,a,i,f,t,o,j,l⟩
structure Gt(fs:List Fm)(x:DB)(p:Nat):Prop where
 le:p<=fs.length
 below:∀i (h:i<fs.length),i<p->B6 fs[i].f x<0
 above:∀i (h:i<fs.length),p<=i->¬B6 fs[i].f x<0
def ED(fs:List Fm)(x:DB)(p:Nat):Bool:=if h:p<fs.length then B6 fs[p].f x==0 else false
set_option maxRecDepth 100000
theorem IQ(EX:Option Addr)(CC:Nat)(c:List Fm)(x:Fm)(w:World)(h:Mc w (.slice EX c.length CC) c)(Q:DW w x)(FW:x.f.things.length<=1000)(HQ:c.length<=1000000)(CL:∀i j (l:i<c.length) (hj:j<c.length),i<=j->B6 c[j].f x.f<0->B6 c[i].f x.f<0):
  Calls prog 103 #[.slice EX c.length CC, .agg (A9 x).toArray, .func (.func 104) #[] #[]] w λe s=>∃p:Nat,e= .returned (.tuple #[.int .i64 p, .bool (ED c x.f p)])/\Gt c x.f p/\Ac [] w s:=by
 have H:Hid (∀(p:Fm) wr,p∈c->Ac [] w wr->Calls prog 104 #[.agg (A9 p).toArray, .agg (A9 x).toArray] wr λe s=>e= .returned (.int .i64 (B6 p.f x.f))/\Ac [] wr s):=λp wr hp hk=>P9 p x wr ((h.each p hp).1.kept hk) (Q.kept hk) (by have:=(h.each p hp).2;omega) (by omega)
 have T:=Ab h;have G:=Ab CL;obtain⟨⟨t,u⟩,xv⟩:=x;obtain⟨z,A,B9⟩:=Ak Q;simp only at B9;subst B9;simp only[A9]at H⊢;simp only at G;have r:=Ab (Aw.new w [.string t, .slice z u.length A] 104);have o:=Ab ((Ac.refl [] w).alloc (.cells [.string t, .slice z u.length A].toArray 104));obtain⟨X,Z⟩:∃X:DB,X=⟨t,u⟩:=⟨_,rfl⟩;rw[<-Z]at G H⊢;clear h Q FW CL Z;go_enter func103,ntmps103;go_wp2;change Code.wp _ _ _ _ (w.alloc (.cells [.string t, .slice z u.length A].toArray 104));generalize w.alloc (.cells [.string t, .slice z u.length A].toArray 104)=w1 at r o⊢;generalize w.heap.size=N at r⊢
 go_loopg [9,10] c.length (λgk a b wr=>∃(d l:Nat),a= .int .i64 d/\b= .int .i64 l/\d<=l/\l<=c.length/\gk=l-d/\Hid (∀i (h:i<c.length),i<d->B6 c[i].f X<0)/\Hid (∀i (h:i<c.length),l<=i->¬B6 c[i].f X<0)/\Hid (Ac [] w wr)/\Hid (Aw wr N [.string t, .slice z u.length A] 104))
 case atStart=>exact⟨0,c.length,rfl,rfl,by omega,by omega,rfl,λi h h0=>by omega,λi h h0=>by omega,o,r⟩
 case round=>
  clear r o;obtain⟨d,l,rfl,rfl,H7,Y,EK,BA,AB,o,r⟩:=hrel;have HG:=Ab EK;clear EK;have c0:=(Aa r).cell 0;have c1:=(Aa r).cell 1;simp at c0 c1;by_cases HX:d<l
  ·obtain⟨k,HU⟩:∃k,(d+l)/2=k:=⟨_,rfl⟩;(have H5:d<=k:=by omega);(have HZ:k<l:=by omega);(have M:k<c.length:=by omega);(have H8:((d:Int)+(l:Int))>>>(1:Nat)=(k:Int):=by rw[Int.shiftRight_eq_div_pow];omega);(have H4:((d:Int)+(l:Int))/2=(k:Int):=by omega);obtain⟨g,HL,n,I,U,V,D,v,d0,d1⟩:=IZ ((Aa T).kept (Aa o)) k M;simp only[Z6]at D;obtain⟨rfl,_,rfl⟩:=D;have m:=Ab (Aa H c[k] wr.drew (Z7 M) (Aa o).drew);(have L:Hid (B6 c[k].f X<0->∀i (h:i<c.length),i<k+1->B6 c[i].f X<0):=λR i h FF=>Aa G i k h M (by omega) R);(have O:Hid (¬B6 c[k].f X<0->∀i (h:i<c.length),k<=i->¬B6 c[i].f X<0):=λR i h FF hh=>R (Aa G k i M h (by omega) hh));rw[v]at m;simp only at m;obtain⟨C,E⟩:∃C,B6 c[k].f X=C:=⟨_,rfl⟩;rw[E]at L O;rw[v]at E;simp only at E;rw[E]at m;clear v E;by_cases AH:C<0
   ·have W:=Ab (Aa L AH);clear L O;go_wp2_with fail
    go_region_law (go_simp;go_at_call 104;refine(Aa m).mono ?_;rintro e J ⟨rfl,q⟩;have y:=Ab ((Aa o).drew.trans q);have S:=Ab ((Aa r).drew.kept q (by simp));clear q)
    all_goals
     clear m;go_wp2
     go_roundg (l-(k+1))
     case measure=>have:=Aa HG;omega
     case rel=>exact⟨k+1,l,by go_num,rfl,by omega,Y,rfl,W,AB,y,S⟩
   ·have W:=Ab (Aa O AH);clear L O;go_wp2_with fail
    go_region_law (go_simp;go_at_call 104;refine(Aa m).mono ?_;rintro e J ⟨rfl,q⟩;have y:=Ab ((Aa o).drew.trans q);have S:=Ab ((Aa r).drew.kept q (by simp));clear q)
    all_goals
     clear m;go_wp2
     go_roundg (k-d)
     case measure=>have:=Aa HG;omega
     case rel=>exact⟨d,k,rfl,rfl,by omega,by omega,rfl,BA,W,y,S⟩
  ·(have HC:d=l:=by omega);subst HC;have FC:Hid (Gt c X d):=⟨Y,Aa BA,Aa AB⟩;by_cases F:d<c.length
   ·(have FP:(d:Int)<(c.length:Int):=by omega);obtain⟨g,HL,n,I,U,V,D,v,d0,d1⟩:=IZ ((Aa T).kept (Aa o)) d F;simp only[Z6]at D;obtain⟨rfl,_,rfl⟩:=D;have m:=Ab (Aa H c[d] wr.drew (Z7 F) (Aa o).drew);(have B:Hid (ED c X d=(B6 c[d].f X==0)):=by show _=_;unfold ED;rw[dif_pos F]);rw[v]at m B;simp only at m B;generalize B6 ⟨n,I⟩ X=C at m B;have EY:Hid (∀K:World,Ac [] w K->K.cell? ⟨g,d*2,none⟩=some (.string n)/\K.cell? ⟨g,d*2+1,none⟩=some (.slice U I.length V)):=by
     intro K HO;obtain⟨g',HY,n',H0,H6,H3,Ax,Go,f0,f1⟩:=IZ ((Aa T).kept HO) d F;have e2:=Go.symm.trans v;simp only[Z6,ai,aW,Fm.mk.injEq,DB.mk.injEq]at Ax e2;obtain⟨⟨rfl,_,_⟩,_,_⟩:=Ax;obtain⟨⟨rfl,rfl⟩,rfl,_,rfl⟩:=e2;exact⟨f0,f1⟩
    clear v;go_wp2_with fail
    go_region_held3 (λs=>s.cell? ⟨g,d*2,none⟩=some (.string n)/\s.cell? ⟨g,d*2+1,none⟩=some (.slice U I.length V)/\s.cell? ⟨N,0,none⟩=some (.string t)/\s.cell? ⟨N,1,none⟩=some (.slice z u.length A)) (go_keep) ((go_at_call 104;refine(Aa m).mono ?_;rintro e J ⟨rfl,q⟩;have y:=Ab ((Aa o).drew.trans q);have P:=(Aa r).drew.kept q (by simp);have x0:=P.cell 0;have x1:=P.cell 1;have x2:=(Aa EY J (Aa y)).1;have x3:=(Aa EY J (Aa y)).2;simp at x0 x1;clear q P))
    rename_i HE;clear HE m;go_wp2;go_ret2;refine⟨d,?_,Aa FC,Aa y⟩;rw[Aa B];rfl
   ·(have FP:¬(d:Int)<(c.length:Int):=by omega);(have B:Hid (ED c X d=false):=by show _=_;unfold ED;rw[dif_neg F]);(have FL:Hid (∀n,Ac [] w (wr.drewN n)):=λn=>(Aa o).drewN n);go_wp2_with fail
    go_quiet (fail)
    go_wp2;go_ret2;rw[<-Aa B];exact⟨d,rfl,Aa FC,Aa FL _⟩
theorem Ac.cellAt{w w':World}(k:Ac [] w w'){b o:Nat}{v:Value}(h:w.cell? ⟨b,o,none⟩=some v):w'.cell? ⟨b,o,none⟩=some v:=by
 have a:b<w.heap.size:=by
  cases hq:w.heap[b]? with
  |none=>simp[World.cell?,hq]at h
  |some x=>exact(bg.1 hq).1
 have e:=k.block b a (by simp);simp only[World.cell?,e]at h⊢;exact h
theorem N8{w:World}{b o:Nat}{v:Value}(h:w.cell? ⟨b,o,none⟩=some v):b<w.heap.size:=by
 cases hq:w.heap[b]? with
 |none=>simp[World.cell?,hq]at h
 |some x=>exact(bg.1 hq).1
theorem Pi(C v:Nat)(l:Option Addr)(m:Nat)(a:List Fm)(x:Fm)(w:World)(t:w.cell? ⟨C,v,none⟩=some (.slice l a.length m))(h:Mc w (.slice l a.length m) a)(s:DW w x)(u:x.f.things.length<=1000)(G:a.length<=1000000)(D:∀i j (M:i<a.length) (O:j<a.length),i<=j->B6 a[j].f x.f<0->B6 a[i].f x.f<0):
  Calls prog 60 #[.pointer (some ⟨C,v,none⟩), .agg (A9 x).toArray] w λe o=>∃p:Nat,e= .returned (.bool (ED a x.f p))/\Gt a x.f p/\Ac [] w o:=by
 have L:=N8 t;have g:Hid (∀wr,Ac [] w wr->Calls prog 103 #[.slice l a.length m, .agg (A9 x).toArray, .func (.func 104) #[] #[]] wr λe o=>∃p:Nat,e= .returned (.tuple #[.int .i64 p, .bool (ED a x.f p)])/\Gt a x.f p/\Ac [] wr o):=λwr y=>IQ l m a x wr (h.kept y) (s.kept y) u G D
 obtain⟨⟨b,c⟩,K⟩:=x;obtain⟨n,k,B⟩:=Ak s;simp only at B;subst B;simp only[A9]at g⊢;generalize(⟨b,c⟩:DB)=X at g⊢;have q:=(Ac.refl [] w).alloc (.cells [.string b, .slice n c.length k].toArray 104);have I:=q.cellAt t;clear t;have d:=Aw.new w [.string b, .slice n c.length k] 104;have r:=Ab q;clear h s u D q;go_enter func60,ntmps60;go_wp2_with fail
 change Code.wp _ _ _ _ (w.alloc (.cells [.string b, .slice n c.length k].toArray 104));generalize w.alloc (.cells [.string b, .slice n c.length k].toArray 104)=w1 at r I d⊢;generalize w.heap.size=N at d⊢;have E:=d.cell 0;have H:=d.cell 1;simp at E H;have F:=Ab (Aa g w1.drew (Aa r).drew);clear g d
 go_region_law (go_simp;go_at_call 103;refine(Aa F).mono ?_;rintro e J ⟨p,rfl,hcut,A⟩;have z:=Ab (And.intro hcut ((Aa r).drew.trans A));clear hcut A)
 all_goals
  go_wp2;go_ret;exact⟨p,rfl,(Aa z).1,(Aa z).2⟩
