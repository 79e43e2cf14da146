import Derived.Laws.Cover1
import Derived.Test.YtoihbhenbmffcaaGreatDoorYAA
set_option linter.all false
set_option maxHeartbeats 0
namespace Go.Proofs.YtoihbhenbmffcaaGreatDoor
open Go.RowKit Go.Proofs.Tryz
def Dy(a b:cR):Int:=if Op.bytesLess a.toList b.toList then -1 else if Op.bytesLess b.toList a.toList then 1 else 0
theorem Tg(a:cR)(w:World):Calls prog 186 #[.string a] w λe b=>e=.returned (.bool false)/\b=w:=by
 have h:(a.toList==a.toList)=true:=by simp
 have c:(a.toList !=a.toList)=false:=by simp[bne]
 go_enter func186,ntmps186;go_wp2;all_goals go_ret
 all_goals first|exact⟨rfl,rfl⟩|exact⟨by simp,rfl⟩
theorem S2(a:cR)(w:World):Calls prog 215 #[.string a] w λe b=>e=.returned (.bool false)/\b=w:=by
 have h:(a.toList==a.toList)=true:=by simp
 have c:(a.toList !=a.toList)=false:=by simp[bne]
 go_enter func215,ntmps215;go_wp2;all_goals go_ret
 all_goals first|exact⟨rfl,rfl⟩|exact⟨by simp,rfl⟩
theorem YV(a b:cR)(w:World):Calls prog 150 #[.string a,.string b] w λe i=>e=.returned (.int .i64 (Dy a b))/\i=w:=by
 have h:=Ab (Tg a w);have g:=Ab (Tg b w);have f:Hid (Dy a b=if Op.bytesLess a.toList b.toList then -1 else if Op.bytesLess b.toList a.toList then 1 else 0):=rfl;generalize Dy a b=C at f⊢;go_enter func150,ntmps150;go_wp2_with fail
 refine(Aa h).mono ?_;rintro e k ⟨rfl,rfl⟩;go_wp2_with fail
 refine(Aa g).mono ?_;rintro e j ⟨rfl,rfl⟩;clear h g;cases h1:Op.bytesLess a.toList b.toList with
 |true=>
  have d:Hid (C= -1):=by show _=_;rw[Aa f,h1];rfl
  go_wp2;go_ret;rw[Aa d];exact⟨rfl,rfl⟩
 |false=>
  cases h2:(a.toList==b.toList)with
  |false=>
   have c:Op.bytesLess b.toList a.toList=true:=Pv _ _ h1 h2;(have d:Hid (C=1):=by show _=_;rw[Aa f,h1,c];rfl);clear c;go_wp2;go_ret;rw[Aa d];exact⟨rfl,rfl⟩
  |true=>
   have c:Op.bytesLess b.toList a.toList=false:=by rw[show a.toList=b.toList from by simpa using h2];exact Nc _
   (have d:Hid (C=0):=by show _=_;rw[Aa f,h1,c];rfl);clear c;go_wp2;go_ret;rw[Aa d];exact⟨rfl,rfl⟩
theorem YJ(a b:cR)(w:World):Calls prog 187 #[.string a,.string b] w λe i=>e=.returned (.int .i64 (Dy a b))/\i=w:=by
 have h:=Ab (S2 a w);have g:=Ab (S2 b w);have f:Hid (Dy a b=if Op.bytesLess a.toList b.toList then -1 else if Op.bytesLess b.toList a.toList then 1 else 0):=rfl;generalize Dy a b=C at f⊢;go_enter func187,ntmps187;go_wp2_with fail
 refine(Aa h).mono ?_;rintro e k ⟨rfl,rfl⟩;go_wp2_with fail
 refine(Aa g).mono ?_;rintro e j ⟨rfl,rfl⟩;clear h g;cases h1:Op.bytesLess a.toList b.toList with
 |true=>
  have d:Hid (C= -1):=by show _=_;rw[Aa f,h1];rfl
  go_wp2;go_ret;rw[Aa d];exact⟨rfl,rfl⟩
 |false=>
  cases h2:(a.toList==b.toList)with
  |false=>
   have c:Op.bytesLess b.toList a.toList=true:=Pv _ _ h1 h2;(have d:Hid (C=1):=by show _=_;rw[Aa f,h1,c];rfl);clear c;go_wp2;go_ret;rw[Aa d];exact⟨rfl,rfl⟩
  |true=>
   have c:Op.bytesLess b.toList a.toList=false:=by rw[show a.toList=b.toList from by simpa using h2];exact Nc _
   (have d:Hid (C=0):=by show _=_;rw[Aa f,h1,c];rfl);clear c;go_wp2;go_ret;rw[Aa d];exact⟨rfl,rfl⟩
def D0:List cR->List cR->Int
 |[],[]=>0
 |[],_::_=> -1
 |_::_,[]=>1
 |x::l,y::m=>if Dy x y=0 then D0 l m else Dy x y
theorem Wj{l m:List cR}{k:Nat}(a:k<l.length)(b:k<m.length):D0 (l.drop k) (m.drop k)=if Dy l[k] m[k]=0 then D0 (l.drop (k+1)) (m.drop (k+1))else Dy l[k] m[k]:=by
 rw[ci a,ci b,D0]
theorem Ok{w:World}{base:Nat}{v:Value}{l:List cR}(h:w.ownsRow base 170 1 v l.length (l.flatMap Ae))(k:Nat)(d:k<l.length):∃g a,v=.slice (some ⟨g,0,none⟩) l.length a/\w.cell? ⟨g,k,none⟩=some (.string l[k]):=by
 obtain⟨g,a,e,_,f⟩:=Av h (λc _=>rfl) k d;have b:=f k d 0 (by omega);simp[Ae]at b;exact⟨g,a,e,b⟩
set_option maxRecDepth 100000
theorem Q7(y:Option Addr)(q:Nat)(l:List cR)(o:Option Addr)(t:Nat)(m:List cR)(w:World)(r:w.ownsRow 0 170 1 (.slice y l.length q) l.length (l.flatMap Ae))(n:w.ownsRow 0 170 1 (.slice o m.length t) m.length (m.flatMap Ae))(S:l.length<=1000000)(T:m.length<=1000000):
  Calls prog 151 #[.slice y l.length q,.slice o m.length t] w λe B=>e=.returned (.int .i64 (D0 l m))/\B=w:=by
 have G:=Ab r;have F:=Ab n;obtain⟨R,j⟩:∃R,D0 l m=R:=⟨_,rfl⟩;rw[j];have u:Hid (D0 (l.drop 0) (m.drop 0)=R):=j;clear r n j;go_enter func151,ntmps151;go_wp2
 go_loopg [11] l.length (λgk i wr=>∃(k:Nat),i=.int .i64 k/\k<=l.length/\k<=m.length/\gk=l.length-k/\Hid (D0 (l.drop k) (m.drop k)=R)/\w=wr)
 case atStart=>exact⟨0,rfl,by omega,by omega,rfl,u,rfl⟩
 case round=>
  clear u;obtain⟨k,rfl,L,J,s,b,rfl⟩:=hrel;have E:=Ab s;clear s;by_cases f:k<l.length
  .obtain⟨Q,O,x,N⟩:=Ok (Aa G) k f;simp only[bK]at x;obtain⟨rfl,_,rfl⟩:=x;by_cases g:k<m.length
   .obtain⟨M,P,v,I⟩:=Ok (Aa F) k g;simp only[bK]at v;obtain⟨rfl,_,rfl⟩:=v;(have z:¬(m.length:Int)<=(k:Int):=by omega);have p:=Ab (YJ l[k] m[k] w);have c:=Ab (Wj f g);generalize Dy l[k] m[k]=C at p c;(go_wp2_with fail);refine(Aa p).mono ?_;rintro e K ⟨rfl,D⟩;subst D;by_cases d:C=0
    ·(have A:(C !=0)=false:=by simp[d]);have a:Hid (D0 (l.drop (k+1)) (m.drop (k+1))=R):=by
      have h:=Aa b;rw[Aa c,if_pos d]at h;exact h
     clear b c;go_wp2
     go_roundg (l.length-(k+1))
     case measure=>have:=Aa E;omega
     case rel=>exact⟨k+1,by go_num,by omega,by omega,rfl,a,rfl⟩
    ·(have A:(C !=0)=true:=by simp[d]);have a:Hid (C=R):=by
      have h:=Aa b;rw[Aa c,if_neg d]at h;exact h
     clear b c;go_wp2;go_ret;rw[<-Aa a];exact⟨rfl,rfl⟩
   ·(have z:(m.length:Int)<=(k:Int):=by omega);have a:Hid (R=1):=by
     have h:=Aa b;rw[ci f,cG (show m.length<=k by omega),D0]at h;exact h.symm
    go_wp2;go_ret;rw[Aa a];exact⟨rfl,rfl⟩
  .by_cases g:l.length<m.length
   ·(have H:(l.length:Int)<(m.length:Int):=by omega);have a:Hid (R= -1):=by
     have h:=Aa b;rw[cG (show l.length<=k by omega),ci (show k<m.length by omega),D0]at h;exact h.symm
    go_wp2;go_ret;rw[Aa a];exact⟨rfl,rfl⟩
   ·(have H:¬(l.length:Int)<(m.length:Int):=by omega);have a:Hid (R=0):=by
     have h:=Aa b;rw[cG (show l.length<=k by omega),cG (show m.length<=k by omega),D0]at h;exact h.symm
    go_wp2;go_ret;rw[Aa a];exact⟨rfl,rfl⟩
structure Ev where
 name:cR
 dc:List cR
structure Gm where
 f:Ev
 tv:Value
def Bh(p:Gm):List Value:=[.string p.f.name,p.tv]
def Ec(w:World)(p:Gm):Prop:=w.ownsRow 0 170 1 p.tv p.f.dc.length (p.f.dc.flatMap Ae)
theorem Ec.kept{w w':World}{p:Gm}(h:Ec w p)(k:Ac [] w w'):Ec w' p:=Ad h k (by simp)
def Cc(a b:Ev):Int:=if Dy a.name b.name=0 then D0 a.dc b.dc else Dy a.name b.name
theorem Q6(a b:Gm)(w:World)(k:Ec w a)(j:Ec w b)(u:a.f.dc.length<=1000000)(x:b.f.dc.length<=1000000):
  Calls prog 104 #[.agg (Bh a).toArray,.agg (Bh b).toArray] w λe z=>e=.returned (.int .i64 (Cc a.f b.f))/\Ac [] w z:=by
 obtain⟨⟨d,i⟩,F⟩:=a;obtain⟨⟨c,h⟩,H⟩:=b;unfold Ec at k j;simp only at k j u x;obtain⟨r,q,rfl⟩:=Aj k;obtain⟨p,s,rfl⟩:=Aj j;have g:Hid (Cc ⟨d,i⟩ ⟨c,h⟩=if Dy d c=0 then D0 i h else Dy d c):=rfl;simp only[Bh];generalize Cc ⟨d,i⟩ ⟨c,h⟩=R at g⊢;have m:=((Ac.refl [] w).alloc (.cells [.string d,.slice r i.length q].toArray 104)).alloc (.cells [.string c,.slice p h.length s].toArray 104);have n:=Ab (YV d c ((w.alloc (.cells [.string d,.slice r i.length q].toArray 104)).alloc (.cells [.string c,.slice p h.length s].toArray 104)));have o:=Ab (Q7 r q i p s h _ (Ad k m (by simp)) (Ad j m (by simp)) u x);have v:=Ab m;clear m k j;generalize Dy d c=C at n g;generalize D0 i h=D at o g;go_enter func104,ntmps104;go_wp2_with fail
 refine(Aa n).mono ?_;rintro e G ⟨rfl,B⟩;subst B;by_cases l:C=0
 .have y:(C !=0)=false:=by simp[l]
  have t:Hid (R=D):=by show _=_;rw[Aa g,if_pos l]
  clear g n;go_wp2_with fail
  refine(Aa o).mono ?_;rintro e E ⟨rfl,A⟩;subst A;clear o;go_wp2;go_ret;rw[Aa t];exact⟨rfl,Aa v⟩
 .have y:(C !=0)=true:=by simp[l]
  have t:Hid (R=C):=by show _=_;rw[Aa g,if_neg l]
  clear g n o;go_wp2;go_ret;rw[Aa t];exact⟨rfl,Aa v⟩
