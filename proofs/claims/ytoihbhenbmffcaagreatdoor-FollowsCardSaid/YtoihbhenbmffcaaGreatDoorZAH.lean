import Derived.Laws.Cover1
import Derived.Test.YtoihbhenbmffcaaGreatDoorZAA
set_option linter.unusedVariables false
set_option linter.unusedSimpArgs false
set_option maxHeartbeats 6400000
namespace Go.Proofs.YtoihbhenbmffcaaGreatDoor
open Go.RowKit
open Go.Proofs.Tryz
def Dm(a b:cL):Int:=if Op.bytesLess a.toList b.toList then -1 else if Op.bytesLess b.toList a.toList then 1 else 0
theorem Sl(a:cL)(w:World):Calls prog 186 #[.string a] w λe b=>e= .returned (.bool false)/\b=w:=by
 have h:(a.toList==a.toList)=true:=by simp
 have c:(a.toList !=a.toList)=false:=by simp[bne]
 go_enter func186,ntmps186;go_wp2;all_goals go_ret
 all_goals first|exact⟨rfl,rfl⟩|exact⟨by simp,rfl⟩
theorem R8(a:cL)(w:World):Calls prog 215 #[.string a] w λe b=>e= .returned (.bool false)/\b=w:=by
 have h:(a.toList==a.toList)=true:=by simp
 have c:(a.toList !=a.toList)=false:=by simp[bne]
 go_enter func215,ntmps215;go_wp2;all_goals go_ret
 all_goals first|exact⟨rfl,rfl⟩|exact⟨by simp,rfl⟩
theorem X4(a b:cL)(w:World):Calls prog 150 #[.string a, .string b] w λe i=>e= .returned (.int .i64 (Dm a b))/\i=w:=by
 have h:=Ab (Sl a w);have g:=Ab (Sl b w);have f:Hid (Dm a b=if Op.bytesLess a.toList b.toList then -1 else if Op.bytesLess b.toList a.toList then 1 else 0):=rfl;generalize Dm a b=C at f⊢;go_enter func150,ntmps150;go_wp2_with fail
 refine(Aa h).mono ?_;rintro e k ⟨rfl,rfl⟩;go_wp2_with fail
 refine(Aa g).mono ?_;rintro e j ⟨rfl,rfl⟩;clear h g;cases h1:Op.bytesLess a.toList b.toList with
 |true=>
  have d:Hid (C= -1):=by show _=_;rw[Aa f,h1];rfl
  go_wp2;go_ret;rw[Aa d];exact⟨rfl,rfl⟩
 |false=>
  cases h2:(a.toList==b.toList)with
  |false=>
   have c:Op.bytesLess b.toList a.toList=true:=OJ _ _ h1 h2;(have d:Hid (C=1):=by show _=_;rw[Aa f,h1,c];rfl);clear c;go_wp2;go_ret;rw[Aa d];exact⟨rfl,rfl⟩
  |true=>
   have c:Op.bytesLess b.toList a.toList=false:=by rw[show a.toList=b.toList from by simpa using h2];exact Ms _
   (have d:Hid (C=0):=by show _=_;rw[Aa f,h1,c];rfl);clear c;go_wp2;go_ret;rw[Aa d];exact⟨rfl,rfl⟩
theorem XP(a b:cL)(w:World):Calls prog 187 #[.string a, .string b] w λe i=>e= .returned (.int .i64 (Dm a b))/\i=w:=by
 have h:=Ab (R8 a w);have g:=Ab (R8 b w);have f:Hid (Dm a b=if Op.bytesLess a.toList b.toList then -1 else if Op.bytesLess b.toList a.toList then 1 else 0):=rfl;generalize Dm a b=C at f⊢;go_enter func187,ntmps187;go_wp2_with fail
 refine(Aa h).mono ?_;rintro e k ⟨rfl,rfl⟩;go_wp2_with fail
 refine(Aa g).mono ?_;rintro e j ⟨rfl,rfl⟩;clear h g;cases h1:Op.bytesLess a.toList b.toList with
 |true=>
  have d:Hid (C= -1):=by show _=_;rw[Aa f,h1];rfl
  go_wp2;go_ret;rw[Aa d];exact⟨rfl,rfl⟩
 |false=>
  cases h2:(a.toList==b.toList)with
  |false=>
   have c:Op.bytesLess b.toList a.toList=true:=OJ _ _ h1 h2;(have d:Hid (C=1):=by show _=_;rw[Aa f,h1,c];rfl);clear c;go_wp2;go_ret;rw[Aa d];exact⟨rfl,rfl⟩
  |true=>
   have c:Op.bytesLess b.toList a.toList=false:=by rw[show a.toList=b.toList from by simpa using h2];exact Ms _
   (have d:Hid (C=0):=by show _=_;rw[Aa f,h1,c];rfl);clear c;go_wp2;go_ret;rw[Aa d];exact⟨rfl,rfl⟩
def DO:List cL->List cL->Int
 |[],[]=>0
 |[],_::_=> -1
 |_::_,[]=>1
 |x::l,y::m=>if Dm x y=0 then DO l m else Dm x y
theorem Ve{l m:List cL}{k:Nat}(a:k<l.length)(b:k<m.length):DO (l.drop k) (m.drop k)=if Dm l[k] m[k]=0 then DO (l.drop (k+1)) (m.drop (k+1))else Dm l[k] m[k]:=by
 rw[aC a,aC b,DO]
theorem J4{w:World}{base:Nat}{v:Value}{l:List cL}(h:w.ownsRow base 170 1 v l.length (l.flatMap Ae))(k:Nat)(d:k<l.length):∃g a,v= .slice (some ⟨g,0,none⟩) l.length a/\w.cell? ⟨g,k,none⟩=some (.string l[k]):=by
 obtain⟨g,a,e,_,f⟩:=AE h (λc _=>rfl) k d;have b:=f k d 0 (by omega);simp[Ae]at b;exact⟨g,a,e,b⟩
set_option maxRecDepth 100000
theorem Qc(y:Option Addr)(q:Nat)(l:List cL)(o:Option Addr)(t:Nat)(m:List cL)(w:World)(r:w.ownsRow 0 170 1 (.slice y l.length q) l.length (l.flatMap Ae))(n:w.ownsRow 0 170 1 (.slice o m.length t) m.length (m.flatMap Ae))(S:l.length<=1000000)(T:m.length<=1000000):
  Calls prog 151 #[.slice y l.length q, .slice o m.length t] w λe B=>e= .returned (.int .i64 (DO l m))/\B=w:=by
 have G:=Ab r;have F:=Ab n;obtain⟨R,j⟩:∃R,DO l m=R:=⟨_,rfl⟩;rw[j];have u:Hid (DO (l.drop 0) (m.drop 0)=R):=j;clear r n j;go_enter func151,ntmps151;go_wp2
 go_loopg [11] l.length (λgk i wr=>∃(k:Nat),i= .int .i64 k/\k<=l.length/\k<=m.length/\gk=l.length-k/\Hid (DO (l.drop k) (m.drop k)=R)/\w=wr)
 case atStart=>exact⟨0,rfl,by omega,by omega,rfl,u,rfl⟩
 case round=>
  clear u;obtain⟨k,rfl,L,J,s,b,rfl⟩:=hrel;have E:=Ab s;clear s;by_cases f:k<l.length
  ·obtain⟨Q,O,x,N⟩:=J4 (Aa G) k f;simp only[Z6]at x;obtain⟨rfl,_,rfl⟩:=x;by_cases g:k<m.length
   ·obtain⟨M,P,v,I⟩:=J4 (Aa F) k g;simp only[Z6]at v;obtain⟨rfl,_,rfl⟩:=v;(have z:¬(m.length:Int)<=(k:Int):=by omega);have p:=Ab (XP l[k] m[k] w);have c:=Ab (Ve f g);generalize Dm l[k] m[k]=C at p c;(go_wp2_with fail);refine(Aa p).mono ?_;rintro e K ⟨rfl,D⟩;subst D;by_cases d:C=0
    ·(have A:(C !=0)=false:=by simp[d]);have a:Hid (DO (l.drop (k+1)) (m.drop (k+1))=R):=by
      have h:=Aa b;rw[Aa c,if_pos d]at h;exact h
     clear b c;go_wp2
     go_roundg (l.length-(k+1))
     case measure=>have:=Aa E;omega
     case rel=>exact⟨k+1,by go_num,by omega,by omega,rfl,a,rfl⟩
    ·(have A:(C !=0)=true:=by simp[d]);have a:Hid (C=R):=by
      have h:=Aa b;rw[Aa c,if_neg d]at h;exact h
     clear b c;go_wp2;go_ret;rw[<-Aa a];exact⟨rfl,rfl⟩
   ·(have z:(m.length:Int)<=(k:Int):=by omega);have a:Hid (R=1):=by
     have h:=Aa b;rw[aC f,aQ (show m.length<=k by omega),DO]at h;exact h.symm
    go_wp2;go_ret;rw[Aa a];exact⟨rfl,rfl⟩
  ·by_cases g:l.length<m.length
   ·(have H:(l.length:Int)<(m.length:Int):=by omega);have a:Hid (R= -1):=by
     have h:=Aa b;rw[aQ (show l.length<=k by omega),aC (show k<m.length by omega),DO]at h;exact h.symm
    go_wp2;go_ret;rw[Aa a];exact⟨rfl,rfl⟩
   ·(have H:¬(l.length:Int)<(m.length:Int):=by omega);have a:Hid (R=0):=by
     have h:=Aa b;rw[aQ (show l.length<=k by omega),aQ (show m.length<=k by omega),DO]at h;exact h.symm
    go_wp2;go_ret;rw[Aa a];exact⟨rfl,rfl⟩
structure DB where
 name:cL
 things:List cL
structure Fm where
 f:DB
 tv:Value
def A9(p:Fm):List Value:=[.string p.f.name,p.tv]
def DW(w:World)(p:Fm):Prop:=w.ownsRow 0 170 1 p.tv p.f.things.length (p.f.things.flatMap Ae)
theorem DW.kept{w w':World}{p:Fm}(h:DW w p)(k:Ac [] w w'):DW w' p:=Ad h k (by simp)
def B6(a b:DB):Int:=if Dm a.name b.name=0 then DO a.things b.things else Dm a.name b.name
theorem P9(a b:Fm)(w:World)(k:DW w a)(j:DW w b)(u:a.f.things.length<=1000000)(x:b.f.things.length<=1000000):
  Calls prog 104 #[.agg (A9 a).toArray, .agg (A9 b).toArray] w λe z=>e= .returned (.int .i64 (B6 a.f b.f))/\Ac [] w z:=by
 obtain⟨⟨d,i⟩,F⟩:=a;obtain⟨⟨c,h⟩,H⟩:=b;unfold DW at k j;simp only at k j u x;obtain⟨r,q,rfl⟩:=Ak k;obtain⟨p,s,rfl⟩:=Ak j;have g:Hid (B6 ⟨d,i⟩ ⟨c,h⟩=if Dm d c=0 then DO i h else Dm d c):=rfl;simp only[A9];generalize B6 ⟨d,i⟩ ⟨c,h⟩=R at g⊢;have m:=((Ac.refl [] w).alloc (.cells [.string d, .slice r i.length q].toArray 104)).alloc (.cells [.string c, .slice p h.length s].toArray 104);have n:=Ab (X4 d c ((w.alloc (.cells [.string d, .slice r i.length q].toArray 104)).alloc (.cells [.string c, .slice p h.length s].toArray 104)));have o:=Ab (Qc r q i p s h _ (Ad k m (by simp)) (Ad j m (by simp)) u x);have v:=Ab m;clear m k j;generalize Dm d c=C at n g;generalize DO i h=D at o g;go_enter func104,ntmps104;go_wp2_with fail
 refine(Aa n).mono ?_;rintro e G ⟨rfl,B⟩;subst B;by_cases l:C=0
 ·have y:(C !=0)=false:=by simp[l]
  have t:Hid (R=D):=by show _=_;rw[Aa g,if_pos l]
  clear g n;go_wp2_with fail
  refine(Aa o).mono ?_;rintro e E ⟨rfl,A⟩;subst A;clear o;go_wp2;go_ret;rw[Aa t];exact⟨rfl,Aa v⟩
 ·have y:(C !=0)=true:=by simp[l]
  have t:Hid (R=C):=by show _=_;rw[Aa g,if_neg l]
  clear g n o;go_wp2;go_ret;rw[Aa t];exact⟨rfl,Aa v⟩
