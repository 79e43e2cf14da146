import Derived.Test.YtoihbhenbmffcaaGreatDoorYAM
set_option linter.all false
set_option maxHeartbeats 0
namespace Go.Proofs.YtoihbhenbmffcaaGreatDoor
open Go.RowKit Go.Proofs.Tryz
def LA(x:cR)(l:List cR)(c:A7):List cR:=if c.head.name.toList==x.toList then c.bl.foldl eA l else l
def Ls(cs:List A7)(l:List cR)(x:cR):List cR:=cs.foldl (LA x) l
def Di(cs:List A7):List cR:=cs.flatMap λc=>(c.bl.filter KT).map λp=>p.1.A.name
def NU(cs:List A7)(l:List cR):Nat:=(Di cs).countP λx=> !Dz l x
def Bd(cs:List A7)(l:List cR):Prop:=l.length+NU cs l<=1+(Di cs).length
def I0:Nat->List A7->cR->List cR->Nat->Bool
 |0,_,_,_,_=>false
 |f+1,cs,to,l,n=>if h:n<l.length then(if l[n].toList==to.toList then true else I0 f cs to (Ls cs l l[n]) (n+1))else false
def Gz(cs:List A7)(frm to:cR):Bool:=I0 (2+(Di cs).length) cs to [frm] 0
theorem MR(l:List cR)(x:cR):∀(m:List cR),(m.countP λy=> !Dz (l++[x]) y)<=m.countP λy=> !Dz l y
 |[]=>by simp
 |y::m=>by
  have ih:=MR l x m;simp only[List.countP_cons];have:(!Dz (l++[x]) y)=true->(!Dz l y)=true:=by
   rw[JP];cases Dz l y<;>simp
  cases h1:(!Dz (l++[x]) y)with
  |true=>simp only[this h1,if_true];omega
  |false=>simp only[bN,if_false];omega
theorem Ir(l:List cR)(x:cR)(b:Dz l x=false):∀(m:List cR),x∈m->(m.countP λy=> !Dz (l++[x]) y)+1<=m.countP λy=> !Dz l y
 |[],h=>by simp at h
 |y::m,h=>by
  simp only[List.countP_cons];by_cases c:y=x
  .subst c;have a:=MR l y m;(have d:Dz (l++[y]) y=true:=by rw[JP];simp);simp only[d,b,ey,dn,if_true,bN,if_false];omega
  .have ih:=Ir l x b m (by rcases bS.1 h with h|h;exact absurd h.symm c;exact h);have:(!Dz (l++[x]) y)=true->(!Dz l y)=true:=by
    rw[JP];cases Dz l y<;>simp
   cases a:(!Dz (l++[x]) y)with
   |true=>simp only[this a,if_true];omega
   |false=>simp only[bN,if_false];omega
theorem YS{cs:List A7}{c:A7}{p:AY}{l:List cR}(f:c∈cs)(a:p∈c.bl)(h:Bd cs l):Bd cs (eA l p):=by
 unfold eA Cn;split
 .rename_i e;split
  .exact h
  .rename_i g;(have d:Dz l p.1.A.name=false:=by simpa using g);have b:p.1.A.name∈Di cs:=by
    unfold Di;rw[cO];exact⟨c,f,bV.2 ⟨p,cn.2 ⟨a,e⟩,rfl⟩⟩
   have:=Ir l p.1.A.name d (Di cs) b;unfold Bd NU at h⊢;simp only[cc,bU,cE];omega
 .exact h
theorem XG(l:List cR)(p:AY):∃a,eA l p=l++a:=by
 unfold eA Cn;split
 .split
  .exact⟨[],by simp⟩
  .exact⟨[_],rfl⟩
 .exact⟨[],by simp⟩
structure D7(cs:List A7)(l l2:List cR):Prop where
 pre:∃suf,l2=l++suf
 bd:Bd cs l2
theorem D7.eA{cs:List A7}{l b:List cR}(h:D7 cs l b){c:A7}{p:AY}(i:c∈cs)(d:p∈c.bl):D7 cs l (eA b p):=by
 obtain⟨⟨a,rfl⟩,g⟩:=h;obtain⟨e,f⟩:=XG (l++a) p;exact⟨⟨a++e,by rw[f,dd]⟩,YS i d g⟩
theorem D7.at{cs:List A7}{l a:List cR}(h:D7 cs l a){n:Nat}(b:n<l.length):∃c:n<a.length,a[n]=l[n]:=by
 obtain⟨⟨d,rfl⟩,_⟩:=h;exact⟨by simp;omega,List.getElem_append_left b⟩
theorem D7.len{cs:List A7}{l a:List cR}(h:D7 cs l a):l.length<=a.length/\a.length<=1+(Di cs).length:=by
 obtain⟨⟨c,rfl⟩,b⟩:=h;unfold Bd at b;exact⟨by simp,by omega⟩
set_option maxRecDepth 100000
theorem R1(pb:Nat)(lv:Value)(cs:List A7)(K G:cR)(w:World)(hP:AE w pb [lv] 76)(hR:Ci w lv cs)(NV:cs.length<=1000000)(H7:∀c∈cs,c.bl.length<=1000000)(Nq:(Di cs).length<=900000):
  Calls prog 85 #[.pointer (some ⟨pb,0,none⟩),.string K,.string G] w λe w'=>e=.returned (.bool (Gz cs K G))/\Ac [] w w':=by
 obtain⟨i0,KK,H1,FC,EX⟩:=cU Tryz.gW;obtain⟨ad,HQ,rfl⟩:=Aj hR.row;obtain⟨R,HE⟩:∃R,Gz cs K G=R:=⟨_,rfl⟩;rw[HE];have HR:Hid (Ci w (.slice ad cs.length HQ) cs/\(∀c∈cs,c.bl.length<=1000000)/\Gz cs K G=R):=⟨hR,H7,HE⟩;obtain⟨A,hA⟩:∃A,(Di cs).length=A:=⟨_,rfl⟩;rw[hA]at Nq;have HA:=Ab hA;clear hR H7 HE hA;have RB:∀(x:Bool) (w:World),(Op.unary .not (.bool x)).run prog w=.ok (.bool (!x)) w:=λ_ _=>rfl
 go_enter func85,ntmps85;go_wp2
 go_loopg [7,8] (1+A) (λgk o i wr=>∃(n:Nat) (l:List cR),i=.int .i64 n/\n<=l.length/\l.length<=1+A/\gk=1+A-n/\Hid (Bd cs l/\I0 (2+A-n) cs G l n=R)/\wr.ownsRow w.heap.size 9 1 o l.length (l.flatMap Ae)/\Ac [] w wr)
 case atStart=>
  refine⟨0,[K],rfl,by simp,by simp,by simp,⟨?_,?_⟩,?_,(Ac.refl _ _).alloc _⟩
  .unfold Bd NU;have:=fT (p:=λx=> !Dz [K] x) (l:=Di cs);simp only[bU,cE];omega
  .have h:=HR.out.2.2;unfold Gz at h;rw[Aa HA]at h;exact h
  .exact⟨rfl,Or.inr ⟨_,1,#[.string K],rfl,bZ _,cA w _,by simp,by unfold maxLen;omega,rfl,by simp[Ae]⟩⟩
 case round=>
  obtain⟨n,l,rfl,hn,hl,K3,HB,FA,hK⟩:=hrel;have HG:Hid (gk=1+A-n):=K3;clear K3;obtain⟨RT,RO,rfl⟩:=Aj FA;by_cases T:n<l.length
  .obtain⟨g,N4,he,hc,H3⟩:=Av FA (λc _=>rfl) n T;simp only[bK]at he;obtain⟨rfl,_,rfl⟩:=he;have F:=H3 n T 0 (by omega);simp[Ae]at F;clear H3;obtain⟨x,S⟩:∃x,l[n]=x:=⟨_,rfl⟩;rw[S]at F;cases hto:(x.toList==G.toList)with
   |true=>
    have M6:Hid (R=true):=by
     have h:=HB.out.2;rw[show 2+A-n=(1+A-n)+1 by omega,I0,dif_pos T,S,hto]at h;exact h.symm
    clear S;go_wp2;go_ret;rw[M6.out];exact⟨rfl,hK⟩
   |false=>
    have K4:Hid (I0 (2+A-(n+1)) cs G (Ls cs l x) (n+1)=R/\l[n]=x):=by
     have h:=HB.out.2;rw[show 2+A-n=(2+A-(n+1))+1 by omega,I0,dif_pos T,S,hto]at h;exact⟨h,S⟩
    have H0:Hid (D7 cs l l):=⟨⟨[],by simp⟩,HB.out.1⟩;clear S HB;go_wp2;clear F hto
    go_loopw [7,9] (λo i M=>∃(k:Nat) (b:List cR),i=.int .i64 k/\k<=cs.length/\Hid ((cs.take k).foldl (LA x) l=b/\D7 cs l b)/\M.ownsRow w.heap.size 9 1 o b.length (b.flatMap Ae)/\Ac [] w M) (λ_ i _=>cs.length-(intOf i).toNat)
    case atStart=>exact⟨0,l,rfl,b8 _,⟨by simp,H0.out⟩,FA,hK⟩
    case round=>
     clear FA hK H0;obtain⟨k,b,rfl,hk,Y,H,B⟩:=hrel;obtain⟨QR,NL,rfl⟩:=Aj H;have Jx:=(hP.kept B (by simp)).cell 0;simp at Jx;by_cases t:k<cs.length
     .have HP:=HR.out.1.kept B;obtain⟨gp,QQ,JA,_,M3⟩:=Av HP.row (λc _=>BH c) k t;simp only[bK]at JA;obtain⟨rfl,_,rfl⟩:=JA;have W:=HP.each cs[k] (bL t);have RV:=HR.out.2.1 cs[k] (bL t);obtain⟨Mo,H2,H9⟩:=Aj W.body;have K6:=Ab H9;clear M3 HP W H9 Jx;have Q:Hid (∀(J:World) (o:Value) (a:List cR),Ac [] w J->J.ownsRow w.heap.size 9 1 o a.length (a.flatMap Ae)->D7 cs l a->
        J.cell? ⟨pb,0,none⟩=some (.slice (some ⟨gp,0,none⟩) cs.length HQ)/\J.cell? ⟨gp,k*5,none⟩=some (.string cs[k].head.name)/\J.cell? ⟨gp,k*5+3,none⟩=some (.slice Mo cs[k].bl.length H2)/\
        ∃E N,o=.slice (some ⟨E,0,none⟩) a.length N/\n<a.length/\J.cell? ⟨E,n,none⟩=some (.string x)):=by
       intro J o a K5 LB NM;have h1:=(hP.kept K5 (by simp)).cell 0;have K9:=HR.out.1.kept K5;obtain⟨g2,c2,K7,_,Ix⟩:=Av K9.row (λc _=>BH c) k t;simp only[bK,bR,cI]at K7;obtain⟨⟨rfl,_,_⟩,_,rfl⟩:=K7;have h2:=Ix k t 0 (by omega);have h3:=Ix k t 3 (by omega);simp[Cs]at h1 h2 h3;rw[Aa K6]at h3;obtain⟨Z,LL⟩:=NM.at T;obtain⟨E,N,P,_,Nx⟩:=Av LB (λc _=>rfl) n Z;have h4:=Nx n Z 0 (by omega);simp[Ae]at h4;rw[LL,K4.out.2]at h4;exact⟨h1,h2,h3,E,N,P,Z,h4⟩
      cases hnm:(cs[k].head.name.toList==x.toList)with
      |false=>
       have D:Hid ((cs.take (k+1)).foldl (LA x) l=b/\D7 cs l b):=⟨by rw[CW _ _ t,Y.out.1];simp[LA,hnm],Y.out.2⟩;obtain⟨V,f2,f3,E,N,P,Z,f4⟩:=Q.out _ _ _ B H D.out.2;simp only[bK]at P;obtain⟨rfl,_,rfl⟩:=P;clear Q;(have LM:(k:Int)<(cs.length:Int):=by omega);(have LS:(n:Int)<(b.length:Int):=by omega);go_wp2
       go_loopw [7,10] (λo i M=>o=.slice (some ⟨E,0,none⟩) b.length NL/\i=.int .i64 0/\∃q,M=wr.drewN q) (λ_ _ _=>0)
       case atStart=>exact⟨rfl,rfl,0,rfl⟩
       case round=>
        obtain⟨rfl,rfl,q,rfl⟩:=hrel;go_wp2_with fail
        go_quiet (fail)
        go_wp2_with fail
        go_roundw
        case rel=>exact⟨k+1,b,by go_num,by omega,D,CQ H _,B.drewN _⟩
        case measure=>simp[intOf];omega
      |true=>
       (have NS:Hid ((cs.take (k+1)).foldl (LA x) l=cs[k].bl.foldl eA b):=by show _=_;rw[CW _ _ t,Y.out.1];simp[LA,hnm]);have IA:=Ab Y.out.2;(have LM:(k:Int)<(cs.length:Int):=by omega);obtain⟨V,_⟩:=Q.out _ _ _ B H (Aa IA);go_wp2;clear V
       go_loopw [7,10] (λo i M=>∃(m:Nat) (a:List cR),i=.int .i64 m/\m<=cs[k].bl.length/\Hid ((cs[k].bl.take m).foldl eA b=a/\D7 cs l a)/\M.ownsRow w.heap.size 9 1 o a.length (a.flatMap Ae)/\Ac [] w M) (λ_ i _=>cs[k].bl.length-(intOf i).toNat)
       case atStart=>exact⟨0,b,rfl,b8 _,⟨by simp,Aa IA⟩,H,B⟩
       case round=>
        clear H;have Os:=Ab B;clear B;obtain⟨m,a,rfl,hm,HN,CC,U⟩:=hrel;obtain⟨V,f2,f3,E,N,P,Z,f4⟩:=Q.out _ _ _ U CC HN.out.2;subst P;(have LS:(n:Int)<(a.length:Int):=by omega);(have PT:a.length<=1+A:=by have:=HN.out.2.len.2;rw[Aa HA]at this;exact this);have MB:=U.size;by_cases f:m<cs[k].bl.length
        ·(have Pl:(m:Int)<(cs[k].bl.length:Int):=by omega);(have MN:decide ((m:Int)<(cs[k].bl.length:Int))=true:=by simp;omega);have W:=(HR.out.1.kept U).each cs[k] (bL t);obtain⟨d,NY,HH,RE,y⟩:=Av W.body (λc _=>Bw c) m f;rw[Aa K6]at HH;simp only[bK]at HH;obtain⟨rfl,_,rfl⟩:=HH;have hl:=W.lits cs[k].bl[m] (bL f);obtain⟨HT,HI,K1⟩:=Aj hl;have F:=y m f 0 (by omega);have d1:=y m f 1 (by omega);have X:=y m f 2 (by omega);have d3:=y m f 3 (by omega);have d4:=y m f 4 (by omega);have d5:=y m f 5 (by omega);have d6:=y m f 6 (by omega);have d7:=y m f 7 (by omega);have d8:=y m f 8 (by omega);simp[AN,BQ]at F d1 X d3 d4 d5 d6 d7 d8;rw[K1]at X;have HD:Hid (wr.cell? ⟨d,m*9,none⟩=some (.int .u8 cs[k].bl[m].1.kind.toNat)/\wr.cell? ⟨d,m*9+1,none⟩=some (.string cs[k].bl[m].1.A.name)/\wr.cell? ⟨d,m*9+2,none⟩=some (.slice HT cs[k].bl[m].1.A.args.length HI)/\wr.cell? ⟨d,m*9+3,none⟩=some (.int .i64 cs[k].bl[m].1.A.at_)/\wr.cell? ⟨d,m*9+4,none⟩=some (.int .u8 cs[k].bl[m].1.L.v.toNat)/\wr.cell? ⟨d,m*9+5,none⟩=some (.string cs[k].bl[m].1.L.s)/\wr.cell? ⟨d,m*9+6,none⟩=some (.int .u8 cs[k].bl[m].1.R.v.toNat)/\wr.cell? ⟨d,m*9+7,none⟩=some (.string cs[k].bl[m].1.R.s)/\wr.cell? ⟨d,m*9+8,none⟩=some (.int .i64 cs[k].bl[m].1.at_)):=⟨F,d1,X,d3,d4,d5,d6,d7,d8⟩;have u:Hid ((cs[k].bl.take (m+1)).foldl eA b=eA a cs[k].bl[m]/\D7 cs l (eA a cs[k].bl[m])):=⟨by rw[CW _ _ f,HN.out.1],HN.out.2.eA (bL t) (bL f)⟩;clear y hl K1 W F d1 X d3 d4 d5 d6 d7 d8 Q;go_wp2_with fail
         go_quiet (fail)
         have BT:=CQ CC nq;have I:=U.drewN nq;have FF:(wr.drewN nq).cell? ⟨pb,0,none⟩=some (.slice (some ⟨gp,0,none⟩) cs.length HQ)/\(wr.drewN nq).cell? ⟨gp,k*5+3,none⟩=some (.slice (some ⟨d,0,none⟩) cs[k].bl.length H2)/\(wr.drewN nq).cell? ⟨d,m*9,none⟩=some (.int .u8 cs[k].bl[m].1.kind.toNat)/\(wr.drewN nq).cell? ⟨d,m*9+1,none⟩=some (.string cs[k].bl[m].1.A.name)/\(wr.drewN nq).cell? ⟨d,m*9+2,none⟩=some (.slice HT cs[k].bl[m].1.A.args.length HI)/\(wr.drewN nq).cell? ⟨d,m*9+3,none⟩=some (.int .i64 cs[k].bl[m].1.A.at_)/\(wr.drewN nq).cell? ⟨d,m*9+4,none⟩=some (.int .u8 cs[k].bl[m].1.L.v.toNat)/\(wr.drewN nq).cell? ⟨d,m*9+5,none⟩=some (.string cs[k].bl[m].1.L.s)/\(wr.drewN nq).cell? ⟨d,m*9+6,none⟩=some (.int .u8 cs[k].bl[m].1.R.v.toNat)/\(wr.drewN nq).cell? ⟨d,m*9+7,none⟩=some (.string cs[k].bl[m].1.R.s)/\(wr.drewN nq).cell? ⟨d,m*9+8,none⟩=some (.int .i64 cs[k].bl[m].1.at_):=⟨V,f3,HD.out⟩;clear HD V f2 f3 f4 CC U MB;generalize wr.drewN nq=wd at FF BT I⊢;obtain⟨V,f3,F,d1,X,d3,d4,d5,d6,d7,d8⟩:=FF;have N2:=I.size;have z:=BT.alloc (.cells #[.int .u8 cs[k].bl[m].1.kind.toNat,.string cs[k].bl[m].1.A.name,.slice HT cs[k].bl[m].1.A.args.length HI,.int .i64 cs[k].bl[m].1.A.at_,.int .u8 cs[k].bl[m].1.L.v.toNat,.string cs[k].bl[m].1.L.s,.int .u8 cs[k].bl[m].1.R.v.toNat,.string cs[k].bl[m].1.R.s,.int .i64 cs[k].bl[m].1.at_] 95);rcases Dp cs[k].bl[m] with⟨k1,j⟩|⟨k1,k2,j⟩|⟨k1,k2,j⟩
         .cases hh2:Dz a cs[k].bl[m].1.A.name with
          |true=>
           (have e:eA a cs[k].bl[m]=a:=by simp[eA,Cn,j,hh2]);(have C:Hid ((cs[k].bl.take (m+1)).foldl eA b=a/\D7 cs l a):=by have h:=u.out;rw[e]at h;exact h);clear e;clear u j;(go_wp2_with fail);refine(Dg _ a cs[k].bl[m].1.A.name w.heap.size _ z (by omega)).mono ?_;rintro e O ⟨rfl,r⟩;rw[hh2,r];clear r O hh2;go_wp2
           go_roundw
           case rel=>exact⟨m+1,a,by go_num,by omega,C,z,I.alloc _⟩
           case measure=>simp[intOf];omega
          |false=>
           (have e:eA a cs[k].bl[m]=a++[cs[k].bl[m].1.A.name]:=by simp[eA,Cn,j,hh2]);(have C:Hid ((cs[k].bl.take (m+1)).foldl eA b=a++[cs[k].bl[m].1.A.name]/\D7 cs l (a++[cs[k].bl[m].1.A.name])):=by have h:=u.out;rw[e]at h;exact h);clear e;clear u j;(go_wp2_with fail);refine(Dg _ a cs[k].bl[m].1.A.name w.heap.size _ z (by omega)).mono ?_;rintro e O ⟨rfl,r⟩;rw[hh2,r];clear r O hh2;go_wp2_with (at_builtin;refine cd _ rfl (.tmp 91) (.tmp 95) _ rfl w.heap.size 9 i0 _ 1 16 underlying41 KK H1 FC EX rfl (by omega) (.slice (some ⟨E,0,none⟩) a.length N) a.length (a.flatMap Ae) rfl (z.alloc _) ⟨wd.heap.size+1,0,none⟩ 1 1 [.string cs[k].bl[m].1.A.name] rfl rfl (Hx wd _ _ _ _ rfl) (by simp[Value.oneCell']) (by omega) (by unfold maxLen;omega) (by omega) (by simp;omega) (wd.heap.size+2) (by simp) ?_;intro g5 M1 w5 FW AT Ha HL)
           have HU:Ac [] w w5:=((I.alloc _).alloc _).grown AT (λq hq=>Or.inr (BT.lt q hq).1);clear AT Ha HL;go_wp2
           go_roundw
           case rel=>
            refine⟨m+1,a++[cs[k].bl[m].1.A.name],by go_num,by omega,C,?_,HU⟩;simpa[Ae] using FW
           case measure=>simp[intOf];omega
         .cases hh2:Dz a cs[k].bl[m].1.A.name with
          |true=>
           (have e:eA a cs[k].bl[m]=a:=by simp[eA,Cn,j,hh2]);(have C:Hid ((cs[k].bl.take (m+1)).foldl eA b=a/\D7 cs l a):=by have h:=u.out;rw[e]at h;exact h);clear e;clear u j;(go_wp2_with fail);refine(Dg _ a cs[k].bl[m].1.A.name w.heap.size _ z (by omega)).mono ?_;rintro e O ⟨rfl,r⟩;rw[hh2,r];clear r O hh2;go_wp2
           go_roundw
           case rel=>exact⟨m+1,a,by go_num,by omega,C,z,I.alloc _⟩
           case measure=>simp[intOf];omega
          |false=>
           (have e:eA a cs[k].bl[m]=a++[cs[k].bl[m].1.A.name]:=by simp[eA,Cn,j,hh2]);(have C:Hid ((cs[k].bl.take (m+1)).foldl eA b=a++[cs[k].bl[m].1.A.name]/\D7 cs l (a++[cs[k].bl[m].1.A.name])):=by have h:=u.out;rw[e]at h;exact h);clear e;clear u j;(go_wp2_with fail);refine(Dg _ a cs[k].bl[m].1.A.name w.heap.size _ z (by omega)).mono ?_;rintro e O ⟨rfl,r⟩;rw[hh2,r];clear r O hh2;go_wp2_with (at_builtin;refine cd _ rfl (.tmp 91) (.tmp 95) _ rfl w.heap.size 9 i0 _ 1 16 underlying41 KK H1 FC EX rfl (by omega) (.slice (some ⟨E,0,none⟩) a.length N) a.length (a.flatMap Ae) rfl (z.alloc _) ⟨wd.heap.size+1,0,none⟩ 1 1 [.string cs[k].bl[m].1.A.name] rfl rfl (Hx wd _ _ _ _ rfl) (by simp[Value.oneCell']) (by omega) (by unfold maxLen;omega) (by omega) (by simp;omega) (wd.heap.size+2) (by simp) ?_;intro g5 M1 w5 FW AT Ha HL)
           have HU:Ac [] w w5:=((I.alloc _).alloc _).grown AT (λq hq=>Or.inr (BT.lt q hq).1);clear AT Ha HL;go_wp2
           go_roundw
           case rel=>
            refine⟨m+1,a++[cs[k].bl[m].1.A.name],by go_num,by omega,C,?_,HU⟩;simpa[Ae] using FW
           case measure=>simp[intOf];omega
         ·(have e:eA a cs[k].bl[m]=a:=by simp[eA,j]);(have C:Hid ((cs[k].bl.take (m+1)).foldl eA b=a/\D7 cs l a):=by have h:=u.out;rw[e]at h;exact h);clear e;clear u j;go_wp2
          go_roundw
          case rel=>exact⟨m+1,a,by go_num,by omega,C,z,I.alloc _⟩
          case measure=>simp[intOf];omega
        ·(have MN:decide ((m:Int)<(cs[k].bl.length:Int))=false:=by simp;omega);(have SB:decide (m<cs[k].bl.length)=false:=by simp;omega);have D:Hid ((cs.take (k+1)).foldl (LA x) l=a/\D7 cs l a):=by
          have h:=HN.out;rw[bP (by omega)]at h;exact⟨by rw[Aa NS];exact h.1,h.2⟩
         clear Q;go_wp2_with fail
         go_quiet (fail)
         go_wp2_with fail
         go_roundw
         case rel=>exact⟨k+1,a,by go_num,by omega,D,CQ CC _,U.drewN _⟩
         case measure=>simp[intOf];omega
     ·(have D:Hid (Ls cs l x=b/\D7 cs l b):=by have h:=Y.out;rw[bP (by omega)]at h;exact h);(have FC:n+1<=b.length:=by have:=D.out.2.len.1;omega);(have EX:b.length<=1+A:=by have:=D.out.2.len.2;rw[Aa HA]at this;exact this);go_wp2
      go_roundg (1+A-(n+1))
      case measure=>have:=HG.out;omega
      case rel=>exact⟨n+1,b,by go_num,FC,EX,rfl,⟨D.out.2.bd,by rw[<-D.out.1];exact K4.out.1⟩,H,B⟩
  .have LC:Hid (R=false):=by
    have h:=HB.out.2;rw[show 2+A-n=(1+A-n)+1 by omega,I0,dif_neg T]at h;exact h.symm
   go_wp2;go_ret;rw[LC.out];exact⟨rfl,hK⟩
def Bt(p:AY):Bool:=decide (2<p.1.A.args.length)
def BD(cs:List A7)(p:AY):Bool:=KT p&&(CT cs p.1.A.name !=(p.1.A.args.length:Int))
def BS(cs:List A7)(i:Nat)(c:A7):Option (Int×Int):=
 if 12<=i\/3<c.bl.length then some (3,c.at_)
 else if 2<c.head.args.length then some (3,c.at_)
 else if c.bl.any Bt then some (3,c.at_)
 else if 6<(F8 (cs.take (i+1))).length\/6<(Dd (cs.take (i+1))).length then some (3,c.at_)
 else if CT cs c.head.name≠(c.head.args.length:Int)then some (4,c.head.at_)
 else match c.bl.find? (BD cs)with
  |some p=>some (4,p.1.A.at_)
  |none=>if 0<=C3 c.head c.bl then some (5,C3 c.head c.bl)else none
def DJ(cs:List A7):Nat->List A7->Option (Int×Int)
 |_,[]=>none
 |i,c::l=>match BS cs i c with
  |some r=>some r
  |none=>DJ cs (i+1) l
def Eb(cs:List A7)(c:A7)(p:AY):Bool:=p.1.kind==33&&Gz cs p.1.A.name c.head.name
def CY(cs:List A7)(c:A7):Option (Int×Int):=(c.bl.find? (Eb cs c)).map λp=>(6,(p.1.at_:Int))
def Cg(cs:List A7):Int×Int:=match DJ cs 0 cs with
 |some r=>r
 |none=>match cs.findSome? (CY cs)with
  |some r=>r
  |none=>(0,0)
theorem Jl{cs:List A7}:∀(l:List A7) (i k:Nat),(∀j (b:j<l.length),j<k->BS cs (i+j) l[j]=none)->k<=l.length->DJ cs i l=DJ cs (i+k) (l.drop k)
 |l,i,0,_,_=>by simp
 |[],i,k+1,_,hk=>by simp at hk
 |c::l,i,k+1,h,hk=>by
  have a:=h 0 (by simp) (by omega);simp only[fS,fG]at a;rw[DJ,a];simp only[eZ];rw[Jl l (i+1) k (λj b d=>by
   have:=h (j+1) (by simp;omega) (by omega)
   simp only[List.getElem_cons_succ]at this
   rw[show i+1+j=i+(j+1) by omega];exact this) (by simpa using hk)]
  rw[show i+1+k=i+(k+1) by omega]
theorem U5{cs:List A7}{k:Nat}(b:k<cs.length)(d:∀j (a:j<cs.length),j<k->BS cs j cs[j]=none){r:Int×Int}(c:BS cs k cs[k]=some r):Cg cs=r:=by
 unfold Cg;rw[Jl cs 0 k (λj a e=>by rw[cV];exact d j a e) (by omega),ci b,cV,DJ,c]
theorem Si{cs:List A7}(b:∀j (a:j<cs.length),BS cs j cs[j]=none):Cg cs=match cs.findSome? (CY cs)with|some r=>r|none=>(0,0):=by
 unfold Cg;rw[Jl cs 0 cs.length (λj a _=>by rw[cV];exact b j a) (bZ _),List.drop_length,DJ]
theorem Re{cs:List A7}{i:Nat}{c:A7}(h:BS cs i c=none):i<12/\I9 c:=by
 unfold BS at h;split at h
 .cases h
 .rename_i d;split at h
  .cases h
  .rename_i e;split at h
   .cases h
   .rename_i b;refine⟨by omega,⟨by omega,by omega,λp a=>?_⟩⟩;have:Bt p=false:=by
     cases hm:Bt p with
     |false=>rfl
     |true=>exact absurd (by rw[dp];exact⟨p,a,hm⟩) b
    simpa[Bt] using this
theorem Ci.take{w:World}{g:Nat}{cap:Nat}{cs:List A7}(h:Ci w (.slice (some ⟨g,0,none⟩) cs.length cap) cs)(k:Nat)(r:k<=cs.length):Ci w (.slice (some ⟨g,0,none⟩) k cap) (cs.take k):=by
 refine⟨?_,λc j=>h.each c (d9 j)⟩;have d:(cs.take k).length=k:=by simp;omega
 rw[d];have i:∀(l:List A7),(l.flatMap Cs).length=l.length*5:=by
  intro l
  induction l with
  |nil=>rfl
  |cons a l ih=>rw[cg,cc,ih,BH,bU];omega
 rcases h.row.2 with⟨b,_⟩|⟨t,s,f,b,_,q,j,m,n,p⟩
 .cases b
 .simp only[bK,bR,cI]at b;obtain⟨⟨rfl,_,_⟩,_,rfl⟩:=b;refine⟨by rw[i,d],Or.inr ⟨g,cap,f,rfl,b8 _,q,by omega,m,n,?_⟩⟩;have e:cs.flatMap Cs=(cs.take k).flatMap Cs++(cs.drop k).flatMap Cs:=by rw[<-cw,dl]
  have o:f.toList.take (k*5)=(f.toList.take (cs.length*5)).take (k*5):=by rw[fd,eF (by omega)]
  rw[o,p,e,cX (by rw[i,d];omega),bP (by rw[i,d];omega)]
structure Tf(cs:List A7):Prop where
 len:cs.length<=1000
 body:∀c∈cs,c.bl.length<=1000
 head:∀c∈cs,c.head.args.length<=1000000
 lits:∀c∈cs,∀p∈c.bl,p.1.A.args.length<=1000000
 atoms:(Di cs).length<=900000
 full:∀c∈cs,XQ c
theorem RK{w b:World}{g cap:Nat}{cs:List A7}(h:Ci w (.slice (some ⟨g,0,none⟩) cs.length cap) cs)(o:Ac [] w b){k:Nat}(a:k<cs.length):
  b.cell? ⟨g,k*5,none⟩=some (.string cs[k].head.name)/\b.cell? ⟨g,k*5+1,none⟩=some cs[k].hv/\b.cell? ⟨g,k*5+2,none⟩=some (.int .i64 cs[k].head.at_)/\b.cell? ⟨g,k*5+3,none⟩=some cs[k].bv/\b.cell? ⟨g,k*5+4,none⟩=some (.int .i64 cs[k].at_):=by
 have n:=h.kept o;obtain⟨q,p,j,_,d⟩:=Av n.row (λc _=>BH c) k a;simp only[bK,bR,cI]at j;obtain⟨⟨rfl,_,_⟩,_,rfl⟩:=j;have l:=d k a 0 (by omega);have i:=d k a 1 (by omega);have e:=d k a 2 (by omega);have m:=d k a 3 (by omega);have f:=d k a 4 (by omega);simp[Cs]at l i e m f;exact⟨l,i,e,m,f⟩
theorem RL{w:World}{c:A7}(h:UC w c){m:Nat}(b:m<c.bl.length):∃a e,c.bv=.slice (some ⟨a,0,none⟩) c.bl.length e/\
  w.cell? ⟨a,m*9,none⟩=some (.int .u8 c.bl[m].1.kind.toNat)/\w.cell? ⟨a,m*9+1,none⟩=some (.string c.bl[m].1.A.name)/\w.cell? ⟨a,m*9+2,none⟩=some c.bl[m].2/\w.cell? ⟨a,m*9+3,none⟩=some (.int .i64 c.bl[m].1.A.at_)/\
  w.cell? ⟨a,m*9+4,none⟩=some (.int .u8 c.bl[m].1.L.v.toNat)/\w.cell? ⟨a,m*9+5,none⟩=some (.string c.bl[m].1.L.s)/\w.cell? ⟨a,m*9+6,none⟩=some (.int .u8 c.bl[m].1.R.v.toNat)/\w.cell? ⟨a,m*9+7,none⟩=some (.string c.bl[m].1.R.s)/\w.cell? ⟨a,m*9+8,none⟩=some (.int .i64 c.bl[m].1.at_):=by
 obtain⟨a,e,r,_,d⟩:=Av h.body (λp _=>Bw p) m b;have j:=d m b 0 (by omega);have k:=d m b 1 (by omega);have f:=d m b 2 (by omega);have i:=d m b 3 (by omega);have g:=d m b 4 (by omega);have l:=d m b 5 (by omega);have o:=d m b 6 (by omega);have n:=d m b 7 (by omega);have q:=d m b 8 (by omega);simp[AN,BQ]at j k f i g l o n q;exact⟨a,e,r,j,k,f,i,g,l,o,n,q⟩
theorem TU{cs:List A7}{k:Nat}(f:k<cs.length)(d:∀j (a:j<cs.length),j<k->BS cs j cs[j]=none)(e:I9 cs[k]):∀c∈cs.take (k+1),I9 c:=by
 intro c b;obtain⟨j,a,rfl⟩:=List.mem_iff_getElem.1 b;simp only[cM]at a;rw[eR];by_cases h:j<k
 .exact(Re (d j (by omega) h)).2
 .have:j=k:=by omega
  subst this;exact e
structure KW(w0:World) where
 wk:World
 kept:Ac [] w0 wk
theorem KW.some(w0:World):Nonempty (KW w0):=⟨⟨w0,Ac.refl _ _⟩⟩
theorem FV{P:Program}{d:Nat}{Q:Exit->Act->World->Prop}{a:Act}{w w0:World}{l:List Oper}(e:P.follows .mixedOrders=true)(g:Region.lexB .any l.toArray=true)(c:Ac [] w0 w)
  (h:wpQuiet P l.toArray (λb=>∃n:KW w0,b=n.wk) (λf=>∀b,(∃n:KW w0,b=n.wk)->Q .normal f b) l a):(Code.region d l.toArray true).wp P Q a w:=
 wp_region_quiet (C:=λb=>∃n:KW w0,b=n.wk) e g ⟨⟨_,c.drew⟩,rfl⟩ (by simpa using h)
theorem Calls.gT{P:Program}{f:FuncId}{args:Array Value}{w0:World}{n:KW w0}{v:Value}
  (h:Calls P f args n.wk λe a=>e=.returned v/\Ac [] n.wk a):Calls P f args n.wk λe b=>e=.returned v/\∃m:KW w0,b=m.wk:=
 h.mono λ_ a ⟨he,hk⟩=>⟨he,⟨⟨a,n.kept.trans hk⟩,rfl⟩⟩
theorem WP(pb:Nat)(lv:Value)(cs:List A7)(w:World)(hP:AE w pb [lv] 76)(hR:Ci w lv cs)(hF:Tf cs):
  Calls prog 45 #[.pointer (some ⟨pb,0,none⟩)] w λe w'=>e=.returned (.tuple #[.int .i64 (Cg cs).1,.int .i64 (Cg cs).2])/\Ac [] w w':=by
 obtain⟨ad,cap,rfl⟩:=Aj hR.row;obtain⟨R,hRR⟩:∃R,Cg cs=R:=⟨_,rfl⟩;rw[hRR];have HR:Hid (Ci w (.slice ad cs.length cap) cs/\Tf cs/\Cg cs=R):=⟨hR,hF,hRR⟩;have hlen:=hF.len;clear hR hF hRR;go_enter func45,ntmps45;go_wp2
 go_loopw [4] (λi wr=>∃k:Nat,i=.int .i64 k/\k<=cs.length/\Hid (∀j (hj:j<cs.length),j<k->BS cs j cs[j]=none)/\Ac [] w wr) (λi _=>cs.length-(intOf i).toNat)
 case atStart=>exact⟨0,rfl,b8 _,λj hj h=>by omega,Ac.refl _ _⟩
 case round=>
  obtain⟨k,rfl,hk,HC,hK⟩:=hrel;have hpc:=(hP.kept hK (by simp)).cell 0;simp at hpc;by_cases gK:k<cs.length
  .obtain⟨g,cap',he,hcap,hcellx⟩:=Av HR.out.1.row (λc _=>BH c) k gK;clear hcellx;simp only[bK]at he;obtain⟨rfl,_,rfl⟩:=he;obtain⟨c0,c1,c2,c3,c4⟩:=RK HR.out.1 hK gK;have hin:=(HR.out.1.kept hK).each cs[k] (bL gK);obtain⟨adh,caph,hhv⟩:=Aj hin.args;obtain⟨adb,capb,hbv⟩:=Aj hin.body;rw[hhv]at c1;rw[hbv]at c3;obtain⟨c,hc⟩:∃c,cs[k]=c:=⟨_,rfl⟩;rw[hc]at c0 c1 c2 c3 c4 hhv hbv;have HH:Hid (cs[k]=c/\c.hv=.slice adh c.head.args.length caph/\c.bv=.slice adb c.bl.length capb):=⟨hc,hhv,hbv⟩;(have hbl:c.bl.length<=1000:=by have:=HR.out.2.1.body cs[k] (bL gK);rw[hc]at this;exact this);(have hhl:c.head.args.length<=1000000:=by have:=HR.out.2.1.head cs[k] (bL gK);rw[hc]at this;exact this);have HIT:Hid (∀r,BS cs k c=some r->R=r):=by
    intro r hr;rw[<-HR.out.2.2];exact U5 gK HC.out (by rw[hc];exact hr)
   clear hin hhv hbv hc;by_cases h1:12<=k\/3<c.bl.length
   .have HRt:Hid (R=(3,(c.at_:Int))):=HIT.out _ (by unfold BS;rw[if_pos h1]);by_cases h12:12<=k
    ·(have h12':(12:Int)<=(k:Int):=by omega);clear h1;go_wp2_with fail
     go_quiet (fail)
     (go_wp2_with fail);go_ret2;rw[HRt.out];exact⟨rfl,(hK.alloc _).drewN _⟩
    ·(have h3:(3:Int)<(c.bl.length:Int):=by omega);clear h1;go_wp2_with fail
     go_quiet (fail)
     (go_wp2_with fail);go_ret2;rw[HRt.out];exact⟨rfl,(hK.alloc _).drewN _⟩
   ·(have hk12:k<12:=by omega);(have hb3:c.bl.length<=3:=by omega);by_cases h2:2<c.head.args.length
    .have HRt:Hid (R=(3,(c.at_:Int))):=HIT.out _ (by unfold BS;rw[if_neg h1,if_pos h2]);clear h1;go_wp2_with fail
     go_quiet (fail)
     (go_wp2_with fail);go_ret2;rw[HRt.out];exact⟨rfl,(hK.alloc _).drewN _⟩
    ·(have ha2:c.head.args.length<=2:=by omega);have H12:Hid (¬(12<=k\/3<c.bl.length)/\¬2<c.head.args.length):=⟨h1,h2⟩;clear h1 h2;(go_wp2_with fail);have hB1:=AE.new wr [.string c.head.name,.slice adh c.head.args.length caph,.int .i64 c.head.at_,.slice adb c.bl.length capb,.int .i64 c.at_] 82;have hK1:=hK.alloc (.cells [.string c.head.name,.slice adh c.head.args.length caph,.int .i64 c.head.at_,.slice adb c.bl.length capb,.int .i64 c.at_].toArray 82);have hwN:=hK.size;clear hpc c0 c1 c2 c3 c4 hK;generalize wr.alloc (.cells [.string c.head.name,.slice adh c.head.args.length caph,.int .i64 c.head.at_,.slice adb c.bl.length capb,.int .i64 c.at_].toArray 82)=w1 at hB1 hK1⊢;generalize wr.heap.size=N at hB1 hwN⊢;have q0:=hB1.cell 0;have q1:=hB1.cell 1;have q2:=hB1.cell 2;have q3:=hB1.cell 3;have q4:=hB1.cell 4;simp at q0 q1 q2 q3 q4
     go_loop [6] (λi=>∃m:Nat,i=.int .i64 m/\m<=c.bl.length/\Hid ((c.bl.take m).any Bt=false)) (λi=>c.bl.length-(intOf i).toNat)
     case atStart=>exact⟨0,rfl,b8 _,by show _=_;simp⟩
     case round=>
      obtain⟨m,rfl,hm,HM⟩:=hrel;by_cases hlm:m<c.bl.length
      .have hin:=(HR.out.1.kept hK1).each cs[k] (bL gK);rw[HH.out.1]at hin;obtain⟨gb,capb',heb,d0,d1,d2,d3,d4,d5,d6,d7,d8⟩:=RL hin hlm;rw[HH.out.2.2]at heb;simp only[bK]at heb;obtain⟨rfl,_,rfl⟩:=heb;obtain⟨ada,capa,hav⟩:=Aj (hin.lits c.bl[m] (bL hlm));rw[hav]at d2;clear d0 d1 d3 d4 d5 d6 d7 d8 hin hav;by_cases hma:2<c.bl[m].1.A.args.length
       .have HRt:Hid (R=(3,(c.at_:Int))):=HIT.out _ (by unfold BS;rw[if_neg H12.out.1,if_neg H12.out.2,if_pos (IR _ _ m hlm (by simpa[Bt] using hma))]);go_wp2_with fail
        go_quiet (fail)
        (go_wp2_with fail);go_ret2;rw[HRt.out];exact⟨rfl,hK1.drewN _⟩
       ·(have HN:Hid ((c.bl.take (m+1)).any Bt=false):=by show _=_;rw[Ct _ _ m hlm HM.out];simpa[Bt] using hma);go_wp2_with fail
        go_round
        case rel=>exact⟨m+1,by go_num,by omega,HN⟩
        case measure=>simp[intOf];omega
      ·(have HM2:Hid (c.bl.any Bt=false):=by have h:=HM.out;rwa [bP (by omega)]at h);clear HM;have hpc:=(hP.kept hK1 (by simp)).cell 0;simp at hpc;(have hcap':(k:Int)+1<=(cap:Int):=by omega);have HSm:Hid (∀c'∈cs.take (k+1),I9 c'):=by
        refine TU gK HC.out ?_;rw[HH.out.1];refine⟨hb3,ha2,λp hp=>?_⟩;cases hmm:Bt p with
        |false=>simpa[Bt] using hmm
        |true=>(have:c.bl.any Bt=true:=by rw[dp];exact⟨p,hp,hmm⟩);rw[HM2.out]at this;cases this
       (go_wp2_with fail);clear hlm hm;have hBq:=AE.new w1 [.slice (some ⟨g,0,none⟩) (k+1) cap] 76;have hK2:=hK1.alloc (.cells [.slice (some ⟨g,0,none⟩) (k+1) cap].toArray 76);have hB2:=hB1.alloc (.cells [.slice (some ⟨g,0,none⟩) (k+1) cap].toArray 76);have hNlt:=hB1.lt;clear hpc q0 q1 q2 q3 q4 hB1 hK1;generalize w1.alloc (.cells [.slice (some ⟨g,0,none⟩) (k+1) cap].toArray 76)=w2 at hBq hK2 hB2⊢;generalize w1.heap.size=Nq at hBq hNlt⊢;(have htl:(cs.take (k+1)).length=k+1:=by simp;omega);have hRk:=(HR.out.1.kept hK2).take (k+1) (by omega);refine(XD Nq _ (cs.take (k+1)) _ hBq hRk (by omega) (Aa HSm)).mono ?_;rintro e w3 ⟨v3,rfl,hown3,hK3⟩;obtain⟨ad3,cap3,rfl⟩:=Aj hown3;have hK3':=hK2.trans hK3;have hB3:=hB2.kept hK3 (by simp);have hBq3:=hBq.kept hK3 (by simp);have hRk3:=hRk.kept hK3;obtain⟨nn,hnn⟩:∃nn,(F8 (cs.take (k+1))).length=nn:=⟨_,rfl⟩;have HNN:=Ab hnn;rw[hnn];clear hown3 hK3 hB2 hBq hRk hK2 hnn;have q4:=hB3.cell 4;simp at q4;by_cases hn6:6<nn
       .have HRt:Hid (R=(3,(c.at_:Int))):=HIT.out _ (by unfold BS;rw[if_neg H12.out.1,if_neg H12.out.2,if_neg (by rw[HM2.out];exact dK),if_pos (Or.inl (by rw[Aa HNN];exact hn6))]);go_wp2_with fail
        go_quiet (fail)
        (go_wp2_with fail);go_ret2;rw[HRt.out];exact⟨rfl,hK3'.drewN _⟩
       ·(go_wp2_with fail);refine(U3 Nq _ (cs.take (k+1)) _ hBq3 hRk3 (by omega) (Aa HSm) (λc' hc'=>HR.out.2.1.full c' (d9 hc'))).mono ?_;rintro e w4 ⟨v4,rfl,hown4,hK4⟩;obtain⟨ad4,cap4,rfl⟩:=Aj hown4;have hK4':=hK3'.trans hK4;have hB4:=hB3.kept hK4 (by simp);obtain⟨nt,hnt⟩:∃nt,(Dd (cs.take (k+1))).length=nt:=⟨_,rfl⟩;have HNT:=Ab hnt;rw[hnt];clear hown4 hK4 hB3 hBq3 hRk3 hK3' hnt q4;have q0:=hB4.cell 0;have q1:=hB4.cell 1;have q2:=hB4.cell 2;have q4:=hB4.cell 4;simp at q0 q1 q2 q4;by_cases ht6:6<nt
        .have HRt:Hid (R=(3,(c.at_:Int))):=HIT.out _ (by unfold BS;rw[if_neg H12.out.1,if_neg H12.out.2,if_neg (by rw[HM2.out];exact dK),if_pos (Or.inr (by rw[Aa HNT];exact ht6))]);go_wp2_with fail
         go_quiet (fail)
         (go_wp2_with fail);go_ret2;rw[HRt.out];exact⟨rfl,hK4'.drewN _⟩
        .have H34:Hid (¬(6<(F8 (cs.take (k+1))).length\/6<(Dd (cs.take (k+1))).length)):=by
          show¬_;rw[Aa HNN,Aa HNT];omega
         obtain⟨ar,har⟩:∃ar,CT cs c.head.name=ar:=⟨_,rfl⟩;have HAr:=Ab har;have hP4:=(hP.kept hK4' (by simp)).drew;have hK4d:=hK4'.drew;have HF4:Hid (cs.length<=1000000/\(∀c∈cs,c.bl.length<=1000000)/\(∀c∈cs,∀p∈c.bl,p.1.A.args.length<=1000000)):=⟨by omega,λc' hc'=>by have:=HR.out.2.1.body c' hc';omega,HR.out.2.1.lits⟩;clear har;go_wp2_with fail
         go_region_held3 (λw'=>w'.cell? ⟨N,0,none⟩=some (.string c.head.name)/\w'.cell? ⟨N,1,none⟩=some (.slice adh c.head.args.length caph)) (go_keep) (first|(go_at_call 23;refine(JL pb _ cs c.head.name _ (by exact hP4) (by exact HR.out.1.kept hK4d) HF4.out.1 HF4.out.2.1).mono ?_;rintro e w5 ⟨rfl,hK5⟩;rw[Aa HAr];have hB5:=hB4.drew.kept hK5 (by simp);have r0:=hB5.cell 0;have r1:=hB5.cell 1;simp at r0 r1))
         have hK5':=hK4d.trans hK5;clear hP4 hK4d hK4' hB4 q0 q1 q2 q4 hK5 r0 r1;have q2:=hB5.cell 2;have q3:=hB5.cell 3;simp at q2 q3;by_cases hae:ar=(c.head.args.length:Int)
         ·(have hne:(ar !=(c.head.args.length:Int))=false:=by simp[hae]);(have HAE:Hid (¬CT cs c.head.name≠(c.head.args.length:Int)):=by show¬_;rw[Aa HAr];simp[hae]);clear hae;go_wp2_with fail
          go_loopw [8] (λi wq=>∃m:Nat,i=.int .i64 m/\m<=c.bl.length/\Hid ((c.bl.take m).any (BD cs)=false)/\Ac [] w wq/\AE wq N [.string c.head.name,.slice adh c.head.args.length caph,.int .i64 c.head.at_,.slice adb c.bl.length capb,.int .i64 c.at_] 82) (λi _=>c.bl.length-(intOf i).toNat)
          case atStart=>exact⟨0,rfl,b8 _,by show _=_;simp,hK5',hB5⟩
          case round=>
           clear q2 q3 hB5 hK5' hne;obtain⟨m,rfl,hm,HM,hKq,hBq⟩:=hrel;have hNq:=hBq.lt;have q0:=hBq.cell 0;have q1:=hBq.cell 1;have q2:=hBq.cell 2;have q3:=hBq.cell 3;simp at q0 q1 q2 q3;have hin:=(HR.out.1.kept hKq).each cs[k] (bL gK);rw[HH.out.1]at hin;by_cases hlm:m<c.bl.length
           .obtain⟨gb,capb',heb,d0,d1,d2,d3,d4,d5,d6,d7,d8⟩:=RL hin hlm;rw[HH.out.2.2]at heb;simp only[bK]at heb;obtain⟨rfl,_,rfl⟩:=heb;obtain⟨ada,capa,hav⟩:=Aj (hin.lits c.bl[m] (bL hlm));rw[hav]at d2;clear hin hav;obtain⟨pp,hpp⟩:∃pp,c.bl[m]=pp:=⟨_,rfl⟩;rw[hpp]at d0 d1 d2 d3 d4 d5 d6 d7 d8;have HY:Hid (BD cs pp=true->R=(4,(pp.1.A.at_:Int))):=by
             intro ho;refine HIT.out _ ?_;unfold BS;rw[if_neg H12.out.1,if_neg H12.out.2,if_neg (by rw[HM2.out];exact dK),if_neg H34.out,if_neg HAE.out,EJ _ _ m hlm HM.out (by rw[hpp];exact ho),hpp]
            have HN:Hid (BD cs pp=false->(c.bl.take (m+1)).any (BD cs)=false):=by
             intro ho;rw[Ct _ _ m hlm HM.out,hpp];exact ho
            clear hpp;(go_wp2_with fail);clear d0 d1 d2 d3 d4 d5 d6 d7 d8 q0 q1 q2 q3;have hBx:=AE.new wr [.int .u8 pp.1.kind.toNat,.string pp.1.A.name,.slice ada pp.1.A.args.length capa,.int .i64 pp.1.A.at_,.int .u8 pp.1.L.v.toNat,.string pp.1.L.s,.int .u8 pp.1.R.v.toNat,.string pp.1.R.s,.int .i64 pp.1.at_] 95;have hBn:=hBq.alloc (.cells [.int .u8 pp.1.kind.toNat,.string pp.1.A.name,.slice ada pp.1.A.args.length capa,.int .i64 pp.1.A.at_,.int .u8 pp.1.L.v.toNat,.string pp.1.L.s,.int .u8 pp.1.R.v.toNat,.string pp.1.R.s,.int .i64 pp.1.at_].toArray 95);have hKx:=hKq.alloc (.cells [.int .u8 pp.1.kind.toNat,.string pp.1.A.name,.slice ada pp.1.A.args.length capa,.int .i64 pp.1.A.at_,.int .u8 pp.1.L.v.toNat,.string pp.1.L.s,.int .u8 pp.1.R.v.toNat,.string pp.1.R.s,.int .i64 pp.1.at_].toArray 95);clear hBq hKq;generalize wr.alloc (.cells [.int .u8 pp.1.kind.toNat,.string pp.1.A.name,.slice ada pp.1.A.args.length capa,.int .i64 pp.1.A.at_,.int .u8 pp.1.L.v.toNat,.string pp.1.L.s,.int .u8 pp.1.R.v.toNat,.string pp.1.R.s,.int .i64 pp.1.at_].toArray 95)=w6 at hBx hBn hKx⊢;generalize wr.heap.size=Nx at hBx hNq⊢;have x0:=hBx.cell 0;have x1:=hBx.cell 1;have x2:=hBx.cell 2;have x3:=hBx.cell 3;simp at x0 x1 x2 x3;obtain⟨zD,har2⟩:∃zD,CT cs pp.1.A.name=zD:=⟨_,rfl⟩;have HA2:=Ab har2;have hP6:=(hP.kept hKx (by simp)).drew;have hK6d:=hKx.drew;rcases Dp pp with⟨k1,k3⟩|⟨k1,k2,k3⟩|⟨k1,k2,k3⟩
            ·(have y0:∀n:KW w6,n.wk.cell? ⟨Nx,0,none⟩=some (.int .u8 pp.1.kind.toNat):=λn=>(hBx.kept n.kept (by simp)).cell 0);(have y1:∀n:KW w6,n.wk.cell? ⟨Nx,1,none⟩=some (.string pp.1.A.name):=λn=>(hBx.kept n.kept (by simp)).cell 1);(have y2:∀n:KW w6,n.wk.cell? ⟨Nx,2,none⟩=some (.slice ada pp.1.A.args.length capa):=λn=>(hBx.kept n.kept (by simp)).cell 2);have ACALL:Hid (∀n:KW w6,Calls prog 23 #[.pointer (some ⟨pb,0,none⟩),.string pp.1.A.name] n.wk λe w''=>e=.returned (.int .i64 zD)/\∃m:KW w6,w''=m.wk):=by
              intro n;have h:=JL pb _ cs pp.1.A.name n.wk (hP.kept (hKx.trans n.kept) (by simp)) (HR.out.1.kept (hKx.trans n.kept)) HF4.out.1 HF4.out.2.1;rw[Aa HA2]at h;exact Calls.gT h
             clear x0 x1 x2;have hsome:=KW.some w6;refine FV (w0:=w6) (by kernel_rfl) (by kernel_rfl) (Ac.refl _ _) ?_
             repeat (go_big_quiet_step ((go_at_call 23;exact(Aa ACALL) _)))
             refine wpQuiet_nil ?_;intro _ hw';obtain⟨⟨w7,hK7⟩,hw7⟩:=hw';subst hw7
             try simp only
             clear y0 y1 y2 ACALL;have hK7':=hKx.trans hK7;have hBn7:=hBn.kept hK7 (by simp);have x3':=(hBx.kept hK7 (by simp)).cell 3;simp at x3';by_cases hae:zD=(pp.1.A.args.length:Int)
             ·(have hne2:(zD !=(pp.1.A.args.length:Int))=false:=by simp[hae]);have HN':=Ab (HN.out (by simp only[BD,k3,Aa HA2,hne2,ez]));clear HY HN k3 har2 hP6 hK6d x3 hBx hBn hKx hK7 hae;go_wp2_with fail
              go_roundw
              case rel=>exact⟨m+1,by go_num,by omega,HN',hK7',hBn7⟩
              case measure=>simp[intOf];omega
             ·(have hne2:(zD !=(pp.1.A.args.length:Int))=true:=by simp[hae]);have HRt:Hid (R=(4,(pp.1.A.at_:Int))):=HY.out (by simp only[BD,k3,Aa HA2,hne2,ee]);clear HY HN k3 har2 hP6 hK6d x3 hBx hBn hKx hK7 hae;go_wp2_with fail
              go_quiet (fail)
              (go_wp2_with fail);go_ret2;rw[HRt.out];exact⟨rfl,hK7'.drewN _⟩
            ·(have y0:∀n:KW w6,n.wk.cell? ⟨Nx,0,none⟩=some (.int .u8 pp.1.kind.toNat):=λn=>(hBx.kept n.kept (by simp)).cell 0);(have y1:∀n:KW w6,n.wk.cell? ⟨Nx,1,none⟩=some (.string pp.1.A.name):=λn=>(hBx.kept n.kept (by simp)).cell 1);(have y2:∀n:KW w6,n.wk.cell? ⟨Nx,2,none⟩=some (.slice ada pp.1.A.args.length capa):=λn=>(hBx.kept n.kept (by simp)).cell 2);have ACALL:Hid (∀n:KW w6,Calls prog 23 #[.pointer (some ⟨pb,0,none⟩),.string pp.1.A.name] n.wk λe w''=>e=.returned (.int .i64 zD)/\∃m:KW w6,w''=m.wk):=by
              intro n;have h:=JL pb _ cs pp.1.A.name n.wk (hP.kept (hKx.trans n.kept) (by simp)) (HR.out.1.kept (hKx.trans n.kept)) HF4.out.1 HF4.out.2.1;rw[Aa HA2]at h;exact Calls.gT h
             clear x0 x1 x2;have hsome:=KW.some w6;refine FV (w0:=w6) (by kernel_rfl) (by kernel_rfl) (Ac.refl _ _) ?_
             repeat (go_big_quiet_step ((go_at_call 23;exact(Aa ACALL) _)))
             refine wpQuiet_nil ?_;intro _ hw';obtain⟨⟨w7,hK7⟩,hw7⟩:=hw';subst hw7
             try simp only
             clear y0 y1 y2 ACALL;have hK7':=hKx.trans hK7;have hBn7:=hBn.kept hK7 (by simp);have x3':=(hBx.kept hK7 (by simp)).cell 3;simp at x3';by_cases hae:zD=(pp.1.A.args.length:Int)
             ·(have hne2:(zD !=(pp.1.A.args.length:Int))=false:=by simp[hae]);have HN':=Ab (HN.out (by simp only[BD,k3,Aa HA2,hne2,ez]));clear HY HN k3 har2 hP6 hK6d x3 hBx hBn hKx hK7 hae;go_wp2_with fail
              go_roundw
              case rel=>exact⟨m+1,by go_num,by omega,HN',hK7',hBn7⟩
              case measure=>simp[intOf];omega
             ·(have hne2:(zD !=(pp.1.A.args.length:Int))=true:=by simp[hae]);have HRt:Hid (R=(4,(pp.1.A.at_:Int))):=HY.out (by simp only[BD,k3,Aa HA2,hne2,ee]);clear HY HN k3 har2 hP6 hK6d x3 hBx hBn hKx hK7 hae;go_wp2_with fail
              go_quiet (fail)
              (go_wp2_with fail);go_ret2;rw[HRt.out];exact⟨rfl,hK7'.drewN _⟩
            .have HN':=Ab (HN.out (by simp[BD,k3]));clear HY HN k3 har2 hP6 hK6d
             go_quiet (fail)
             go_wp2_with fail
             go_roundw
             case rel=>exact⟨m+1,by go_num,by omega,HN',hKx.drewN _,hBn.drewN _⟩
             case measure=>simp[intOf];omega
           .have HFN:Hid (c.bl.find? (BD cs)=none):=by
             have h:=HM.out;rw[bP (by omega)]at h;show _=_;rw[dC];intro x hx hf;(have:c.bl.any (BD cs)=true:=by rw[dp];exact⟨x,hx,hf⟩);rw[h]at this;cases this
            have T:=Ty c.head c.hv c.bv c.bl _ hin.args hin.body hin.lits (by omega) (λp hp=>by have:=HF4.out.2.2 cs[k] (bL gK) p (by rw[HH.out.1];exact hp);exact this) hhl;rw[HH.out.2.1,HH.out.2.2]at T;simp only[B6]at T;have HT:=Ab T;obtain⟨sf,hsf⟩:∃sf,C3 c.head c.bl=sf:=⟨_,rfl⟩;have HSF:=Ab hsf;(have hsfb: -1<=sf/\sf<=9223372036854775806->True:=λ_=>trivial);clear hsfb T hin hsf;(go_wp2_with fail);refine(Aa HT).mono ?_;rintro e w7 ⟨rfl,hK7⟩;rw[Aa HSF];have hK7':=hKq.trans hK7;clear HT hK7 hKq hBq q0 q1 q2 q3;by_cases hs0:0<=sf
            .have HRt:Hid (R=(5,sf)):=HIT.out _ (by unfold BS;rw[if_neg H12.out.1,if_neg H12.out.2,if_neg (by rw[HM2.out];exact dK),if_neg H34.out,if_neg HAE.out,HFN.out];simp only;rw[Aa HSF,if_pos hs0]);(go_wp2_with fail);go_ret2;rw[HRt.out];exact⟨rfl,hK7'⟩
            .have HCn:Hid (∀j (hj:j<cs.length),j<k+1->BS cs j cs[j]=none):=by
              intro j hj hjk;by_cases hjk':j<k
              .exact HC.out j hj hjk'
              ·(have:j=k:=by omega);subst this;rw[HH.out.1];unfold BS;rw[if_neg H12.out.1,if_neg H12.out.2,if_neg (by rw[HM2.out];exact dK),if_neg H34.out,if_neg HAE.out,HFN.out];simp only;rw[Aa HSF,if_neg hs0]
             go_wp2_with fail
             go_roundw
             case rel=>exact⟨k+1,by go_num,by omega,HCn,hK7'⟩
             case measure=>simp[intOf];omega
         ·(have hne:(ar !=(c.head.args.length:Int))=true:=by simp[hae]);have HRt:Hid (R=(4,(c.head.at_:Int))):=HIT.out _ (by unfold BS;rw[if_neg H12.out.1,if_neg H12.out.2,if_neg (by rw[HM2.out];exact dK),if_neg H34.out,if_pos (by rw[Aa HAr];exact hae)]);clear hae;go_wp2_with fail
          go_quiet (fail)
          (go_wp2_with fail);go_ret2;rw[HRt.out];exact⟨rfl,hK5'.drewN _⟩
  .have HRn:Hid (R=match cs.findSome? (CY cs)with|some r=>r|none=>(0,0)):=by
    rw[<-HR.out.2.2];exact Si (λj hj=>HC.out j hj (by omega))
   have HF5:Hid (cs.length<=1000000/\(∀c∈cs,c.bl.length<=1000000)/\(Di cs).length<=900000):=⟨by omega,λc' hc'=>by have:=HR.out.2.1.body c' hc';omega,HR.out.2.1.atoms⟩;clear HC;(go_wp2_with fail);clear hpc
   go_loopw [11] (λi wr=>∃q:Nat,i=.int .i64 q/\q<=cs.length/\Hid ((cs.take q).findSome? (CY cs)=none)/\Ac [] w wr) (λi _=>cs.length-(intOf i).toNat)
   case atStart=>exact⟨0,rfl,b8 _,by show _=_;simp,hK⟩
   case round=>
    clear hK;obtain⟨q,rfl,hq,HQ,hK⟩:=hrel;have hpc:=(hP.kept hK (by simp)).cell 0;simp at hpc;by_cases hlq:q<cs.length
    .obtain⟨g,cap',he,hcap,hcellx⟩:=Av HR.out.1.row (λc _=>BH c) q hlq;clear hcellx;simp only[bK]at he;obtain⟨rfl,_,rfl⟩:=he;have hin0:=HR.out.1.each cs[q] (bL hlq);obtain⟨adb,capb,hbv⟩:=Aj hin0.body;obtain⟨c,hc⟩:∃c,cs[q]=c:=⟨_,rfl⟩;rw[hc]at hbv;have HH:Hid (cs[q]=c/\c.bv=.slice adb c.bl.length capb):=⟨hc,hbv⟩;(have hbl:c.bl.length<=1000:=by have:=HR.out.2.1.body cs[q] (bL hlq);rw[hc]at this;exact this);clear hin0 hbv hc;(go_wp2_with fail);clear hpc
     go_loopw [12] (λi wq=>∃m:Nat,i=.int .i64 m/\m<=c.bl.length/\Hid ((c.bl.take m).any (Eb cs c)=false)/\Ac [] w wq) (λi _=>c.bl.length-(intOf i).toNat)
     case atStart=>exact⟨0,rfl,b8 _,by show _=_;simp,hK⟩
     case round=>
      clear hK;obtain⟨m,rfl,hm,HM,hKq⟩:=hrel;have hpc:=(hP.kept hKq (by simp)).cell 0;simp at hpc;obtain⟨c0,_,_,c3,_⟩:=RK HR.out.1 hKq hlq;rw[HH.out.1]at c0 c3;rw[HH.out.2]at c3;have hin:=(HR.out.1.kept hKq).each cs[q] (bL hlq);rw[HH.out.1]at hin;by_cases hlm:m<c.bl.length
      .obtain⟨gb,capb',heb,d0,d1,d2,d3,d4,d5,d6,d7,d8⟩:=RL hin hlm;rw[HH.out.2]at heb;simp only[bK]at heb;obtain⟨rfl,_,rfl⟩:=heb;obtain⟨ada,capa,hav⟩:=Aj (hin.lits c.bl[m] (bL hlm));rw[hav]at d2;clear hin hav;obtain⟨pp,hpp⟩:∃pp,c.bl[m]=pp:=⟨_,rfl⟩;rw[hpp]at d0 d1 d2 d3 d4 d5 d6 d7 d8;have HY:Hid (Eb cs c pp=true->R=(6,(pp.1.at_:Int))):=by
        intro ho;have h1:CY cs cs[q]=some (6,(pp.1.at_:Int)):=by
         unfold CY;rw[HH.out.1,EJ _ _ m hlm HM.out (by rw[hpp];exact ho),hpp];rfl
        rw[HRn.out,Gi _ _ q hlq HQ.out h1]
       have HN:Hid (Eb cs c pp=false->(c.bl.take (m+1)).any (Eb cs c)=false):=by
        intro ho;rw[Ct _ _ m hlm HM.out,hpp];exact ho
       clear hpp;have e33:((pp.1.kind.toNat:Int)==33)=(pp.1.kind==33):=B2 _ 33;cases hkd:(pp.1.kind==33)with
       |false=>
        rw[hkd]at e33;have HN':=Ab (HN.out (by simp[Eb,hkd]));clear HY HN hkd;go_wp2_with fail
        go_roundw
        case rel=>exact⟨m+1,by go_num,by omega,HN',hKq.alloc _⟩
        case measure=>simp[intOf];omega
       |true=>
        rw[hkd]at e33;(go_wp2_with fail);clear d0 d1 d2 d3 d4 d5 d6 d7 d8 hpc c0 c3 e33;have hBx:=AE.new wr [.int .u8 pp.1.kind.toNat,.string pp.1.A.name,.slice ada pp.1.A.args.length capa,.int .i64 pp.1.A.at_,.int .u8 pp.1.L.v.toNat,.string pp.1.L.s,.int .u8 pp.1.R.v.toNat,.string pp.1.R.s,.int .i64 pp.1.at_] 95;have hKx:=hKq.alloc (.cells [.int .u8 pp.1.kind.toNat,.string pp.1.A.name,.slice ada pp.1.A.args.length capa,.int .i64 pp.1.A.at_,.int .u8 pp.1.L.v.toNat,.string pp.1.L.s,.int .u8 pp.1.R.v.toNat,.string pp.1.R.s,.int .i64 pp.1.at_].toArray 95);clear hKq;generalize wr.alloc (.cells [.int .u8 pp.1.kind.toNat,.string pp.1.A.name,.slice ada pp.1.A.args.length capa,.int .i64 pp.1.A.at_,.int .u8 pp.1.L.v.toNat,.string pp.1.L.s,.int .u8 pp.1.R.v.toNat,.string pp.1.R.s,.int .i64 pp.1.at_].toArray 95)=w6 at hBx hKx⊢;generalize wr.heap.size=Nx at hBx⊢;(have y1:∀n:KW w6,n.wk.cell? ⟨Nx,1,none⟩=some (.string pp.1.A.name):=λn=>(hBx.kept n.kept (by simp)).cell 1);(have y2:∀n:KW w6,n.wk.cell? ⟨pb,0,none⟩=some (.slice (some ⟨g,0,none⟩) cs.length cap):=λn=>(hP.kept (hKx.trans n.kept) (by simp)).cell 0);(have y3:∀n:KW w6,n.wk.cell? ⟨g,q*5,none⟩=some (.string c.head.name):=λn=>by have h:=(RK HR.out.1 (hKx.trans n.kept) hlq).1;rw[HH.out.1]at h;exact h);obtain⟨rb,hrb⟩:∃rb,Gz cs pp.1.A.name c.head.name=rb:=⟨_,rfl⟩;have HRB:=Ab hrb;have ACALL:Hid (∀n:KW w6,Calls prog 85 #[.pointer (some ⟨pb,0,none⟩),.string pp.1.A.name,.string c.head.name] n.wk λe w''=>e=.returned (.bool rb)/\∃m:KW w6,w''=m.wk):=by
         intro n;have h:=R1 pb _ cs pp.1.A.name c.head.name n.wk (hP.kept (hKx.trans n.kept) (by simp)) (HR.out.1.kept (hKx.trans n.kept)) HF5.out.1 HF5.out.2.1 HF5.out.2.2;rw[Aa HRB]at h;exact Calls.gT h
        (have hlq':(q:Int)<(cs.length:Int):=by omega);clear hrb;have hsome:=KW.some w6;refine FV (w0:=w6) (by kernel_rfl) (by kernel_rfl) (Ac.refl _ _) ?_
        repeat (go_big_quiet_step ((go_at_call 85;exact(Aa ACALL) _)))
        refine wpQuiet_nil ?_;intro _ hw';obtain⟨⟨w7,hK7⟩,hw7⟩:=hw';subst hw7
        try simp only
        clear y1 y2 y3 ACALL;have hK7':=hKx.trans hK7;have x8:=(hBx.kept hK7 (by simp)).cell 8;simp at x8;cases rb with
        |true=>
         have HRt:Hid (R=(6,(pp.1.at_:Int))):=HY.out (by simp only[Eb,hkd,Aa HRB,ee]);clear HY HN hkd hBx hKx hK7;go_wp2_with fail
         go_quiet (fail)
         (go_wp2_with fail);go_ret2;rw[HRt.out];exact⟨rfl,hK7'.drewN _⟩
        |false=>
         have HN':=Ab (HN.out (by simp only[Eb,hkd,Aa HRB,ez]));clear HY HN hkd hBx hKx hK7;go_wp2_with fail
         go_roundw
         case rel=>exact⟨m+1,by go_num,by omega,HN',hK7'⟩
         case measure=>simp[intOf];omega
      .have HZ:Hid ((cs.take (q+1)).findSome? (CY cs)=none):=by
        have h:=HM.out;rw[bP (by omega)]at h;show _=_;rw[Fp _ _ q hlq HQ.out,HH.out.1];unfold CY;have:c.bl.find? (Eb cs c)=none:=by
         rw[dC];intro x hx hf;(have:c.bl.any (Eb cs c)=true:=by rw[dp];exact⟨x,hx,hf⟩);rw[h]at this;cases this
        rw[this];rfl
       go_wp2_with fail
       go_roundw
       case rel=>exact⟨q+1,by go_num,by omega,HZ,hKq⟩
       case measure=>simp[intOf];omega
    .have HE:Hid (R=(0,0)):=by
      have h:=HQ.out;rw[bP (by omega)]at h;show _=_;rw[HRn.out,h]
     (go_wp2_with fail);go_ret2;rw[HE.out];exact⟨rfl,hK⟩
def AD(s:cR)(at_:Nat):List Cf×Nat×Bool:=
 if h:at_<s.size then
  if h2:(A5 s at_).2.2=false/\at_<AQ s (A5 s at_).2.1 (A5 s at_).2.2 then
   ((A5 s at_).1::(AD s (AQ s (A5 s at_).2.1 (A5 s at_).2.2)).1,(AD s (AQ s (A5 s at_).2.1 (A5 s at_).2.2)).2)
  else([(A5 s at_).1],AQ s (A5 s at_).2.1 (A5 s at_).2.2,(A5 s at_).2.2)
 else([],at_,false)
def Ep(s:cR)(a:Nat)(bd:Bool):List Cf×Nat×Bool:=if bd then([],a,true)else AD s a
theorem Ka{s:cR}{a e:Nat}{c:Cf}{b:Bool}(g:a<s.size)(d:A5 s a=(c,e,b)):
  AD s a=(c::(Ep s (AQ s e b) b).1,(Ep s (AQ s e b) b).2):=by
 conv=>lhs;rw[AD]
 rw[dif_pos g];cases b with
 |true=>rw[dif_neg (by rw[d];simp)];rw[d];rfl
 |false=>
  have f:=Oc (s:=s) (at_:=a) (by rw[d]);rw[d]at f;have h:=IW s e false;rw[dif_pos (by rw[d];exact⟨rfl,by simp only at f⊢;omega⟩),d];rfl
theorem KY{s:cR}{a:Nat}(b:¬a<s.size):AD s a=([],a,false):=by
 rw[AD,dif_neg b]
def R0(s:cR)(t:AG):Prop:=t.v=0->0<t.s.size/\t.s.size<=s.size
theorem Ip(s:cR)(i j:Nat)(h:j<=s.size):(s.extract i j).size=j-i:=by
 rw[eI,eF h]
theorem TP{s:cR}{at_:Nat}(h:(Ba s at_ false).2.2=false)(d:at_<=s.size):0<(Ba s at_ false).1.size/\(Ba s at_ false).1.size<=s.size:=by
 have c:=Bk s at_ d;have a:=CG Az s _ c;have e:=Cu Az s (Af s at_);unfold Ba at h⊢;simp only[bN,if_false]at h⊢;split at h
 .cases h
 .rename_i b;simp only[b,if_false];rw[Ip _ _ _ a];omega
theorem IN{s:cR}{at_:Nat}(h:(AP s at_ false).2.2=false)(j:at_<=s.size):R0 s (AP s at_ false).1:=by
 have e:=Bk s at_ j;intro a;unfold AP at h a⊢;simp only[bN,if_false]at h a⊢;split at h
 .rename_i d;simp only[d,dite_true]at a⊢;split at h
  .rename_i b;simp only[b,if_true]at a;rw[a]at b;exact absurd b (by decide)
  .rename_i b;simp only[b,if_false,bN]at a⊢;split at h
   .rename_i c;simp only[c,if_true];exact TP h e
   .rename_i c;simp only[c,if_false,bN];split at h
    .cases h
    .rename_i i;simp only[i,if_false];have f:=CG Ap s _ e;(have g:Ap s[Af s at_]=true:=by simpa using c);have l:=B4 Ap s _ d g;have k:=Cu Ap s (Af s at_+1);show 0<(s.extract (Af s at_) (AL Ap s (Af s at_))).size/\_;rw[Ip _ _ _ f];omega
 .cases h
theorem Ud(s:cR)(at_:Nat)(c:at_<=s.size):(DL s at_).1.length<=s.size-at_+1/\((DL s at_).2.2=false->∀t∈(DL s at_).1,R0 s t):=by
 fun_induction DL s at_ with
 |case1 at_ hc _ _ ih=>
  have e:=Dh s _ (AP s at_ false).2.2 44 (E9 s at_ false c);obtain⟨g,f⟩:=ih e;have h:=hc.2.1;refine⟨by simp only[bU];omega,λb t a=>?_⟩;rcases bS.1 a with rfl|a
  .have d:(AP s at_ false).2.2=false:=by
    have:=hc.1;simp only[cq,eD]at this;exact this.1
   exact IN d c
  .exact f b t a
 |case2 at_ hc=>
  refine⟨by simp,λb t a=>?_⟩;simp only[bO]at a;subst a;exact IN b c
theorem OJ(s:cR)(p:Nat×Bool)(a:p.1<=s.size):(ER s p).1.length<=s.size+1/\((ER s p).2.2=false->∀t∈(ER s p).1,R0 s t):=by
 unfold ER;split
 .exact⟨by simp,λh=>by cases h⟩
 .have h:=Ud s p.1 a;exact⟨by omega,h.2⟩
def Zt(s:cR)(a:C2):Prop:=∀t∈a.args,R0 s t
theorem Mm(s:cR)(at_:Nat)(b:Bool)(a:at_<=s.size):(Bj s at_ b).1.args.length<=s.size+1:=by
 unfold Bj;exact(OJ s _ (Dh _ _ _ _ (GN _ _ _ (F1 _ _ _ a)))).1
theorem P9{s:cR}{a:Nat}{b:Bool}{c:UInt8}(h:(BG s a b c).2=false):b=false:=by
 unfold BG at h;cases b<;>simp_all
theorem Ks{s:cR}{at_:Nat}{a:Bool}(h:(Bj s at_ a).2.2=false)(b:at_<=s.size):Zt s (Bj s at_ a).1:=by
 unfold Bj at h⊢;exact(OJ s _ (Dh _ _ _ _ (GN _ _ _ (F1 _ _ _ b)))).2 (P9 h)
structure XX(s:cR)(x:Bg):Prop where
 atom:Zt s x.A
 left:(x.kind==97||x.kind==33)=false->R0 s x.L
 right:(x.kind==97||x.kind==33)=false->R0 s x.R
theorem Tc(s:cR)(at_:Nat)(b:at_<=s.size):(CR s at_).1.A.args.length<=s.size+1:=by
 have a:=Bk s at_ b;unfold CR;simp only;split
 .rename_i c;have:=E5 c;exact Mm s _ _ (by omega)
 .split
  .exact Mm s _ _ a
  .unfold Hg;split<;>simp[Gc]
theorem Qe{s:cR}{at_:Nat}(h:(CR s at_).2.2=false)(i:at_<=s.size):XX s (CR s at_).1:=by
 have f:=Bk s at_ i;unfold CR at h⊢;simp only at h⊢;split at h
 .rename_i c;simp only[c,if_true];have:=E5 c;exact⟨Ks h (by omega),λa=>by simp at a,λa=>by simp at a⟩
 .rename_i c;simp only[c,bN,if_false];split at h
  .rename_i d;simp only[d,if_true];exact⟨Ks h f,λa=>by simp at a,λa=>by simp at a⟩
  .rename_i d;simp only[d,bN,if_false];unfold Hg at h⊢;split at h
   .rename_i b;simp only[b,if_true];simp only[cq,eD,dr]at b;have j:AQ s (AP s (Af s at_) false).2.1 (AP s (Af s at_) false).2.2<s.size:=by
     rcases b.2 with(e|e)|e<;>exact E5 e
    exact⟨λt g=>by simp[Gc]at g,λ_=>IN b.1 f,λ_=>IN h (by omega)⟩
   .cases h
theorem IL(s:cR)(at_:Nat)(b:at_<=s.size):(Be s at_).1.length<=s.size-at_+1/\(∀x∈(Be s at_).1,x.A.args.length<=s.size+1)/\((Be s at_).2.2=false->∀x∈(Be s at_).1,XX s x):=by
 fun_induction Be s at_ with
 |case1 at_ hc _ _ ih=>
  have f:=Dh s _ (CR s at_).2.2 44 (J4 s at_ b);obtain⟨h,g,e⟩:=ih f;have i:=hc.2.1;refine⟨by simp only[bU];omega,λx a=>?_,λc x a=>?_⟩
  .rcases bS.1 a with rfl|a
   .exact Tc s at_ b
   .exact g x a
  .rcases bS.1 a with rfl|a
   .have d:(CR s at_).2.2=false:=by
     have:=hc.1;simp only[cq,eD]at this;exact this.1
    exact Qe d b
   .exact e c x a
 |case2 at_ hc=>
  refine⟨by simp,λx a=>?_,λc x a=>?_⟩
  .simp only[bO]at a;subst a;exact Tc s at_ b
  .simp only[bO]at a;subst a;exact Qe c b
structure XV(s:cR)(c:Cf):Prop where
 head:Zt s c.head
 body:∀x∈c.body,XX s x
structure aU(s:cR)(c:Cf):Prop where
 head:c.head.args.length<=s.size+1
 body:c.body.length<=s.size+1
 lits:∀x∈c.body,x.A.args.length<=s.size+1
theorem N8(s:cR)(c:Nat)(a:Bool)(j:c<=s.size):(DN s c a).1.length<=s.size+1/\(∀x∈(DN s c a).1,x.A.args.length<=s.size+1)/\((DN s c a).2.2=false->a=false/\∀x∈(DN s c a).1,XX s x):=by
 unfold DN;split
 .rename_i k;have e:a=false:=by cases a<;>simp_all
  split
  .rename_i b;have i:=E5 b;obtain⟨g,f,d⟩:=IL s (B3 s c a 58+1) (by omega);exact⟨by omega,f,λh=>⟨e,d h⟩⟩
  .exact⟨by simp,λx b=>by simp at b,λh=>by cases h⟩
 .exact⟨by simp,λx b=>by simp at b,λh=>⟨h,λx b=>by simp at b⟩⟩
theorem SH(s:cR)(at_:Nat)(c:at_<=s.size):aU s (A5 s at_).1:=by
 have a:=Bk s at_ c;have b:=N8 s (Bj s (Af s at_) false).2.1 (Bj s (Af s at_) false).2.2 (Hy _ _ _ a);unfold A5;exact⟨Mm s _ _ a,b.1,b.2.1⟩
theorem Q3{s:cR}{at_:Nat}(h:(A5 s at_).2.2=false)(c:at_<=s.size):XV s (A5 s at_).1:=by
 have a:=Bk s at_ c;have d:=N8 s (Bj s (Af s at_) false).2.1 (Bj s (Af s at_) false).2.2 (Hy _ _ _ a);unfold A5 at h⊢;have b:=d.2.2 (P9 h);exact⟨Ks b.1 a,b.2⟩
theorem Tryz.info82:(Tryz.prog.info? 82).map (λi=>(i.zero,i.size,i.bytes))=some (some (.agg #[.string ⟨#[]⟩,.slice none 0 0,.int .i64 0,.slice none 0 0,.int .i64 0]),5,80):=by kernel_rfl
def A7.erase(c:A7):Cf:=⟨c.head,c.bl.map Prod.fst,c.at_⟩
structure Nm(w:World)(base:Nat)(lv:Value)(c:A7):Prop where
 args:w.ownsRow base 93 2 c.hv c.head.args.length (c.head.args.flatMap AM)
 body:w.ownsRow base 95 9 c.bv c.bl.length (c.bl.flatMap AN)
 lits:∀p∈c.bl,BJ w base p
 zb:BP c.hv lv
 zY:BP c.bv lv
 zd:∀p∈c.bl,BP p.2 lv
theorem Nm.cvIn{w:World}{base:Nat}{b:Value}{c:A7}(h:Nm w base b c):UC w c:=
 ⟨Ak h.args (b8 _),Ak h.body (b8 _),λp a=>Ak (h.lits p a) (b8 _)⟩
theorem Nm.kept{M:List Nat}{w w':World}{base:Nat}{b:Value}{c:A7}(h:Nm w base b c)(k:Ac M w w')(a:∀i,i∈M->i<base):Nm w' base b c:=
 ⟨Ad h.args k a,Ad h.body k a,λp d=>(h.lits p d).kept k a,h.zb,h.zY,h.zd⟩
theorem Fy{w w':World}{base:Nat}{e:TypeId}{size:Nat}{v a:Value}{n:Nat}{b:List Value}(h:w.ownsRow base e size v n b)(k:w.grownBy w' a.ownBlock)(c:BP v a):w'.ownsRow base e size v n b:=
 h.kept k (by
  cases hv:v.ownBlock with
  |none=>exact Or.inl rfl
  |some k=>exact Or.inr (λe=>c k hv e.symm))
theorem Nm.grown{w w':World}{base:Nat}{d:Value}{c:A7}{g n cap H:Nat}(h:Nm w base d c)(k:w.grownBy w' d.ownBlock)(b:d.ownBlock=some g\/g=H)(e:w.heap.size<=H):Nm w' base (.slice (some ⟨g,0,none⟩) n cap) c:=
 ⟨Fy h.args k h.zb,Fy h.body k h.zY,λp a=>Fy (h.lits p a) k (h.zd p a),BP.gO h.zb h.args b e,BP.gO h.zY h.body b e,λp a=>BP.gO (h.zd p a) (h.lits p a) b e⟩
def F7(s:cR)(e at_:Int):Prop:=
 if 300<s.size then e=1/\at_=0
 else if(AD s (Af s 0)).2.2 then e=2/\at_=(AD s (Af s 0)).2.1
 else∃cs:List A7,cs.map A7.erase=(AD s (Af s 0)).1/\(e,at_)=Cg cs
theorem Sj(cs:List A7)(N:Nat)(h:∀c∈cs,c.bl.length<=N):(Di cs).length<=cs.length*N:=by
 unfold Di
 induction cs with
 |nil=>simp
 |cons c cs ih=>
  have e:=ih (λb a=>h b (by simp[a]));have d:=h c (by simp);have f:=dw KT c.bl;simp only[cg,cc,bX,bU];rw[dS];omega
theorem ZN{s:cR}(k:s.size<=300){cs:List A7}(j:cs.length<=300)(f:∀c∈cs,aU s c.erase)(i:∀c∈cs,XV s c.erase):Tf cs:=by
 have h:∀c∈cs,c.bl.length<=301:=λc a=>by have:=(f c a).body;simp only[A7.erase,bX]at this;omega
 refine⟨by omega,λc a=>by have:=h c a;omega,λc a=>by have:=(f c a).head;simp only[A7.erase]at this;omega,λc a p e=>?_,?_,λc a=>⟨?_,λp e=>?_⟩⟩
 .have:=(f c a).lits p.1 (by simp only[A7.erase];exact cm e);omega
 .have:=Sj cs 301 h;have:cs.length*301<=300*301:=dj _ j;omega
 .intro t b d;have:=(i c a).head t b d;omega
 .have g:=(i c a).body p.1 (by simp only[A7.erase];exact cm e);intro t b d;unfold Au at b;cases ha:KT p with
  |true=>
   rw[ha]at b;have:=g.atom t (by simpa using b) d;omega
  |false=>
   rw[ha]at b;simp only[bN,if_false,bS,di,or_false]at b;rcases b with rfl|rfl
   .have:=g.left ha d;omega
   .have:=g.right ha d;omega
theorem UA{cs:List A7}{i:Nat}{c:A7}{r:Int×Int}(h:BS cs i c=some r):r.1≠0:=by
 unfold BS at h
 repeat (split at h;· first|cases h;done|(simp only[bR]at h;subst h;simp))
 all_goals first|cases h;done|(simp only[bR]at h;subst h;simp)|skip
theorem NJ{cs:List A7}:∀(l:List A7) (i:Nat) {r:Int×Int},DJ cs i l=some r->r.1≠0
 |[],_,_,h=>by simp[DJ]at h
 |c::l,i,r,h=>by
  rw[DJ]at h;split at h
  .rename_i b a;simp only[bR]at h;subst h;exact UA a
  .exact NJ l (i+1) h
theorem Jh{cs:List A7}(h:(Cg cs).1=0):Cg cs=(0,0):=by
 unfold Cg at h⊢;split
 .rename_i r b;rw[b]at h;exact absurd h (NJ _ _ b)
 .rename_i b;rw[b]at h;simp only at h;split
  .rename_i r d;rw[d]at h;obtain⟨e,c,f,_,a,_⟩:=List.findSome?_eq_some_iff.1 d;unfold CY at a;cases hf:c.bl.find? (Eb cs c)with
   |none=>rw[hf]at a;simp at a
   |some p=>rw[hf]at a;simp only[ei,bR]at a;rw[<-a]at h;simp at h
  .rfl
structure RX(s:cR)(acc:List A7)(a:Nat)(bd:Bool)(R:List Cf×Nat×Bool):Prop where
 rest:(acc.map A7.erase++(Ep s a bd).1,(Ep s a bd).2)=R
 len:acc.length<=a+1
 len2:bd=false->acc.length<=a
 lens:∀c∈acc,aU s c.erase
 fl:bd=false->∀c∈acc,XV s c.erase
theorem RX.step{s:cR}{acc:List A7}{a f:Nat}{d:Bool}{R:List Cf×Nat×Bool}{c:A7}(h:RX s acc a false R)(p:a<s.size)(i:A5 s a=(c.erase,f,d)):
  AQ s f d<=s.size/\2*(s.size-AQ s f d)+(if d then 0 else 1)<2*(s.size-a)+1/\RX s (acc++[c]) (AQ s f d) d R:=by
 have k:=NK s a (by omega);have r:=IW s f d;have l:=SH s a (by omega);have q:a<=f:=by
  have t:=Cv s a;have v:=Jq s (Af s a) false;have y:=TD s (Bj s (Af s a) false).2.1 (Bj s (Af s a) false).2.2;have u:=Fj s (DN s (Bj s (Af s a) false).2.1 (Bj s (Af s a) false).2.2).2.1 (DN s (Bj s (Af s a) false).2.1 (Bj s (Af s a) false).2.2).2.2 46;have e:f=(A5 s a).2.1:=by rw[i]
  rw[e];show a<=B3 s _ _ 46;omega
 have m:d=false->a<f:=λg=>by
  have:=Oc (s:=s) (at_:=a) (by rw[i];exact g);rw[i]at this;exact this
 have n:d=false->XV s c.erase:=λg=>by
  have:=Q3 (s:=s) (at_:=a) (by rw[i];exact g) (by omega);rw[i]at this;exact this
 rw[i]at k l;simp only at k l;have o:=F1 s f d k;have w:=h.len2 rfl;refine⟨o,?_,⟨?_,?_,?_,?_,?_⟩⟩
 .cases d with
  |true=>simp;omega
  |false=>have:=m rfl;simp;omega
 .have j:=h.rest;unfold Ep at j;simp only[bN,if_false]at j;rw[Ka p i]at j;rw[<-j];simp
 .simp;omega
 .intro g;have:=m g;simp;omega
 .intro x b;rcases bY.1 b with b|b
  .exact h.lens x b
  .simp only[bO]at b;subst b;exact l
 .intro g x b;rcases bY.1 b with b|b
  .exact h.fl rfl x b
  .simp only[bO]at b;subst b;exact n g
def S7(s:cR)(pv:Value)(er:Int)(w:World):Prop:=
 er=0->∃(pb:Nat) (lad:Option Addr) (lcp:Nat) (cs:List A7),pv=.pointer (some ⟨pb,0,none⟩)/\AE w pb [.slice lad cs.length lcp] 76/\Ci w (.slice lad cs.length lcp) cs/\Tf cs/\s.size<=300/\(AD s (Af s 0)).2.2=false/\cs.map A7.erase=(AD s (Af s 0)).1/\Cg cs=(0,0)
theorem WH(s:cR)(w:World)(K6:s.size<=9223372036854775807):
  Calls prog 15 #[.string s] w λe w'=>∃(pv:Value) (y z:Int),e=.returned (.tuple #[pv,.int .i64 y,.int .i64 z])/\F7 s y z/\S7 s pv y w'/\Ac [] w w':=by
 by_cases HH:300<s.size
 .have W:Hid (F7 s 1 0):=by show F7 _ _ _;unfold F7;rw[if_pos HH];exact⟨rfl,rfl⟩
  go_enter func15,ntmps15;go_wp2;go_ret3;exact⟨_,1,0,rfl,W.out,(λh=>by cases h),Ac.refl _ _⟩
 .have hs:s.size<=300:=by omega
  have EX:s.size<=1000000:=by omega
  obtain⟨i0,MN,K3,M6,LS⟩:=cU Tryz.info82;obtain⟨j,hj⟩:∃j,Af s 0=j:=⟨_,rfl⟩;have M3:j<=s.size:=by have:=Bk s 0 (b8 _);omega
  obtain⟨D,E,B,BA⟩:∃D E B,AD s j=(D,E,B):=⟨_,_,_,rfl⟩;have W:Hid (∀y z:Int,(if B then y=2/\z=(E:Int)else∃cs:List A7,cs.map A7.erase=D/\(y,z)=Cg cs)->F7 s y z):=by
   intro y z h;unfold F7;rw[if_neg HH,hj,BA];exact h
  have O:Hid (AQ s 0 false=j/\AD s j=(D,E,B)):=⟨hj,BA⟩;clear hj BA HH K6;go_enter func15,ntmps15;go_wp2_with fail
  have H4:AE ((w.alloc (.cells #[.string s,.int .i64 0,.bool false] 73)).alloc (.cells #[.slice none 0 0] 76)) w.heap.size (BO s 0 false) 73:=(AE.new w (BO s 0 false) 73).alloc _;have HP:AE ((w.alloc (.cells #[.string s,.int .i64 0,.bool false] 73)).alloc (.cells #[.slice none 0 0] 76)) (w.heap.size+1) [.slice none 0 0] 76:=by
   have h:=AE.new (w.alloc (.cells #[.string s,.int .i64 0,.bool false] 73)) [.slice none 0 0] 76;rw[cD]at h;exact h
  refine(CZ w.heap.size s 0 false _ EX (b8 _) H4).mono ?_;rintro e w2 ⟨rfl,i,HE⟩;rw[O.out.1]at i;have l:=HP.kept HE (by simp);have HU:Ac [] w w2:=(((Ac.refl [] w).alloc _).alloc _).trans' HE (by simp);clear H4 HP HE;go_wp2_with fail
  go_loopg [] (2*(s.size-j)+1) (λgk wr=>∃(a:Nat) (S:Bool) (b:List A7) (lv:Value),a<=s.size/\gk=2*(s.size-a)+(if S then 0 else 1)/\Hid (RX s b a S (D,E,B))/\AE wr w.heap.size (BO s a S) 73/\AE wr (w.heap.size+1) [lv] 76/\
   wr.ownsRow (w.heap.size+2) 82 5 lv b.length (b.flatMap Cs)/\Hid (∀c∈b,Nm wr (w.heap.size+2) lv c)/\Ac [] w wr)
  case atStart=>
   refine⟨j,false,[],.slice none 0 0,M3,by simp,⟨?_,by simp,by simp,by simp,by simp⟩,i,l,ck _ _ _ _,λc g=>by simp at g,HU⟩;unfold Ep;simp[O.out.2]
  case round=>
   clear i l HU;obtain⟨a,S,b,lv,ha,q,A,i,l,m,HB,hK⟩:=hrel;have HK:=Ab q;clear q;obtain⟨r,u,rfl⟩:=Aj m;have NX:=i.lt;have N0:=l.lt;have c0:=i.cell 0;have c1:=i.cell 1;have c2:=i.cell 2;have p0:=l.cell 0;have pf:=l.frozen 0;simp[BO]at c0 c1 c2 p0;cases S with
   |true=>
    (have FL:Hid ((b.map A7.erase,a,true)=(D,E,B)):=by have h:=A.out.rest;show _=_;simpa[Ep] using h);go_wp2_with fail
    go_quiet (fail)
    (go_wp2_with fail);go_ret3;have d:=FL.out;simp only[cP]at d;exact⟨_,2,a,rfl,W.out 2 a (by rw[<-d.2.2,<-d.2.1];exact⟨rfl,rfl⟩),(λh=>by cases h),hK.drewN _⟩
   |false=>
    by_cases HS:a<s.size
    ·(have Os:(a:Int)<(s.size:Int):=by omega);obtain⟨f,N,F,HM⟩:∃f N F,A5 s a=(f,N,F):=⟨_,_,_,rfl⟩;(have NM:N<=s.size:=by have:=NK s a ha;rw[HM]at this;exact this);have NS:b.length<=a:=A.out.len2 rfl;have H8:=Ab HM;clear HM;go_wp2_with fail
     go_region_law
      (first
       |(go_simp;go_at_call 44;refine(T7 w.heap.size s a _ EX ha (by first|exact i|exact i.drew)).mono ?_;rintro e G ⟨hv,bv,x,rfl,U,Go,Bx,Ha,B9,I⟩;rw[Aa H8]at U Go B9⊢;obtain⟨Q,P,rfl⟩:=Aj U;obtain⟨L,K,rfl⟩:=Aj Bx;have X:=l.drew.kept I (by simp);have pc:=X.cell 0;have LL:=X.frozen 0;have HN:=λo=>(X.alloc o).cell 0;simp at pc HN;simp only[EN])
       |(refine fc _ (by rfl) _ _ _ (by rfl) (w.heap.size+2) 82 i0 _ 5 80 underlying74 MN K3 M6 LS rfl (by omega) (.slice r b.length u) b.length (b.flatMap Cs) (by rfl) ((Ad (E0 m) I (by simp)).alloc _) ⟨G.heap.size,0,none⟩ 1 1 (EN f (.slice Q f.head.args.length P) (.slice L x.length K)) (by rfl) (by rfl) (cj (cs:=(EN f (.slice Q f.head.args.length P) (.slice L x.length K)).toArray) (t:=82) (fr:=(0,0)) (cA G _)) (by simp[Value.oneCell',EN]) (by omega) (by unfold maxLen;omega) (by omega) (by simp;have:=I.size;simp at this;omega) (G.heap.size+1) (by simp) ?_;intro v cap w5 HC V H0 Mo;have AO:=(X.alloc _).grown V (A0 m (w.heap.size+1) (by omega));have Jx:=AO.cell 0;have LC:=AO.frozen 0;simp at Jx))
     all_goals
      have NV:=I.size;have N2:=(HC.lt v rfl).1;have H7:A7.erase ⟨f.head,.slice Q f.head.args.length P,.slice L x.length K,x,f.at_⟩=f:=by
       unfold A7.erase;simp only[Go]
      obtain⟨H,AB⟩:∃H:A7,H=⟨f.head,.slice Q f.head.args.length P,.slice L x.length K,x,f.at_⟩:=⟨_,rfl⟩;rw[<-AB]at H7;(have HQ:EN f (.slice Q f.head.args.length P) (.slice L x.length K)=Cs H:=by rw[AB];rfl);have IA:=Ab (A.out.step HS (by rw[Aa H8,H7]));have HR:Nm G (w.heap.size+2) (.slice r b.length u) H:=by
       (have FW:w.heap.size+2<=wr.heap.size:=by omega);have e1:BP (.slice Q f.head.args.length P) (.slice r b.length u):=λk q Y=>by
        have Z:wr.heap.size<=k:=(U.lt k q).1;have d:=(m.lt k Y).2;omega
       have e2:BP (.slice L x.length K) (.slice r b.length u):=λk q Y=>by
        have Z:wr.heap.size<=k:=(Bx.lt k q).1;have d:=(m.lt k Y).2;omega
       have e3:∀p∈x,BP p.2 (.slice r b.length u):=λp hp k q Y=>by
        have Z:wr.heap.size<=k:=(World.ownsRow.lt (Ha p hp) k q).1;have d:=(m.lt k Y).2;omega
       rw[AB];exact⟨Ak U FW,Ak Bx FW,λp hp=>Ak (Ha p hp) FW,e1,e2,e3⟩
      have H5:Hid (∀c∈b++[H],Nm (w5.setCell ⟨w.heap.size+1,0,none⟩ (.slice (some ⟨v,0,none⟩) (b.length+1) cap)) (w.heap.size+2) (.slice (some ⟨v,0,none⟩) (b.length+1) cap) c):=by
       intro c g;have h0:Nm G (w.heap.size+2) (.slice r b.length u) c:=by
        rcases bY.1 g with g|g
        .exact((HB.out c g).kept (w':=wr.drew) (M:=[]) (Ac.refl [] wr).drew (by simp)).kept I (by simp)
        .simp only[bO]at g;subst g;exact HR
       (have Z:∀o,Nm (G.alloc o) (w.heap.size+2) (.slice r b.length u) c:=λo=>h0.kept ((Ac.refl [] G).alloc o) (by simp));have d:=Nm.grown (n:=b.length+1) (cap:=cap) (Z _) V H0 (by simp);exact d.kept ((Ac.refl [w.heap.size+1] w5).setCell (p:=⟨w.heap.size+1,0,none⟩) (by simp) _) (by simp)
      have H6:=((B9.alloc _).grown V (A0 m w.heap.size (by omega))).dT ⟨w.heap.size+1,0,none⟩ (by simp) (.slice (some ⟨v,0,none⟩) (b.length+1) cap);have H1:=AO.set 0 (.slice (some ⟨v,0,none⟩) (b.length+1) cap);have HO:=(((hK.drew.trans' I (by simp)).alloc _).grown V (λk q=>Or.inr (by have:=(m.lt k q).1;omega))).setCell (p:=⟨w.heap.size+1,0,none⟩) (by simp) (.slice (some ⟨v,0,none⟩) (b.length+1) cap);have BT:=Ag HC (p:=⟨w.heap.size+1,0,none⟩) (by simp[Value.ownBlock];omega) (.slice (some ⟨v,0,none⟩) (b.length+1) cap);rw[HQ]at BT;have KD:=HK;clear HC AO Jx LC V H0 Mo X pc LL HN U Bx Ha B9 I HR m i l hK HB c0 c1 c2 p0 pf HQ AB Go;(go_wp2_with fail);refine(CZ w.heap.size s N F _ EX NM H6).mono ?_;rintro e w6 ⟨rfl,LE,R⟩;have K1:=H1.kept R (by simp);have KK:=Ad BT R (by simp);(have MB:Hid (∀c∈b++[H],Nm w6 (w.heap.size+2) (.slice (some ⟨v,0,none⟩) (b.length+1) cap) c):=λc g=>(H5.out c g).kept R (by simp));have K8:=HO.trans' R (by simp);clear H6 H1 HO BT H5 R;go_wp2_with fail
      go_roundg (2*(s.size-AQ s N F)+(if F then 0 else 1))
      case measure=>have Z:=(Aa IA).2.1;have d:=Aa KD;simp at d;omega
      case rel=>
       obtain⟨t1,_,t3⟩:=Aa IA;refine⟨AQ s N F,F,b++[H],.slice (some ⟨v,0,none⟩) (b.length+1) cap,t1,rfl,t3,LE,K1,?_,MB,K8⟩;simpa using KK
    ·(have FL:Hid ((b.map A7.erase,a,false)=(D,E,B)):=by have h:=A.out.rest;show _=_;simpa[Ep,KY HS] using h);(have hd:decide ((a:Int)<(s.size:Int))=false:=by simp;omega);have FP:Ci wr (.slice r b.length u) b:=⟨Ak m (b8 _),λc g=>(HB.out c g).cvIn⟩;have EK:Tf b:=ZN hs (by have:=A.out.len2 rfl;omega) A.out.lens (A.out.fl rfl);obtain⟨SP,FF⟩:∃SP,Cg b=SP:=⟨_,rfl⟩;have ES:=Ab FF;have T:=WP (w.heap.size+1) _ b wr l FP EK;rw[FF]at T;have HT:=Ab T;have M2:=Ab FP;have K9:=Ab EK;clear T FF FP EK;(go_wp2_with fail);refine(Aa HT).mono ?_;rintro e w3 ⟨rfl,AT⟩;have HV:=hK.trans AT;have Nx:=Ab (l.kept AT (by simp));have MY:=Ab ((Aa M2).kept AT);clear HT AT hK c0 c1 c2 p0 pf i l m;have d:=FL.out;simp only[cP]at d;obtain⟨J,sa⟩:=SP;simp only;by_cases C:J=0
     .have HZ:Hid (F7 s 0 0):=W.out 0 0 (by rw[<-d.2.2];exact⟨b,d.1,by rw[Jh (by rw[Aa ES];exact C)]⟩);have K5:Hid (S7 s (.pointer (some ⟨w.heap.size+1,0,none⟩)) 0 w3):=by
       intro _;refine⟨_,r,u,b,rfl,Aa Nx,Aa MY,Aa K9,hs,?_,?_,Jh (by rw[Aa ES];exact C)⟩
       .rw[show Af s 0=j from O.out.1,O.out.2];exact d.2.2.symm
       .rw[show Af s 0=j from O.out.1,O.out.2];exact d.1
      (have JA:(J !=0)=false:=by simp[C]);clear d C;(go_wp2_with fail);go_ret3;exact⟨_,0,0,rfl,HZ.out,K5.out,HV⟩
     .have HZ:Hid (F7 s J sa):=W.out J sa (by rw[<-d.2.2];exact⟨b,d.1,(Aa ES).symm⟩);(have JA:(J !=0)=true:=by simp[C]);have JJ:=Ab C;clear d C;(go_wp2_with fail);go_ret3;exact⟨_,J,sa,rfl,HZ.out,(λh=>absurd h (Aa JJ)),HV⟩
structure Ah where
 name:cR
 args:List cR
structure CF where
 f:Ah
 av:Value
def B7(p:CF):List Value:=[.string p.f.name,p.av]
def Hv(w:World)(p:CF):Prop:=w.ownsRow 0 9 1 p.av p.f.args.length (p.f.args.flatMap Ae)
theorem Hv.kept{w w':World}{p:CF}(h:Hv w p)(k:Ac [] w w'):Hv w' p:=Ad h k (by simp)
structure TN(f:Ah):Prop where
 len:f.args.length<=1000
 each:∀x∈f.args,0<x.size/\x.size<=1000000
def GB:List cR->List cR->Bool
 |[],[]=>true
 |x::l,y::m=>(x.toList==y.toList)&&GB l m
 |_,_=>false
def Gn(a b:Ah):Bool:=(a.name.toList==b.name.toList)&&GB a.args b.args
theorem Uf:∀(l m:List cR) (k:Nat) (a:k<l.length) (b:k<m.length),GB (l.drop k) (m.drop k)=((l[k].toList==m[k].toList)&&GB (l.drop (k+1)) (m.drop (k+1)))
 |l,m,k,a,b=>by
  rw[ci a,ci b,GB]
theorem QF:∀{l m:List cR},GB l m=true->l.length=m.length
 |[],[],_=>rfl
 |[],_::_,h=>by cases h
 |_::_,[],h=>by cases h
 |_::l,_::m,h=>by
  rw[GB,cq]at h;simp[QF h.2]
theorem GP{w:World}{base:Nat}{v:Value}{l:List cR}(h:w.ownsRow base 9 1 v l.length (l.flatMap Ae))(k:Nat)(d:k<l.length):∃g a,v=.slice (some ⟨g,0,none⟩) l.length a/\w.cell? ⟨g,k,none⟩=some (.string l[k]):=by
 obtain⟨g,a,e,_,f⟩:=Av h (λc _=>rfl) k d;have b:=f k d 0 (by omega);simp[Ae]at b;exact⟨g,a,e,b⟩
theorem Xm(a b:CF)(w:World)(v:Hv w a)(t:Hv w b)(Z:a.f.args.length<=1000000)(AB:b.f.args.length<=1000000):
  Calls prog 49 #[.agg (B7 a).toArray,.agg (B7 b).toArray] w λe U=>e=.returned (.bool (Gn a.f b.f))/\Ac [] w U:=by
 obtain⟨⟨j,c⟩,av⟩:=a;obtain⟨⟨g,d⟩,bv⟩:=b;unfold Hv at v t;simp only at v t Z AB;obtain⟨p,o,rfl⟩:=Aj v;obtain⟨m,q,rfl⟩:=Aj t;obtain⟨S,D⟩:∃S,Gn ⟨j,c⟩ ⟨g,d⟩=S:=⟨_,rfl⟩;rw[D];have s:Hid (((j.toList==g.toList)&&GB c d)=S):=D;have X:=Ab v;have W:=Ab t;simp only[B7];have l:=Ab (((Ac.refl [] w).alloc (.cells [.string j,.slice p c.length o].toArray 43)).alloc (.cells [.string g,.slice m d.length q].toArray 43));have F:=(AE.new w [.string j,.slice p c.length o] 43).alloc (.cells [.string g,.slice m d.length q].toArray 43);have J:AE ((w.alloc (.cells [.string j,.slice p c.length o].toArray 43)).alloc (.cells [.string g,.slice m d.length q].toArray 43)) (w.heap.size+1) [.string g,.slice m d.length q] 43:=by
  have K:=AE.new (w.alloc (.cells [.string j,.slice p c.length o].toArray 43)) [.string g,.slice m d.length q] 43;rw[show(w.alloc (.cells [.string j,.slice p c.length o].toArray 43)).heap.size=w.heap.size+1 from by simp]at K
  exact K
 have B:=Ab F;have C:=Ab J;clear D v t F J;cases hn:(j.toList==g.toList)with
 |false=>
  have r:Hid (S=false):=by show _=_;rw[<-Aa s,hn];rfl
  have O:(j.toList !=g.toList)=true:=by simp[bne,hn]
  clear s;go_enter func49,ntmps49;go_wp2;go_ret;rw[Aa r];exact⟨rfl,Aa l⟩
 |true=>
  have O:(j.toList !=g.toList)=false:=by simp[bne,hn]
  by_cases u:c.length=d.length
  ·(have r:Hid (GB (c.drop 0) (d.drop 0)=S):=by show _=_;rw[<-Aa s,hn];rfl);(have G:((c.length:Int) !=(d.length:Int))=false:=by simp[u]);(have M:((c.length:Int)==(d.length:Int))=true:=by simp[u]);have H:=Ab u;clear u s;go_enter func49,ntmps49;go_wp2;change Code.wp _ _ _ _ ((w.alloc (.cells [.string j,.slice p c.length o].toArray 43)).alloc (.cells [.string g,.slice m d.length q].toArray 43));generalize(w.alloc (.cells [.string j,.slice p c.length o].toArray 43)).alloc (.cells [.string g,.slice m d.length q].toArray 43)=w1 at l B C⊢;generalize w.heap.size=N at B C⊢;clear hn O G M
   go_loopg [5] c.length (λgk i wr=>∃(k:Nat),i=.int .i64 k/\k<=c.length/\gk=c.length-k/\Hid (GB (c.drop k) (d.drop k)=S)/\Hid (Ac [] w wr)/\Hid (Ac [] w1 wr))
   case atStart=>exact⟨0,rfl,by omega,rfl,r,l,Ac.refl _ _⟩
   case round=>
    clear r l;obtain⟨k,rfl,hk,I,z,l,y⟩:=hrel;have V:=Ab I;clear I;have e1:=((Aa B).kept (Aa y) (by simp)).cell 1;have Y:=((Aa C).kept (Aa y) (by simp)).cell 1;simp at e1 Y;by_cases E:k<c.length
    ·(have Q:k<d.length:=by have:=Aa H;omega);obtain⟨g1,q1,P,d1⟩:=GP (Ad (Aa X) (Aa l) (by simp)) k E;obtain⟨g2,q2,L,d2⟩:=GP (Ad (Aa W) (Aa l) (by simp)) k Q;simp only[bK]at P L;obtain⟨rfl,_,rfl⟩:=P;obtain⟨rfl,_,rfl⟩:=L;have R:=Ab (Uf c d k E Q);(have A:Hid (∀n,Ac [] w (wr.drewN n)/\Ac [] w1 (wr.drewN n)):=λn=>⟨(Aa l).drewN n,(Aa y).drewN n⟩);cases hx:(c[k].toList==d[k].toList)with
     |true=>
      (have T:(c[k].toList !=d[k].toList)=false:=by simp[bne,hx]);have x:Hid (GB (c.drop (k+1)) (d.drop (k+1))=S):=by
       have h:=Aa z;rw[Aa R,hx]at h;exact h
      go_wp2_with fail
      go_quiet (fail)
      go_wp2
      go_roundg (c.length-(k+1))
      case measure=>have:=Aa V;omega
      case rel=>exact⟨k+1,by go_num,by omega,rfl,x,(Aa A _).1,(Aa A _).2⟩
     |false=>
      (have T:(c[k].toList !=d[k].toList)=true:=by simp[bne,hx]);have x:Hid (S=false):=by
       have h:=Aa z;rw[Aa R,hx]at h;exact h.symm
      go_wp2_with fail
      go_quiet (fail)
      go_wp2;go_ret;rw[Aa x];exact⟨rfl,(Aa A _).1⟩
    .have x:Hid (S=true):=by
      have h:=Aa z;rw[cG (by omega),cG (by have:=Aa H;omega)]at h;exact h.symm
     go_wp2;go_ret;rw[Aa x];exact⟨rfl,Aa l⟩
  ·(have G:((c.length:Int) !=(d.length:Int))=true:=by simp[bne];omega);(have M:((c.length:Int)==(d.length:Int))=false:=by rw[cJ];omega);have r:Hid (S=false):=by
    show _=_;rw[<-Aa s,hn];cases h:GB c d with
    |false=>rfl
    |true=>exact absurd (QF h) u
   clear s;go_enter func49,ntmps49;go_wp2;go_ret;rw[Aa r];exact⟨rfl,Aa l⟩
def Dr:List cR->List cR->Bool
 |[],m=>decide (0<m.length)
 |_::_,[]=>false
 |x::l,y::m=>if x.toList==y.toList then Dr l m else Ff x y
def Db(a b:Ah):Bool:=if a.name.toList==b.name.toList then Dr a.args b.args else Op.bytesLess a.name.toList b.name.toList
theorem Sx(l m:List cR)(k:Nat)(a:k<l.length)(b:k<m.length):Dr (l.drop k) (m.drop k)=if l[k].toList==m[k].toList then Dr (l.drop (k+1)) (m.drop (k+1))else Ff l[k] m[k]:=by
 rw[ci a,ci b,Dr]
theorem Ol(l m:List cR)(k:Nat)(h:k<=l.length)(d:¬(k<l.length/\k<m.length))(c:k<=m.length):Dr (l.drop k) (m.drop k)=decide (l.length<m.length):=by
 by_cases b:k<l.length
 .have a:m.length<=k:=by omega
  rw[ci b,cG a,Dr];simp;omega
 .rw[cG (show l.length<=k by omega),Dr,cQ];have:l.length=k:=by omega
  rw[this];by_cases a:k<m.length
  ·(have:0<m.length-k:=by omega);simp[a,this]
  ·(have:¬0<m.length-k:=by omega);simp[a,this]
theorem Wn(a b:CF)(w:World)(t:Hv w a)(s:Hv w b)(G:TN a.f)(B:TN b.f):
  Calls prog 46 #[.agg (B7 a).toArray,.agg (B7 b).toArray] w λe w'=>e=.returned (.bool (Db a.f b.f))/\Ac [] w w':=by
 obtain⟨⟨j,c⟩,av⟩:=a;obtain⟨⟨g,d⟩,bv⟩:=b;unfold Hv at t s;have EX:=G.len;have AT:=B.len;have T:=Ab G.each;have L:=Ab B.each;simp only at t s EX AT T L;clear G B;obtain⟨q,m,rfl⟩:=Aj t;obtain⟨p,o,rfl⟩:=Aj s;obtain⟨S,I⟩:∃S,Db ⟨j,c⟩ ⟨g,d⟩=S:=⟨_,rfl⟩;rw[I];have z:Hid ((if j.toList==g.toList then Dr c d else Op.bytesLess j.toList g.toList)=S):=I;have HA:=Ab t;have HB:=Ab s;simp only[B7];have l:=Ab (((Ac.refl [] w).alloc (.cells [.string j,.slice q c.length m].toArray 43)).alloc (.cells [.string g,.slice p d.length o].toArray 43));have K:=(AE.new w [.string j,.slice q c.length m] 43).alloc (.cells [.string g,.slice p d.length o].toArray 43);have W:AE ((w.alloc (.cells [.string j,.slice q c.length m].toArray 43)).alloc (.cells [.string g,.slice p d.length o].toArray 43)) (w.heap.size+1) [.string g,.slice p d.length o] 43:=by
  have X:=AE.new (w.alloc (.cells [.string j,.slice q c.length m].toArray 43)) [.string g,.slice p d.length o] 43;rw[show(w.alloc (.cells [.string j,.slice q c.length m].toArray 43)).heap.size=w.heap.size+1 from by simp]at X
  exact X
 have D:=Ab K;have E:=Ab W;clear I t s K W;cases hn:(j.toList==g.toList)with
 |false=>
  have v:Hid (Op.bytesLess j.toList g.toList=S):=by show _=_;rw[<-Aa z,hn];rfl
  have AB:(j.toList !=g.toList)=true:=by simp[bne,hn]
  clear z;go_enter func46,ntmps46;go_wp2;go_ret;exact⟨Bc v.out,Aa l⟩
 |true=>
  have AB:(j.toList !=g.toList)=false:=by simp[bne,hn]
  have v:Hid (Dr (c.drop 0) (d.drop 0)=S):=by show _=_;rw[<-Aa z,hn];rfl
  clear z;go_enter func46,ntmps46;go_wp2;change Code.wp _ _ _ _ ((w.alloc (.cells [.string j,.slice q c.length m].toArray 43)).alloc (.cells [.string g,.slice p d.length o].toArray 43));generalize(w.alloc (.cells [.string j,.slice q c.length m].toArray 43)).alloc (.cells [.string g,.slice p d.length o].toArray 43)=w1 at l D E⊢;generalize w.heap.size=N at D E⊢;clear hn AB
  go_loopg [5] c.length (λgk i wr=>∃(k:Nat),i=.int .i64 k/\k<=c.length/\k<=d.length/\gk=c.length-k/\Hid (Dr (c.drop k) (d.drop k)=S)/\Hid (Ac [] w wr)/\Hid (Ac [] w1 wr))
  case atStart=>exact⟨0,rfl,by omega,by omega,rfl,v,l,Ac.refl _ _⟩
  case round=>
   clear v l;obtain⟨k,rfl,O,Z,R,x,l,u⟩:=hrel;have HG:=Ab R;clear R;have H:=((Aa D).kept (Aa u) (by simp)).cell 1;have C:=((Aa E).kept (Aa u) (by simp)).cell 1;simp at H C;by_cases A:k<c.length
   .by_cases F:k<d.length
    .obtain⟨U,q1,Ax,Q⟩:=GP (Ad (Aa HA) (Aa l) (by simp)) k A;obtain⟨P,q2,Y,J⟩:=GP (Ad (Aa HB) (Aa l) (by simp)) k F;simp only[bK]at Ax Y;obtain⟨rfl,_,rfl⟩:=Ax;obtain⟨rfl,_,rfl⟩:=Y;have AO:=Ab (Sx c d k A F);(have y:Hid (∀n,Ac [] w (wr.drewN n)/\Ac [] w1 (wr.drewN n)):=λn=>⟨(Aa l).drewN n,(Aa u).drewN n⟩);cases hx:(c[k].toList==d[k].toList)with
     |true=>
      (have BA:(c[k].toList !=d[k].toList)=false:=by simp[bne,hx]);have r:Hid (Dr (c.drop (k+1)) (d.drop (k+1))=S):=by
       have h:=Aa x;rw[Aa AO,hx]at h;exact h
      go_wp2_with fail
      go_quiet (fail)
      go_wp2
      go_roundg (c.length-(k+1))
      case measure=>have:=Aa HG;omega
      case rel=>exact⟨k+1,by go_num,by omega,by omega,rfl,r,(Aa y _).1,(Aa y _).2⟩
     |false=>
      (have BA:(c[k].toList !=d[k].toList)=true:=by simp[bne,hx]);have r:Hid (Ff c[k] d[k]=S):=by
       have h:=Aa x;rw[Aa AO,hx]at h;exact h
      have V:=Aa T c[k] (bL A);have AH:=Aa L d[k] (bL F);go_wp2_with fail
      go_quiet (fail)
      (go_wp2_with fail);have EY:(wr.drewN nq).cell? ⟨N,1,none⟩=some (.slice (some ⟨U,0,none⟩) c.length m):=H;have Bx:(wr.drewN nq).cell? ⟨N+1,1,none⟩=some (.slice (some ⟨P,0,none⟩) d.length o):=C;have BT:(wr.drewN nq).cell? ⟨U,k,none⟩=some (.string c[k]):=Q;have CC:(wr.drewN nq).cell? ⟨P,k,none⟩=some (.string d[k]):=J;have M:=Ab (Aa y nq).1;clear y H C Q J u l;generalize wr.drewN nq=wq at EY Bx BT CC M⊢
      go_quiet ((go_at_call 86;exact eE (Ly _ _ _ V.1 AH.1 V.2 AH.2)))
      go_wp2;go_ret;exact⟨Bc r.out,(Aa M).drewN _⟩
    ·(have FA:¬(k:Int)<(d.length:Int):=by omega);have r:Hid (decide (c.length<d.length)=S):=by
      show _=_;rw[<-Aa x,Ol c d k O (by omega) Z]
     go_wp2;go_ret;exact⟨Bc r.out,Aa l⟩
   .have r:Hid (decide (c.length<d.length)=S):=by
     show _=_;rw[<-Aa x,Ol c d k O (by omega) Z]
    go_wp2;go_ret;exact⟨Bc r.out,Aa l⟩
