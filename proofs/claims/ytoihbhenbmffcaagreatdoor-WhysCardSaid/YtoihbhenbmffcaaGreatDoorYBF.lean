import Derived.Test.YtoihbhenbmffcaaGreatDoorYAS
import Derived.Test.YtoihbhenbmffcaaGreatDoorYBC
set_option linter.all false
set_option maxHeartbeats 0
open List renaming length->Z
open Option renaming none->Y,some->V
open Go.Value renaming slice->U,int->X,string->O,pointer->j3
open Bool renaming false->K,true->jj
open Go.Ending renaming returned->j4
open Go.RowKit renaming Hid->j9
namespace Go.Proofs.YtoihbhenbmffcaaGreatDoor
open Go.RowKit Go.Proofs.Tryz
structure aZ(cs:List A8)(J:List Af->Prop):Prop where
 len:∀s,J s->Z s<=6912
 body:∀c∈cs,Z c.bl<=3
 args:∀c∈cs,∀p∈c.bl,(p.1.kind==97)=jj->(∀t∈p.1.A.args,Bs t)/\Z p.1.A.args<=1000
 lit:∀s,J s->∀c∈cs,∀e∈(Aj c).foldl (BY s) [BM],∀p∈c.bl,(p.1.kind==97)=K->LX e p.1
 head:∀c∈cs,(∀t∈c.head.args,N7 t)/\Z c.head.args<=1000
 fact:∀s,J s->∀c∈cs,∀e∈CD (Aj c) s,QB (Av e c.head)
 add:∀s0 s,J s0->J s->∀c∈cs,∀e∈CD (Aj c) s0,J (AY s (Av e c.head))
def YX{d:List BF}{s:List Af}:∀e∈CD d s,Z e=26:=by
 have j:∀(b:List BF) (l:List (List g0)),(∀e∈l,Z e=26)->∀e∈b.foldl (BY s) l,Z e=26:=by
  intro b
  induction b with
  |nil=>exact λl h=>h
  |cons x b ih=>
   intro l h;refine ih _ (λe a=>?_);unfold BY at a;split at a
   .obtain⟨g,k,i⟩:=fA.1 a;obtain⟨f,_,c⟩:=gA.1 i;unfold GP at c;split at c
    .cases c
     rw[E6];exact h g k
    .cases c
   .exact h e a
 intro e a;unfold CD at a;exact j d [BM] (by simp[BM]) e (e9.1 a).1
def dq{w:World}{base:Nat}{v:Value}{cs:List A8}{a:g0->Nat}(h:w.ownsRow base 3 1 v (Z cs) ((cs.map λc=>a c.head.name).flatMap BW))(k:Nat)(e:k<Z cs):∃g b,v=U (V ⟨g,0,Y⟩) (Z cs) b/\w.cell? ⟨g,k,Y⟩=V (X .i64 (a cs[k].head.name)):=by
 have i:w.ownsRow base 3 1 v (Z (cs.map λc=>a c.head.name)) ((cs.map λc=>a c.head.name).flatMap BW):=by rw[eL];exact h
 obtain⟨g,b,f,_,j⟩:=AC i (λc _=>rfl) k (by simpa using e);have d:=j k (by simpa using e) 0 (by omega);rw[eL]at f;simp[BW]at d;exact⟨g,b,f,d⟩
def cC{w:World}{base:Nat}{e:TypeId}{a n:Nat}{v:Value}{c:List Value}(h:w.ownsRow base e a v n c):n<=9223372036854775807:=by
 rcases h.2 with⟨_,j⟩|⟨g,i,d,_,_,_,f,b,_⟩
 .omega
 .unfold maxLen at b;omega
def YH{u w:World}(k:Ac [] (u.alloc (.cells #[O ⟨#[]⟩,U Y 0 0] 43)).drew w):AI w u.heap.size [O ⟨#[]⟩,U Y 0 0] 43:=(AI.new u [O ⟨#[]⟩,U Y 0 0] 43).drew.kept k (by simp)
set_option maxRecDepth 100000
theorem Yt(zM:g0->Nat)(I:Nat->List Af->Prop)(J:List Af->Prop)(pb:Nat)(lad:Option Addr)(lcp:Nat)(cs:List A8)(w:World)(hP:AI w pb [U lad (Z cs) lcp] 76)(hR:Cn w (U lad (Z cs) lcp) cs)(hlen:Z cs<=1000)
  (hlev:∀(x:g0) (wz:World),Ac [] w wz->Calls prog 190 #[j3 (V ⟨pb,0,Y⟩),O x,X .i64 6] wz λe w'=>e=j4 (X .i64 (zM x))/\Ac [] wz w') (hlb:∀x,zM x<=1000)
  (hF:aZ cs J) (hI0:I 0 []) (hIJ:∀n s,I n s->J s) (hround:∀n s,I n s->I n (DY cs zM n s).1/\((DY cs zM n s).2=K->I (n+1) (DY cs zM n s).1)/\((DY cs zM n s).2=jj->Z s<Z (DY cs zM n s).1)):
  Calls prog 111 #[j3 (V ⟨pb,0,Y⟩)] w λr w'=>∃(ad:Option Addr) (cp:Nat) (fs:List B5),r=j4 (U ad (Z fs) cp)/\Dm w' (U ad (Z fs) cp) fs/\I 7 (fs.map B5.f)/\Ac [] w w':=by
 have HLv:=Ab (Vj zM pb lad lcp cs w hP hR hlen hlev);have HP:=Ab hP;have HRo:=Ab hR;have HFit:=Ab hF;have HIJ:=Ab hIJ;have HRd:=Ab hround;have HI0:=Ab hI0;have HLb:=Ab hlb;clear hP hR hlev hF hIJ hround hI0 hlb;go_enter func111,ntmps111;go_wp2_with fail
 refine HLv.mono ?_;rintro _ w1 ⟨aad,acp,rfl,hlr,k1⟩;have HLr:=Ab hlr;have HP1:=Ab (HP.kept k1 (by simp));have HR1:=Ab (HRo.kept k1);have HK1:=Ab k1;clear HLv HP HRo hlr k1;go_wp2_with fail
 go_loopg [3,5] 7 (λgk sv i wr=>∃(n:Nat) (fs:List B5) (sad:Option Addr) (scp:Nat),sv=U sad (Z fs) scp/\i=X .i64 n/\n<=7/\gk=7-n/\j9 (I n (fs.map B5.f))/\j9 (Dm wr (U sad (Z fs) scp) fs)/\j9 (Ac [] w1 wr))
 case atStart=>exact⟨0,[],Y,0,rfl,rfl,by omega,rfl,HI0,⟨eU _ _ _ _,by simp⟩,Ac.refl _ _⟩
 case round=>
  obtain⟨n,fs,sad,scp,rfl,rfl,hn,hgn,HI,HS,HK⟩:=hrel;have HGn:=Ab hgn;clear hgn;by_cases hn6:n<=6
  ·(have hn6i:(n:Int)<=6:=by omega);go_wp2_with fail
   go_loopg [3,6] (6913-Z fs) (λgk sv mv wr=>∃(mb:Bool) (fs:List B5) (sad:Option Addr) (scp:Nat),sv=U sad (Z fs) scp/\mv=.bool mb/\gk=(if mb then 6913-Z fs else 0)/\j9 (if mb then I n (fs.map B5.f)else I (n+1) (fs.map B5.f))/\j9 (Dm wr (U sad (Z fs) scp) fs)/\j9 (Ac [] w1 wr))
   case atStart=>exact⟨jj,fs,sad,scp,rfl,rfl,rfl,HI,HS,HK⟩
   case round=>
    clear HI HS HK;obtain⟨mb,fs,sad,scp,rfl,rfl,hgm,HI,HS,HK⟩:=hrel;have HGm:=Ab hgm;clear hgm;cases mb with
    |false=>
     have HI2:j9 (I (n+1) (fs.map B5.f)):=HI;clear HI;go_wp2
     go_roundg (7-(n+1))
     case measure=>have:=Aa HGn;omega
     case rel=>exact⟨n+1,fs,sad,scp,rfl,by go_num,by omega,rfl,HI2,HS,HK⟩
    |true=>
     have HI2:j9 (I n (fs.map B5.f)):=HI;have HJ0:=Ab (HIJ n _ HI2);clear HI;obtain⟨S0,hS0⟩:∃S0,fs.map B5.f=S0:=⟨_,rfl⟩;(have HS0l:j9 (Z fs=Z S0):=by show _=_;rw[<-hS0,eL]);have HS0:=Ab hS0;clear hS0;go_wp2_with fail
     go_loopg [3,6,7] (Z cs) (λgk sv mv i wr=>∃(k:Nat) (mb:Bool) (fs:List B5) (sad:Option Addr) (scp:Nat),sv=U sad (Z fs) scp/\mv=.bool mb/\i=X .i64 k/\k<=Z cs/\gk=Z cs-k/\j9 ((cs.take k).foldl (CN zM n) (S0,K)=(fs.map B5.f,mb))/\j9 (J (fs.map B5.f))/\j9 (Dm wr (U sad (Z fs) scp) fs)/\j9 (Ac [] w1 wr))
     case atStart=>exact⟨0,K,fs,sad,scp,rfl,rfl,rfl,by omega,rfl,(by show _=_;rw[<-Aa HS0];rfl),HJ0,HS,HK⟩
     case round=>
      clear HS HK;obtain⟨k,mb,fs1,sad1,scp1,rfl,rfl,rfl,hk,hgk,HC,HJ,HS,HK⟩:=hrel;have HGk:=Ab hgk;clear hgk;have p0:=(HP1.kept HK (by simp)).cell 0;simp at p0;by_cases zX:k<Z cs
      .obtain⟨g,cap,hdd,adh,cph,adb,cpb,bl,a5,hec,hck,hin,d0,d1,d2,d3⟩:=Ks (HR1.kept HK) k zX;simp only[ei]at hec;obtain⟨rfl,_,rfl⟩:=hec;obtain⟨ga,capa,hea,l0⟩:=dq (Ad HLr HK (by simp)) k zX;simp only[ei]at hea;obtain⟨rfl,_,rfl⟩:=hea;have hcm:cs[k]∈cs:=eo zX;rw[hck]at l0 hcm;simp only at l0;have De:j9 ((cs.take (k+1)).foldl (CN zM n) (S0,K)=CN zM n (fs1.map B5.f,mb) ⟨hdd,U adh (Z hdd.args) cph,U adb (Z bl) cpb,bl,a5⟩):=by
        show _=_;rw[ep zX,fE,Aa HC,hck];rfl
       have hlb:=Aa HLb hdd.name;(have hkr0:(0:Int)<=(k:Int):=by omega);(have hkr1:(k:Int)<(Z cs:Int):=by omega);obtain⟨lv,hlv⟩:∃lv,zM hdd.name=lv:=⟨_,rfl⟩;rw[hlv]at l0 hlb;by_cases hln:lv=n
       ·(have hneb:((lv:Int) !=(n:Int))=K:=by simp[hln]);have HCin:=Ab hin;have HCk:=Ab hck;obtain⟨c,hc⟩:∃c:A8,c=⟨hdd,U adh (Z hdd.args) cph,U adb (Z bl) cpb,bl,a5⟩:=⟨_,rfl⟩;rw[<-hc]at hcm De;(have hcb:Aj c=bl.map Prod.fst:=by rw[hc];rfl);(have hcl:c.bl=bl:=by rw[hc]);(have hch:c.head=hdd:=by rw[hc]);(have hcn:zM c.head.name=n:=by rw[hch,hlv,hln]);have HSt2:j9 ((cs.take (k+1)).foldl (CN zM n) (S0,K)=(CD (bl.map Prod.fst) (fs1.map B5.f)).foldl (GS c) (fs1.map B5.f,mb)):=by
         have h:=Aa De;rw[h];show CN zM n (fs1.map B5.f,mb) c=_;unfold CN;rw[eI hcn,hcb]
        (have hl1:Z fs1<=6912:=by have:=HFit.len _ HJ;rw[eL]at this;exact this);have HSol:=Ab (Xq adb cpb bl sad1 scp1 fs1 wr hin.body hin.lits HS (by have:=HFit.body c hcm;rw[hcl]at this;exact this) hl1 (by have:=HFit.args c hcm;rw[hcl]at this;exact this) (by have:=HFit.lit _ HJ c hcm;rw[hcb,hcl]at this;exact this));have HFa:j9 (∀e∈CD (bl.map Prod.fst) (fs1.map B5.f),QB (Av e hdd)/\Z e=26/\∀s,J s->J (AY s (Av e hdd))):=by
         intro e he;have h1:=HFit.fact _ HJ c hcm e (by rw[hcb];exact he);rw[hch]at h1;refine⟨h1,YX e he,λs hs=>?_⟩;have h2:=HFit.add _ s HJ hs c hcm e (by rw[hcb];exact he);rw[hch]at h2;exact h2
        (have HHd:j9 ((∀t∈hdd.args,N7 t)/\Z hdd.args<=1000):=by have:=HFit.head c hcm;rw[hch]at this;exact this);(have HAdd:j9 (∀a e,GS c a e=if DD a.1 (Av e hdd)then a else(AY a.1 (Av e hdd),jj)):=λa e=>by unfold GS;rw[hch]);obtain⟨LE,hLE⟩:∃LE,CD (bl.map Prod.fst) (fs1.map B5.f)=LE:=⟨_,rfl⟩;rw[hLE]at HSt2 HSol HFa;generalize GS c=AH at HSt2 HAdd;clear De HC hck hin hcm hc hcb hcl hch hcn hLE hlv;(go_wp2_with fail);refine HSol.mono ?_;rintro _ w5 ⟨lad5,lcp5,rfl,hE5,k5⟩;have HE5:=Ab hE5;have HK5:=Ab (HK.trans k5);have HS5:=Ab (HS.kept k5);have hw5:=k5.size;clear HSol hE5 k5 HS HK;go_wp2_with fail
        go_loopg [3,6,9] (Z LE) (λgk sv mv i wr=>∃(m:Nat) (mb2:Bool) (fs2:List B5) (sad2:Option Addr) (scp2:Nat),sv=U sad2 (Z fs2) scp2/\mv=.bool mb2/\i=X .i64 m/\m<=Z LE/\gk=Z LE-m/\j9 ((LE.take m).foldl AH (fs1.map B5.f,mb)=(fs2.map B5.f,mb2))/\j9 (J (fs2.map B5.f))/\j9 (Dm wr (U sad2 (Z fs2) scp2) fs2)/\j9 (Ac [] w5 wr))
        case atStart=>exact⟨0,mb,fs1,sad1,scp1,rfl,rfl,rfl,by omega,rfl,rfl,HJ,HS5,Ac.refl _ _⟩
        case round=>
         clear HS5;obtain⟨m,mb2,fs2,sad2,scp2,rfl,rfl,rfl,hm,hgm,HA,HJ2,HS,HK⟩:=hrel;have HGm2:=Ab hgm;clear hgm;by_cases hml:m<Z LE
         .obtain⟨gl,cpl,hel,hcl5,r0⟩:=Ir (HE5.kept HK (by simp)) m hml;simp only[ei]at hel;obtain⟨rfl,_,rfl⟩:=hel;obtain⟨e,he⟩:∃e,LE[m]=e:=⟨_,rfl⟩;obtain⟨hRf,he26,hJa⟩:=HFa e (by rw[<-he];exact eo hml);have HJa:=Ab (hJa _ HJ2);have HRf:=Ab hRf;have HTm:j9 ((LE.take (m+1)).foldl AH (fs1.map B5.f,mb)=if DD (fs2.map B5.f) (Av e hdd)then(fs2.map B5.f,mb2)else(AY (fs2.map B5.f) (Av e hdd),jj)):=by
           show _=_;rw[ep hml,fE,Aa HA,he];exact HAdd _ _
          have hLm:=cC HE5.row;(have hmr0:(0:Int)<=(m:Int):=by omega);(have hmr1:(m:Int)<(Z LE:Int):=by omega);have HFc:j9 (∀wz,Ac [] wr wz->Calls prog 48 #[.agg (Ai e).toArray,.agg #[O hdd.name,U adh (Z hdd.args) cph,X .i64 hdd.at_]] wz λr w'=>∃ad cp,r=j4 (.agg (Bq ⟨Av e hdd,U ad (Z hdd.args) cp⟩).toArray)/\Ew w' ⟨Av e hdd,U ad (Z hdd.args) cp⟩/\(∀q,(U ad (Z hdd.args) cp).ownBlock=V q->wz.heap.size<=q)/\Ac [] wz w'):=by
           intro wz hkz;have hcv:=(HR1.kept ((HK5.trans HK).trans hkz)).each _ (eo zX);rw[Aa HCk]at hcv;exact M8 e hdd adh cph wz he26 hcv.args HHd.2 HHd.1
          have HCs:j9 (∀wz,Ac [] wr wz->wz.rangeAt gl (m*26) (Ai e)/\wz.cell? ⟨pb,0,Y⟩=V (U (V ⟨g,0,Y⟩) (Z cs) lcp)/\wz.cell? ⟨g,k*5,Y⟩=V (O hdd.name)/\wz.cell? ⟨g,k*5+1,Y⟩=V (U adh (Z hdd.args) cph)/\wz.cell? ⟨g,k*5+2,Y⟩=V (X .i64 hdd.at_)):=by
           intro wz hkz;have hkw:=(HK5.trans HK).trans hkz;obtain⟨g',cap',hd',adh',cph',adb',cpb',bl',a5',hec',hck',_,f0,f1,f2,f3⟩:=Ks (HR1.kept hkw) k zX;simp only[ei,eD,fm]at hec';obtain⟨⟨rfl,_,_⟩,_,_⟩:=hec';rw[Aa HCk]at hck';simp only[A8.mk.injEq,ei]at hck';obtain⟨rfl,⟨rfl,_,rfl⟩,_⟩:=hck';have q0:=(HP1.kept hkw (by simp)).cell 0;simp at q0;obtain⟨g',cp',he',_,r'⟩:=Ir (HE5.kept (HK.trans hkz) (by simp)) m hml;simp only[ei,eD,fm]at he';obtain⟨⟨rfl,_,_⟩,_,_⟩:=he';rw[he]at r';exact⟨r',q0,f0,f1,f2⟩
          clear he r0 HA hJa hRf;(have hl2:Z fs2<=6912:=by have:=HFit.len _ HJ2;rw[eL]at this;exact this);have HHas:j9 (∀v wz,Ac [] wr wz->Ew wz ⟨Av e hdd,v⟩->Calls prog 21 #[U sad2 (Z fs2) scp2,.agg (Bq ⟨Av e hdd,v⟩).toArray] wz λe' w'=>e'=j4 (.bool (DD (fs2.map B5.f) (Av e hdd)))/\Ac [] wz w'):=by
           intro v wz hkz hrf;have h:=JZ sad2 scp2 fs2 ⟨Av e hdd,v⟩ wz (HS.kept hkz) hrf (by omega) HRf;(have hh:(fs2.any λp=>Fg p.f (Av e hdd))=DD (fs2.map B5.f) (Av e hdd):=by unfold DD;rw[iP];rfl);rw[hh]at h;exact h
          have HWi:j9 (∀v wz,Ac [] wr wz->Ew wz ⟨Av e hdd,v⟩->Calls prog 57 #[U sad2 (Z fs2) scp2,.agg (Bq ⟨Av e hdd,v⟩).toArray] wz λe' w'=>∃(ad:Option Addr) (cp:Nat) (fs3:List B5),e'=j4 (U ad (Z fs3) cp)/\Dm w' (U ad (Z fs3) cp) fs3/\fs3.map B5.f=AY (fs2.map B5.f) (Av e hdd)/\Ac [] wz w'):=by
           intro v wz hkz hrf;refine(QG sad2 scp2 fs2 ⟨Av e hdd,v⟩ wz (HS.kept hkz) hrf (by omega) HRf).mono ?_;rintro e' w' ⟨ad,cp,rfl,h1,h2⟩;exact⟨ad,cp,_,rfl,h1,M9 fs2 ⟨Av e hdd,v⟩,h2⟩
          (have HRv:j9 (∀ad cp,Bq ⟨Av e hdd,U ad (Z hdd.args) cp⟩=[O hdd.name,U ad (Z hdd.args) cp]):=λad cp=>rfl);obtain⟨EK,hEK⟩:∃EK,Ai e=EK:=⟨_,rfl⟩;(have hEl:Z EK=26:=by rw[<-hEK,Cf,he26]);rw[hEK]at HFc HCs;generalize Av e hdd=FP at HFc HTm HHas HWi HRv HJa HRf;clear hEK;have hu:=underlying90;(have hi:(prog.info? 90).map (·.size)=V (Z EK):=by rw[hEl];exact Tryz.zG);obtain⟨nm,hnm⟩:∃nm,hdd.name=nm:=⟨_,rfl⟩;obtain⟨ja,hja⟩:∃ja,hdd.at_=ja:=⟨_,rfl⟩;obtain⟨na,hna⟩:∃na,Z hdd.args=na:=⟨_,rfl⟩;rw[hnm,hja,hna]at HFc HCs;rw[hnm,hna]at HRv;clear hnm hja hna d0 d1 d2 d3 l0;go_wp2_with fail
          go_region_held3 (λwz=>Ac [] wr wz/\wz.rangeAt gl (m*26) EK/\wz.cell? ⟨pb,0,Y⟩=V (U (V ⟨g,0,Y⟩) (Z cs) lcp)/\wz.cell? ⟨g,k*5,Y⟩=V (O nm)/\wz.cell? ⟨g,k*5+1,Y⟩=V (U adh na cph)/\wz.cell? ⟨g,k*5+2,Y⟩=V (X .i64 ja)) ((go_split_ands;refine(fun(hkz:Ac [] wr _)=>And.intro hkz (HCs _ hkz)) ?_;repeat (first|assumption|exact Ac.refl [] _|refine Ac.drew ?_|refine Ac.alloc ?_ _|(refine Ac.setCell ?_ (Or.inr (by first|omega|(simp;done)|(simp;omega))) _)))) ((go_at_call 48;refine(HFc _ (by go_split_ands;assumption)).mono ?_;rintro _ w3 ⟨fad,fcp,rfl,hrf,hrq,k3⟩;rw[Aa HRv];have hk3:Ac [] wr w3:=(by go_split_ands;exact Ac.trans (by assumption) k3);(try (have hb4:=YH k3;have y0:=hb4.cell 0;have y1:=hb4.cell 1;have yf:=hb4.frozen;simp at y0 y1));have hs3:=hk3.size;have HRF:=Ab hrf;have HRQ:=Ab hrq;have HK3:=Ab k3;clear k3 hrf hrq))
          all_goals
           rename_i hHeldX;have HKW:=Ab hHeldX.1;clear hHeldX HFc HCs
           first
            |(
              have HBW:j9 (AI ((w3.setCell ⟨wr.heap.size,0,Y⟩ (O nm)).setCell ⟨wr.heap.size,1,Y⟩ (U fad na fcp)) wr.heap.size [O nm,U fad na fcp] 43):=(hb4.set 0 _).set 1 _
              have hne:(U fad na fcp).ownBlock≠V wr.heap.size:=λh=>by have:=Aa HRQ _ h;simp at this;omega
              have HRW:j9 (Ew ((w3.setCell ⟨wr.heap.size,0,Y⟩ (O nm)).setCell ⟨wr.heap.size,1,Y⟩ (U fad na fcp)) ⟨FP,U fad na fcp⟩):=Ag (Ag HRF (p:=⟨wr.heap.size,0,Y⟩) hne _) (p:=⟨wr.heap.size,1,Y⟩) hne _
              obtain⟨B,hB⟩:∃B,wr.heap.size=B:=⟨_,rfl⟩
              rw[hB]at HBW HKW HRW⊢
              clear hb4 y0 y1 yf hs3 HK3 HRF HRQ hne hB
              generalize(w3.setCell ⟨B,0,Y⟩ (O nm)).setCell ⟨B,1,Y⟩ (U fad na fcp)=W at HBW HKW HRW⊢)
            |(
              have HBW:j9 (AI (w3.alloc (.cells #[O nm,U fad na fcp] 43)) w3.heap.size [O nm,U fad na fcp] 43):=AI.new w3 [O nm,U fad na fcp] 43
              have HRW:j9 (Ew (w3.alloc (.cells #[O nm,U fad na fcp] 43)) ⟨FP,U fad na fcp⟩):=HRF.kept ((Ac.refl [] w3).alloc _)
              obtain⟨B,hB⟩:∃B,w3.heap.size=B:=⟨_,rfl⟩
              rw[hB]at HBW⊢
              clear hs3 HK3 HRF HRQ hB
              generalize w3.alloc (.cells #[O nm,U fad na fcp] 43)=W at HBW HKW HRW⊢)
           clear hk3;have x0:=HBW.cell 0;have x1:=HBW.cell 1;simp at x0 x1;have HC1:=Ab (HHas _ W HKW HRW);rw[Aa HRv]at HC1;obtain⟨HB,hHB⟩:∃HB,DD (fs2.map B5.f) FP=HB:=⟨_,rfl⟩;rw[hHB]at HC1 HTm;clear hHB HHas;(go_wp2_with fail);refine HC1.mono ?_;rintro _ w6 ⟨rfl,k6⟩;have HK6:=Ab (HKW.trans k6);have HBW6:=HBW.kept k6 (by simp);have z0:=HBW6.cell 0;have z1:=HBW6.cell 1;simp at z0 z1;have HRW6:=Ab (HRW.kept k6);clear HBW6 x0 x1 HBW HKW HRW HC1 k6;cases HB with
           |true=>
            have HT2:j9 ((LE.take (m+1)).foldl AH (fs1.map B5.f,mb)=(fs2.map B5.f,mb2)):=HTm;have HK7:=Ab (HK.trans HK6);have HS7:=Ab (HS.kept HK6);clear HTm HS HK HWi HJa HRW6;go_wp2
            go_roundg (Z LE-(m+1))
            case measure=>have:=Aa HGm2;omega
            case rel=>exact⟨m+1,mb2,fs2,sad2,scp2,rfl,rfl,by go_num,by omega,rfl,HT2,HJ2,HS7,HK7⟩
           |false=>
            have HC2:=Ab (HWi _ w6 HK6 HRW6);rw[Aa HRv]at HC2;clear HWi;(go_wp2_with fail);refine HC2.mono ?_;rintro _ w7 ⟨ad7,cp7,fs3,rfl,hs7,hm7,k7⟩;have HT2:j9 ((LE.take (m+1)).foldl AH (fs1.map B5.f,mb)=(fs3.map B5.f,jj)):=by
             show _=_;rw[hm7];exact HTm
            (have HJ7:j9 (J (fs3.map B5.f)):=by rw[hm7];exact HJa);have HK7:=Ab ((HK.trans HK6).trans k7);have HS7:=Ab hs7;clear HTm HS HK HJa HRW6 HC2 hs7 hm7 k7 z0 z1;go_wp2
            go_roundg (Z LE-(m+1))
            case measure=>have:=Aa HGm2;omega
            case rel=>exact⟨m+1,jj,fs3,ad7,cp7,rfl,rfl,by go_num,by omega,rfl,HT2,HJ7,HS7,HK7⟩
         .have HSt3:j9 ((cs.take (k+1)).foldl (CN zM n) (S0,K)=(fs2.map B5.f,mb2)):=by
           have h:=Aa HA;rw[eu (by omega)]at h;exact HSt2.trans h
          have HK6:=Ab (HK5.trans HK);clear HA HSt2;go_wp2
          go_roundg (Z cs-(k+1))
          case measure=>have:=Aa HGk;omega
          case rel=>exact⟨k+1,mb2,fs2,sad2,scp2,rfl,rfl,by go_num,by omega,rfl,HSt3,HJ2,HS,HK6⟩
       ·(have hneb:((lv:Int) !=(n:Int))=jj:=by simp[bne];omega);have HSt2:j9 ((cs.take (k+1)).foldl (CN zM n) (S0,K)=(fs1.map B5.f,mb)):=by
         have h:=Aa De;unfold CN at h⊢;rw[eE (by simp only;rw[hlv];exact hln)]at h;exact h
        clear De HC hck hin hcm hlv;go_wp2
        go_roundg (Z cs-(k+1))
        case measure=>have:=Aa HGk;omega
        case rel=>exact⟨k+1,mb,fs1,sad1,scp1,rfl,rfl,by go_num,by omega,rfl,HSt2,HJ,HS,HK⟩
      .have HC2:j9 (DY cs zM n S0=(fs1.map B5.f,mb)):=by
        have h:=Aa HC;rw[eu (by omega)]at h;exact h
       have HRr:j9 ((if mb then I n (fs1.map B5.f)else I (n+1) (fs1.map B5.f))/\(mb=jj->Z fs<Z fs1)):=by
        have hI:=Aa HI2;rw[Aa HS0]at hI;have h:=Aa HRd n S0 hI;rw[Aa HC2]at h;refine⟨?_,λhm=>?_⟩
        .cases mb with
         |true=>exact h.1
         |false=>exact h.2.1 rfl
        .have:=h.2.2 hm;rw[eL]at this;have:=Aa HS0l;omega
       (have hl1:Z fs1<=6912:=by have:=HFit.len _ HJ;rw[eL]at this;exact this);have HRI:=Ab HRr.1;have hgt:=HRr.2;clear HC HC2 HRr;go_wp2
       go_roundg (if mb then 6913-Z fs1 else 0)
       case measure=>
        have h1:=Aa HGm;rw[eI True.intro]at h1;cases mb with
        |true=>have:=hgt rfl;simp;omega
        |false=>have:=HFit.len _ HJ0;rw[eL]at this;simp;omega
       case rel=>exact⟨mb,fs1,sad1,scp1,rfl,rfl,rfl,HRI,HS,HK⟩
  ·(have hn7:n=7:=by omega);subst hn7;go_wp2;go_ret;exact⟨sad,scp,fs,rfl,HS,HI,HK1.trans HK⟩
def Ia(cs:List A8)(s:List Af):Prop:=EI s/\∀f∈s,Fd cs f
def Jd.zg{cs:List A8}{a:g0->Nat}{n:Nat}{s:List Af}(h:Jd cs a n s):Ia cs s:=⟨h.zK,h.zY⟩
def C9.small{cs:List A8}(h:C9 cs):Z cs<=12/\∀c∈cs,Z c.bl<=3/\Z c.head.args<=2/\∀p∈c.bl,Br p=K:=by
 have d:∀k (b:k<Z cs),k<12/\cs[k].bl.length<=3/\cs[k].head.args.length<=2/\∀p∈cs[k].bl,Br p=K:=by
  intro k b;have a:=h.each k b;unfold B4 at a;by_cases e:12<=k\/3<cs[k].bl.length
  .rw[eI e]at a;cases a
  rw[eE e]at a;by_cases f:2<cs[k].head.args.length
  .rw[eI f]at a;cases a
  rw[eE f]at a;cases a3:cs[k].bl.any Br with
  |true=>rw[a3,eI rfl]at a;cases a
  |false=>
   refine⟨by omega,by omega,by omega,λp g=>?_⟩;rw[gC]at a3;cases hm:Br p with
   |false=>rfl
   |true=>exact absurd hm (a3 p g)
 refine⟨?_,λc j=>?_⟩
 .by_cases i:Z cs<=12
  .exact i
  .have:=(d 12 (by omega)).1;omega
 .obtain⟨k,b,rfl⟩:=fj j;exact(d k b).2
def UQ(cs:List A8)(h:∀c∈cs,Z c.head.args<=2):Z (consts cs)<=Z cs*2:=by
 unfold consts
 induction cs with
 |nil=>simp
 |cons c cs ih=>
  have f:=ih (λd a=>h d (fu _ a));have b:=h c (fI ..);have e:=fZ (λt:AG=>t.v==0) c.head.args;simp only[eN,eJ,eL,eF];omega
def OY(l:List g0):∀n,Z (It l n)=Z l^n
 |0=>rfl
 |n+1=>by
  have ih:=OY l n;unfold It;have:∀m:List g0,Z (m.flatMap λx=>(It l n).map (x:: ·))=Z m*Z l^n:=by
   intro m
   induction m with
   |nil=>simp
   |cons x m ih2=>
    simp only[eN,eJ,eL,ih2,ih,eF,gL,Nat.one_mul];omega
  rw[this l,Nat.pow_succ,Nat.mul_comm]
def PR{cs:List A8}(l:Z cs<=12)(h:∀c∈cs,Z c.head.args<=2):Z (QU cs)<=6912:=by
 have i:Z (consts cs)<=24:=by have:=UQ cs h;omega
 have f:∀n,n<=2->Z (It (consts cs) n)<=576:=by
  intro n j;rw[OY]
  match n,j with
  |0,_=>simp
  |1,_=>simp;omega
  |2,_=>
   have:Z (consts cs)^2<=24^2:=Nat.pow_le_pow_left i 2;omega
 have e:∀a:List A8,(∀c∈a,Z c.head.args<=2)->Z (a.flatMap λc=>(It (consts cs) (Z c.head.args)).map (Af.mk c.head.name))<=Z a*576:=by
  intro a
  induction a with
  |nil=>simp
  |cons c a ih=>
   intro b;have m:=ih (λd g=>b d (fu _ g));have k:=f _ (b c (fI ..));simp only[eN,eJ,eL,eF,gL,Nat.one_mul];omega
 have:=e cs h;unfold QU;omega
def JR{cs:List A8}(hF:St cs):∀x∈consts cs,0<x.size/\x.size<=1000000:=by
 intro x a;unfold consts at a;obtain⟨c,g,b⟩:=fA.1 a;obtain⟨t,f,rfl⟩:=eH.1 b;obtain⟨e,d⟩:=e9.1 f;exact(hF.full c g).head t e (by simpa using d)
def C0.fit{t:AG}(h:C0 t):N7 t:=by
 rcases h with h|h
 .exact Or.inl h.1
 .exact Or.inr ⟨h.1,h.2.1⟩
def Dh.fit{cs:List A8}(h:Dh cs)(hF:St cs):aZ cs (Ia cs):=by
 obtain⟨Q,q⟩:=h.order.small;have E:∀s,Ia cs s->∀f∈s,Jp f:=λs b f l=>AM.zL ((b.2 f l).canon h.prog.zN)
 have S:∀s,Ia cs s->∀c∈cs,∀e∈(Aj c).foldl (BY s) [BM],∀t,ES (Aj c) t->t.v≠0->0<(AJ e t).size/\(AJ e t).size<=1000000:=by
  intro s b c a e d t g i;obtain⟨_,_,_,_,D⟩:=C8 (E s b) (Aj c) [BM] (λe d=>by simp at d;rw[d];rfl) (h.prog.zL.args c a) e d;rcases g with j|⟨y,W,n,u,hu,AB⟩
  .exact absurd j i
  .have j:=(b.2 _ (D y W n).1).args (AJ e u) (eZ hu);have m:=JR hF _ j;(have F:AJ e u=AJ e t:=by unfold AJ;rw[AB,eE i,eE i]);rw[F]at m;exact m
 have H:∀s,Ia cs s->∀c∈cs,∀e∈(Aj c).foldl (BY s) [BM],∀p∈c.bl,∀t∈AS p,ES (Aj c) t->0<(AJ e t).size/\(AJ e t).size<=1000000:=by
  intro s b c a e d p k t g D;by_cases i:t.v=0
  .have j:=(hF.full c a).body p k t g i;unfold AJ;rw[eI i];exact j
  .exact S s b c a e d t D i
 refine⟨λs b=>?_,λc a=>(q c a).1,λc a p k n=>?_,λs b c a e d p k n=>?_,λc a=>⟨λt g=>((h.zN c a).args t g).fit,by have:=(q c a).2.1;omega⟩,λs b c a e d=>?_,λT s i b c a e d=>?_⟩
 .have:=Ht s (QU cs) (b.1.nodup λf l=>(b.2 f l).canon h.prog.zN) λf l=>(b.2 f l).mem
  have:=PR Q (λc a=>(q c a).2.1);omega
 .have r:=(q c a).2.2 p k;refine⟨h.prog.zL.args c a p.1 (eZ k) n,?_⟩;unfold Br at r;have m:¬2<Z p.1.A.args:=iV r;omega
 .have r:=(q c a).2.2 p k;unfold Br at r;have m:¬2<Z p.1.A.args:=iV r;have N:p.1∈Aj c:=eZ k;have o:=h.lits c a p.1 N;have I:=h.prog.zL.safe c a p.1 N n;refine⟨λB=>?_,λz=>?_⟩
  ·(have C:(p.1.kind==33)=jj:=by rw[n]at B;simpa using B);unfold DA at o;rw[eI B]at o;(have w:AS p=p.1.A.args:=by unfold AS Oh;rw[B];rfl);refine⟨λt g=>(o.args t g).fit,by omega,⟨by simp[Av];omega,λx G=>?_⟩⟩;obtain⟨t,g,rfl⟩:=eH.1 G;exact H s b c a e d p k t (by rw[w];exact g) (I.1 C t g)
  ·(have C:(p.1.kind==33)=K:=by rw[n]at z;simpa using z);unfold DA at o;rw[eE (by rw[z];simp)]at o;(have w:AS p=[p.1.L,p.1.R]:=by unfold AS Oh;rw[z];rfl);have M:=H s b c a e d p k p.1.L (by rw[w];simp) (I.2 C).1;have P:=H s b c a e d p k p.1.R (by rw[w];simp) (I.2 C).2;exact⟨o.1.fit,o.2.1.fit,M.1,M.2,P.1,P.2⟩
 .have j:=PG h.prog.zL b.2 (E s b) a d;refine⟨?_,λx G=>JR hF x (j.args x G)⟩;have:=(q c a).2.1;simp[Av];omega
 .have j:=PG h.prog.zL i.2 (E T i) a d;have m:=DC (j.canon h.prog.zN) b.1 (λf l=>(b.2 f l).canon h.prog.zN);refine⟨m.1,λf l=>?_⟩;rcases(m.2.2 f).1 l with F|rfl
  .exact b.2 f F
  .exact j
def OK(s:g0)(at_:Nat)(a:Bool):(AX s at_ a).1.size<=s.size:=by
 unfold AX;split
 .exact eV _
 .split
  .exact eV _
  .rw[gh];omega
def Vn(s:g0)(e:Nat)(c:Option Addr)(b:Nat)(cs:List A8)(w:World)(k:AI w e [U c (Z cs) b] 76)(m:Cn w (U c (Z cs) b) cs)(hF:St cs)(a:(As s (Ae s 0)).2.2=K)(y:cs.map A8.erase=(As s (Ae s 0)).1)(q:CM cs=(0,0)):
  Calls prog 111 #[j3 (V ⟨e,0,Y⟩)] w λr j=>∃(p:Option Addr) (o:Nat) (d:List B5),r=j4 (U p (Z d) o)/\Dm j (U p (Z d) o) d/\Jd cs (Cd cs 6) 7 (d.map B5.f)/\Ac [] w j:=by
 have g:=JL a y q;exact Yt (Cd cs 6) (Jd cs (Cd cs 6)) (Ia cs) e c b cs w k m hF.len
  (λx v i=>Y0 e c b cs hF.len hF.body 6 x v (k.kept i (by simp)) (m.kept i) (by omega)) (λx=>by have:=Sy cs 6 x;omega)
  (g.fit hF) (Jd.start cs _) (λn t h=>h.zg) (λn t h=>by
   have a:=g.round h
   exact⟨a.1,λu=>by have l:=a.2.1 u;rw[l.1];exact l.2,a.2.2.1⟩)
