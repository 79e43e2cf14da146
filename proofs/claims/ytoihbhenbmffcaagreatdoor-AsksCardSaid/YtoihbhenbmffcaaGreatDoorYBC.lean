import Derived.Test.YtoihbhenbmffcaaGreatDoorYAR
import Derived.Test.YtoihbhenbmffcaaGreatDoorYBA
set_option linter.all false
set_option maxHeartbeats 0
namespace Go.Proofs.YtoihbhenbmffcaaGreatDoor
open Go.RowKit Go.Proofs.Tryz
structure Zj(cs:List A7)(J:List Ah->Prop):Prop where
 len:∀s,J s->s.length<=6912
 body:∀c∈cs,c.bl.length<=3
 args:∀c∈cs,∀p∈c.bl,(p.1.kind==97)=true->(∀t∈p.1.A.args,Bz t)/\p.1.A.args.length<=1000
 lit:∀s,J s->∀c∈cs,∀e∈(Am c).foldl (Cq s) [BX],∀p∈c.bl,(p.1.kind==97)=false->PB e p.1
 head:∀c∈cs,(∀t∈c.head.args,Ni t)/\c.head.args.length<=1000
 fact:∀s,J s->∀c∈cs,∀e∈Br (Am c) s,TN (AA e c.head)
 add:∀s0 s,J s0->J s->∀c∈cs,∀e∈Br (Am c) s0,J (Bp s (AA e c.head))
theorem QY{d:List Bg}{s:List Ah}:∀e∈Br d s,e.length=26:=by
 have j:∀(b:List Bg) (l:List (List cR)),(∀e∈l,e.length=26)->∀e∈b.foldl (Cq s) l,e.length=26:=by
  intro b
  induction b with
  |nil=>exact λl h=>h
  |cons x b ih=>
   intro l h;refine ih _ (λe a=>?_);unfold Cq at a;split at a
   .obtain⟨g,k,i⟩:=cO.1 a;obtain⟨f,_,c⟩:=dY.1 i;unfold Kv at c;split at c
    .cases c
     rw[Lf];exact h g k
    .cases c
   .exact h e a
 intro e a;unfold Br at a;exact j d [BX] (by simp[BX]) e (cn.1 a).1
theorem aM{w:World}{base:Nat}{v:Value}{cs:List A7}{a:cR->Nat}(h:w.ownsRow base 3 1 v cs.length ((cs.map λc=>a c.head.name).flatMap BM))(k:Nat)(e:k<cs.length):∃g b,v=.slice (some ⟨g,0,none⟩) cs.length b/\w.cell? ⟨g,k,none⟩=some (.int .i64 (a cs[k].head.name)):=by
 have i:w.ownsRow base 3 1 v (cs.map λc=>a c.head.name).length ((cs.map λc=>a c.head.name).flatMap BM):=by rw[bX];exact h
 obtain⟨g,b,f,_,j⟩:=Av i (λc _=>rfl) k (by simpa using e);have d:=j k (by simpa using e) 0 (by omega);rw[bX]at f;simp[BM]at d;exact⟨g,b,f,d⟩
theorem V3{w:World}{base:Nat}{e:TypeId}{a n:Nat}{v:Value}{c:List Value}(h:w.ownsRow base e a v n c):n<=9223372036854775807:=by
 rcases h.2 with⟨_,j⟩|⟨g,i,d,_,_,_,f,b,_⟩
 .omega
 .unfold maxLen at b;omega
theorem Xv{u w:World}(k:Ac [] (u.alloc (.cells #[.string ⟨#[]⟩,.slice none 0 0] 43)).drew w):AE w u.heap.size [.string ⟨#[]⟩,.slice none 0 0] 43:=(AE.new u [.string ⟨#[]⟩,.slice none 0 0] 43).drew.kept k (by simp)
set_option maxRecDepth 100000
theorem Xi(gD:cR->Nat)(I:Nat->List Ah->Prop)(J:List Ah->Prop)(pb:Nat)(lad:Option Addr)(lcp:Nat)(cs:List A7)(w:World)(hP:AE w pb [.slice lad cs.length lcp] 76)(hR:Ci w (.slice lad cs.length lcp) cs)(hlen:cs.length<=1000)
    (hlev:∀(x:cR) (wz:World),Ac [] w wz->Calls prog 190 #[.pointer (some ⟨pb,0,none⟩),.string x,.int .i64 6] wz λe w'=>e=.returned (.int .i64 (gD x))/\Ac [] wz w') (hlb:∀x,gD x<=1000)
    (hF:Zj cs J) (hI0:I 0 []) (hIJ:∀n s,I n s->J s) (hround:∀n s,I n s->I n (DI cs gD n s).1/\((DI cs gD n s).2=false->I (n+1) (DI cs gD n s).1)/\((DI cs gD n s).2=true->s.length<(DI cs gD n s).1.length)):
    Calls prog 111 #[.pointer (some ⟨pb,0,none⟩)] w λr w'=>∃(ad:Option Addr) (cp:Nat) (fs:List CF),r=.returned (.slice ad fs.length cp)/\Fa w' (.slice ad fs.length cp) fs/\I 7 (fs.map CF.f)/\Ac [] w w':=by
  have HLv:=Ab (Up gD pb lad lcp cs w hP hR hlen hlev)
  have HP:=Ab hP
  have HRo:=Ab hR
  have HFit:=Ab hF
  have HIJ:=Ab hIJ
  have HRd:=Ab hround
  have HI0:=Ab hI0
  have HLb:=Ab hlb
  clear hP hR hlev hF hIJ hround hI0 hlb
  go_enter func111,ntmps111
  go_wp2_with fail
  refine(Aa HLv).mono ?_
  rintro _ w1 ⟨aad,acp,rfl,hlr,k1⟩
  have HLr:=Ab hlr
  have HP1:=Ab ((Aa HP).kept k1 (by simp))
  have HR1:=Ab ((Aa HRo).kept k1)
  have HK1:=Ab k1
  clear HLv HP HRo hlr k1
  go_wp2_with fail
  go_loopg [3,5] 7 (λgk sv i wr=>∃(n:Nat) (fs:List CF) (sad:Option Addr) (scp:Nat),sv=.slice sad fs.length scp/\i=.int .i64 n/\n<=7/\gk=7-n/\Hid (I n (fs.map CF.f))/\Hid (Fa wr (.slice sad fs.length scp) fs)/\Hid (Ac [] w1 wr))
  case atStart=>exact⟨0,[],none,0,rfl,rfl,by omega,rfl,HI0,⟨ck _ _ _ _,by simp⟩,Ac.refl _ _⟩
  case round=>
    obtain⟨n,fs,sad,scp,rfl,rfl,hn,hgn,HI,HS,HK⟩:=hrel
    have HGn:=Ab hgn
    clear hgn
    by_cases hn6:n<=6
    · have hn6i:(n:Int)<=6:=by omega
      go_wp2_with fail
      go_loopg [3,6] (6913-fs.length) (λgk sv mv wr=>∃(mb:Bool) (fs:List CF) (sad:Option Addr) (scp:Nat),sv=.slice sad fs.length scp/\mv=.bool mb/\gk=(if mb then 6913-fs.length else 0)/\Hid (if mb then I n (fs.map CF.f)else I (n+1) (fs.map CF.f))/\Hid (Fa wr (.slice sad fs.length scp) fs)/\Hid (Ac [] w1 wr))
      case atStart=>exact⟨true,fs,sad,scp,rfl,rfl,rfl,HI,HS,HK⟩
      case round=>
        clear HI HS HK
        obtain⟨mb,fs,sad,scp,rfl,rfl,hgm,HI,HS,HK⟩:=hrel
        have HGm:=Ab hgm
        clear hgm
        cases mb with
        |false=>
          have HI2:Hid (I (n+1) (fs.map CF.f)):=Aa HI
          clear HI
          go_wp2
          go_roundg (7-(n+1))
          case measure=>have:=Aa HGn;omega
          case rel=>exact⟨n+1,fs,sad,scp,rfl,by go_num,by omega,rfl,HI2,HS,HK⟩
        |true=>
          have HI2:Hid (I n (fs.map CF.f)):=Aa HI
          have HJ0:=Ab (Aa HIJ n _ (Aa HI2))
          clear HI
          obtain⟨S0,hS0⟩:∃S0,fs.map CF.f=S0:=⟨_,rfl⟩
          have HS0l:Hid (fs.length=S0.length):=by show _=_;rw[<-hS0,bX]
          have HS0:=Ab hS0
          clear hS0
          go_wp2_with fail
          go_loopg [3,6,7] cs.length (λgk sv mv i wr=>∃(k:Nat) (mb:Bool) (fs:List CF) (sad:Option Addr) (scp:Nat),sv=.slice sad fs.length scp/\mv=.bool mb/\i=.int .i64 k/\k<=cs.length/\gk=cs.length-k/\Hid ((cs.take k).foldl (Cr gD n) (S0,false)=(fs.map CF.f,mb))/\Hid (J (fs.map CF.f))/\Hid (Fa wr (.slice sad fs.length scp) fs)/\Hid (Ac [] w1 wr))
          case atStart=>exact⟨0,false,fs,sad,scp,rfl,rfl,rfl,by omega,rfl,(by show _=_;rw[<-Aa HS0];rfl),HJ0,HS,HK⟩
          case round=>
            clear HS HK
            obtain⟨k,mb,fs1,sad1,scp1,rfl,rfl,rfl,hk,hgk,HC,HJ,HS,HK⟩:=hrel
            have HGk:=Ab hgk
            clear hgk
            have p0:=((Aa HP1).kept (Aa HK) (by simp)).cell 0
            simp at p0
            by_cases gK:k<cs.length
            · obtain⟨g,cap,hdd,adh,cph,adb,cpb,bl,a5,hec,hck,hin,d0,d1,d2,d3⟩:=JU ((Aa HR1).kept (Aa HK)) k gK
              simp only[bK]at hec
              obtain⟨rfl,_,rfl⟩:=hec
              obtain⟨ga,capa,hea,l0⟩:=aM (Ad (Aa HLr) (Aa HK) (by simp)) k gK
              simp only[bK]at hea
              obtain⟨rfl,_,rfl⟩:=hea
              have hcm:cs[k]∈cs:=bL gK
              rw[hck]at l0 hcm
              simp only at l0
              have HSt:Hid ((cs.take (k+1)).foldl (Cr gD n) (S0,false)=Cr gD n (fs1.map CF.f,mb) ⟨hdd,.slice adh hdd.args.length cph,.slice adb bl.length cpb,bl,a5⟩):=by
                show _=_
                rw[bM gK,cY,Aa HC,hck]
                rfl
              have hlb:=Aa HLb hdd.name
              have hkr0:(0:Int)<=(k:Int):=by omega
              have hkr1:(k:Int)<(cs.length:Int):=by omega
              obtain⟨lv,hlv⟩:∃lv,gD hdd.name=lv:=⟨_,rfl⟩
              rw[hlv]at l0 hlb
              by_cases hln:lv=n
              · have hneb:((lv:Int) !=(n:Int))=false:=by simp[hln]
                have HCin:=Ab hin
                have HCk:=Ab hck
                obtain⟨c,hc⟩:∃c:A7,c=⟨hdd,.slice adh hdd.args.length cph,.slice adb bl.length cpb,bl,a5⟩:=⟨_,rfl⟩
                rw[<-hc]at hcm HSt
                have hcb:Am c=bl.map Prod.fst:=by rw[hc];rfl
                have hcl:c.bl=bl:=by rw[hc]
                have hch:c.head=hdd:=by rw[hc]
                have hcn:gD c.head.name=n:=by rw[hch,hlv,hln]
                have HSt2:Hid ((cs.take (k+1)).foldl (Cr gD n) (S0,false)=(Br (bl.map Prod.fst) (fs1.map CF.f)).foldl (GE c) (fs1.map CF.f,mb)):=by
                  have h:=Aa HSt
                  rw[h]
                  show Cr gD n (fs1.map CF.f,mb) c=_
                  unfold Cr
                  rw[if_pos hcn,hcb]
                have hl1:fs1.length<=6912:=by have:=(Aa HFit).len _ (Aa HJ);rw[bX]at this;exact this
                have HSol:=Ab (PW adb cpb bl sad1 scp1 fs1 wr hin.body hin.lits (Aa HS) (by have:=(Aa HFit).body c hcm;rw[hcl]at this;exact this) hl1 (by have:=(Aa HFit).args c hcm;rw[hcl]at this;exact this) (by have:=(Aa HFit).lit _ (Aa HJ) c hcm;rw[hcb,hcl]at this;exact this))
                have HFa:Hid (∀e∈Br (bl.map Prod.fst) (fs1.map CF.f),TN (AA e hdd)/\e.length=26/\∀s,J s->J (Bp s (AA e hdd))):=by
                  intro e he
                  have h1:=(Aa HFit).fact _ (Aa HJ) c hcm e (by rw[hcb];exact he)
                  rw[hch]at h1
                  refine⟨h1,QY e he,λs hs=>?_⟩
                  have h2:=(Aa HFit).add _ s (Aa HJ) hs c hcm e (by rw[hcb];exact he)
                  rw[hch]at h2
                  exact h2
                have HHd:Hid ((∀t∈hdd.args,Ni t)/\hdd.args.length<=1000):=by have:=(Aa HFit).head c hcm;rw[hch]at this;exact this
                have HAdd:Hid (∀a e,GE c a e=if FK a.1 (AA e hdd)then a else(Bp a.1 (AA e hdd),true)):=λa e=>by unfold GE;rw[hch]
                obtain⟨LE,hLE⟩:∃LE,Br (bl.map Prod.fst) (fs1.map CF.f)=LE:=⟨_,rfl⟩
                rw[hLE]at HSt2 HSol HFa
                generalize GE c=AH at HSt2 HAdd
                clear HSt HC hck hin hcm hc hcb hcl hch hcn hLE hlv
                go_wp2_with fail
                refine(Aa HSol).mono ?_
                rintro _ w5 ⟨lad5,lcp5,rfl,hE5,k5⟩
                have HE5:=Ab hE5
                have HK5:=Ab ((Aa HK).trans k5)
                have HS5:=Ab ((Aa HS).kept k5)
                have hw5:=k5.size
                clear HSol hE5 k5 HS HK
                go_wp2_with fail
                go_loopg [3,6,9] LE.length (λgk sv mv i wr=>∃(m:Nat) (mb2:Bool) (fs2:List CF) (sad2:Option Addr) (scp2:Nat),sv=.slice sad2 fs2.length scp2/\mv=.bool mb2/\i=.int .i64 m/\m<=LE.length/\gk=LE.length-m/\Hid ((LE.take m).foldl AH (fs1.map CF.f,mb)=(fs2.map CF.f,mb2))/\Hid (J (fs2.map CF.f))/\Hid (Fa wr (.slice sad2 fs2.length scp2) fs2)/\Hid (Ac [] w5 wr))
                case atStart=>exact⟨0,mb,fs1,sad1,scp1,rfl,rfl,rfl,by omega,rfl,rfl,HJ,HS5,Ac.refl _ _⟩
                case round=>
                  clear HS5
                  obtain⟨m,mb2,fs2,sad2,scp2,rfl,rfl,rfl,hm,hgm,HA,HJ2,HS,HK⟩:=hrel
                  have HGm2:=Ab hgm
                  clear hgm
                  by_cases hml:m<LE.length
                  · obtain⟨gl,cpl,hel,hcl5,r0⟩:=Lo ((Aa HE5).kept (Aa HK) (by simp)) m hml
                    simp only[bK]at hel
                    obtain⟨rfl,_,rfl⟩:=hel
                    obtain⟨e,he⟩:∃e,LE[m]=e:=⟨_,rfl⟩
                    obtain⟨hRf,he26,hJa⟩:=Aa HFa e (by rw[<-he];exact bL hml)
                    have HJa:=Ab (hJa _ (Aa HJ2))
                    have HRf:=Ab hRf
                    have HTm:Hid ((LE.take (m+1)).foldl AH (fs1.map CF.f,mb)=if FK (fs2.map CF.f) (AA e hdd)then(fs2.map CF.f,mb2)else(Bp (fs2.map CF.f) (AA e hdd),true)):=by
                      show _=_
                      rw[bM hml,cY,Aa HA,he]
                      exact Aa HAdd _ _
                    have hLm:=V3 (Aa HE5).row
                    have hmr0:(0:Int)<=(m:Int):=by omega
                    have hmr1:(m:Int)<(LE.length:Int):=by omega
                    have HFc:Hid (∀wz,Ac [] wr wz->Calls prog 48 #[.agg (Ai e).toArray,.agg #[.string hdd.name,.slice adh hdd.args.length cph,.int .i64 hdd.at_]] wz λr w'=>∃ad cp,r=.returned (.agg (B7 ⟨AA e hdd,.slice ad hdd.args.length cp⟩).toArray)/\Hv w' ⟨AA e hdd,.slice ad hdd.args.length cp⟩/\(∀q,(Value.slice ad hdd.args.length cp).ownBlock=some q->wz.heap.size<=q)/\Ac [] wz w'):=by
                      intro wz hkz
                      have hcv:=((Aa HR1).kept (((Aa HK5).trans (Aa HK)).trans hkz)).each _ (bL gK)
                      rw[Aa HCk]at hcv
                      exact QM e hdd adh cph wz he26 hcv.args (Aa HHd).2 (Aa HHd).1
                    have HCs:Hid (∀wz,Ac [] wr wz->wz.rangeAt gl (m*26) (Ai e)/\wz.cell? ⟨pb,0,none⟩=some (.slice (some ⟨g,0,none⟩) cs.length lcp)/\wz.cell? ⟨g,k*5,none⟩=some (.string hdd.name)/\wz.cell? ⟨g,k*5+1,none⟩=some (.slice adh hdd.args.length cph)/\wz.cell? ⟨g,k*5+2,none⟩=some (.int .i64 hdd.at_)):=by
                      intro wz hkz
                      have hkw:=((Aa HK5).trans (Aa HK)).trans hkz
                      obtain⟨g',cap',hd',adh',cph',adb',cpb',bl',a5',hec',hck',_,f0,f1,f2,f3⟩:=JU ((Aa HR1).kept hkw) k gK
                      simp only[bK,bR,cI]at hec'
                      obtain⟨⟨rfl,_,_⟩,_,_⟩:=hec'
                      rw[Aa HCk]at hck'
                      simp only[A7.mk.injEq,bK]at hck'
                      obtain⟨rfl,⟨rfl,_,rfl⟩,_⟩:=hck'
                      have q0:=((Aa HP1).kept hkw (by simp)).cell 0
                      simp at q0
                      obtain⟨g',cp',he',_,r'⟩:=Lo ((Aa HE5).kept ((Aa HK).trans hkz) (by simp)) m hml
                      simp only[bK,bR,cI]at he'
                      obtain⟨⟨rfl,_,_⟩,_,_⟩:=he'
                      rw[he]at r'
                      exact⟨r',q0,f0,f1,f2⟩
                    clear he r0 HA hJa hRf
                    have hl2:fs2.length<=6912:=by have:=(Aa HFit).len _ (Aa HJ2);rw[bX]at this;exact this
                    have HHas:Hid (∀v wz,Ac [] wr wz->Hv wz ⟨AA e hdd,v⟩->Calls prog 21 #[.slice sad2 fs2.length scp2,.agg (B7 ⟨AA e hdd,v⟩).toArray] wz λe' w'=>e'=.returned (.bool (FK (fs2.map CF.f) (AA e hdd)))/\Ac [] wz w'):=by
                      intro v wz hkz hrf
                      have h:=OV sad2 scp2 fs2 ⟨AA e hdd,v⟩ wz ((Aa HS).kept hkz) hrf (by omega) (Aa HRf)
                      have hh:(fs2.any λp=>Gn p.f (AA e hdd))=FK (fs2.map CF.f) (AA e hdd):=by unfold FK;rw[fB];rfl
                      rw[hh]at h
                      exact h
                    have HWi:Hid (∀v wz,Ac [] wr wz->Hv wz ⟨AA e hdd,v⟩->Calls prog 57 #[.slice sad2 fs2.length scp2,.agg (B7 ⟨AA e hdd,v⟩).toArray] wz λe' w'=>∃(ad:Option Addr) (cp:Nat) (fs3:List CF),e'=.returned (.slice ad fs3.length cp)/\Fa w' (.slice ad fs3.length cp) fs3/\fs3.map CF.f=Bp (fs2.map CF.f) (AA e hdd)/\Ac [] wz w'):=by
                      intro v wz hkz hrf
                      refine(P2 sad2 scp2 fs2 ⟨AA e hdd,v⟩ wz ((Aa HS).kept hkz) hrf (by omega) (Aa HRf)).mono ?_
                      rintro e' w' ⟨ad,cp,rfl,h1,h2⟩
                      exact⟨ad,cp,_,rfl,h1,Ms fs2 ⟨AA e hdd,v⟩,h2⟩
                    have HRv:Hid (∀ad cp,B7 ⟨AA e hdd,.slice ad hdd.args.length cp⟩=[.string hdd.name,.slice ad hdd.args.length cp]):=λad cp=>rfl
                    obtain⟨EK,hEK⟩:∃EK,Ai e=EK:=⟨_,rfl⟩
                    have hEl:EK.length=26:=by rw[<-hEK,CV,he26]
                    rw[hEK]at HFc HCs
                    generalize AA e hdd=FP at HFc HTm HHas HWi HRv HJa HRf
                    clear hEK
                    have hu:=underlying90
                    have hi:(prog.info? 90).map (·.size)=some EK.length:=by rw[hEl];exact Tryz.em
                    obtain⟨nm,hnm⟩:∃nm,hdd.name=nm:=⟨_,rfl⟩
                    obtain⟨ja,hja⟩:∃ja,hdd.at_=ja:=⟨_,rfl⟩
                    obtain⟨na,hna⟩:∃na,hdd.args.length=na:=⟨_,rfl⟩
                    rw[hnm,hja,hna]at HFc HCs
                    rw[hnm,hna]at HRv
                    clear hnm hja hna d0 d1 d2 d3 l0
                    go_wp2_with fail
                    go_region_held3 (λwz=>Ac [] wr wz/\wz.rangeAt gl (m*26) EK/\wz.cell? ⟨pb,0,none⟩=some (.slice (some ⟨g,0,none⟩) cs.length lcp)/\wz.cell? ⟨g,k*5,none⟩=some (.string nm)/\wz.cell? ⟨g,k*5+1,none⟩=some (.slice adh na cph)/\wz.cell? ⟨g,k*5+2,none⟩=some (.int .i64 ja)) ((go_split_ands;refine(fun(hkz:Ac [] wr _)=>And.intro hkz (Aa HCs _ hkz)) ?_;repeat (first|assumption|exact Ac.refl [] _|refine Ac.drew ?_|refine Ac.alloc ?_ _|(refine Ac.setCell ?_ (Or.inr (by first|omega|(simp;done)|(simp;omega))) _)))) ((go_at_call 48;refine(Aa HFc _ (by go_split_ands;assumption)).mono ?_;rintro _ w3 ⟨fad,fcp,rfl,hrf,hrq,k3⟩;rw[Aa HRv];have hk3:Ac [] wr w3:=(by go_split_ands;exact Ac.trans (by assumption) k3);(try (have hb4:=Xv k3;have y0:=hb4.cell 0;have y1:=hb4.cell 1;have yf:=hb4.frozen;simp at y0 y1));have hs3:=hk3.size;have HRF:=Ab hrf;have HRQ:=Ab hrq;have HK3:=Ab k3;clear k3 hrf hrq))
                    all_goals
                      rename_i hHeldX
                      have HKW:=Ab hHeldX.1
                      clear hHeldX HFc HCs
                      first
                        | (have HBW:Hid (AE ((w3.setCell ⟨wr.heap.size,0,none⟩ (.string nm)).setCell ⟨wr.heap.size,1,none⟩ (.slice fad na fcp)) wr.heap.size [.string nm,.slice fad na fcp] 43):=(hb4.set 0 _).set 1 _
                           have hne:(Value.slice fad na fcp).ownBlock≠some wr.heap.size:=λh=>by have:=Aa HRQ _ h;simp at this;omega
                           have HRW:Hid (Hv ((w3.setCell ⟨wr.heap.size,0,none⟩ (.string nm)).setCell ⟨wr.heap.size,1,none⟩ (.slice fad na fcp)) ⟨FP,.slice fad na fcp⟩):=Ag (Ag (Aa HRF) (p:=⟨wr.heap.size,0,none⟩) hne _) (p:=⟨wr.heap.size,1,none⟩) hne _
                           obtain⟨B,hB⟩:∃B,wr.heap.size=B:=⟨_,rfl⟩
                           rw[hB]at HBW HKW HRW⊢
                           clear hb4 y0 y1 yf hs3 HK3 HRF HRQ hne hB
                           generalize(w3.setCell ⟨B,0,none⟩ (.string nm)).setCell ⟨B,1,none⟩ (.slice fad na fcp)=W at HBW HKW HRW⊢)
                        | (have HBW:Hid (AE (w3.alloc (.cells #[.string nm,.slice fad na fcp] 43)) w3.heap.size [.string nm,.slice fad na fcp] 43):=AE.new w3 [.string nm,.slice fad na fcp] 43
                           have HRW:Hid (Hv (w3.alloc (.cells #[.string nm,.slice fad na fcp] 43)) ⟨FP,.slice fad na fcp⟩):=(Aa HRF).kept ((Ac.refl [] w3).alloc _)
                           obtain⟨B,hB⟩:∃B,w3.heap.size=B:=⟨_,rfl⟩
                           rw[hB]at HBW⊢
                           clear hs3 HK3 HRF HRQ hB
                           generalize w3.alloc (.cells #[.string nm,.slice fad na fcp] 43)=W at HBW HKW HRW⊢)
                      clear hk3
                      have x0:=(Aa HBW).cell 0
                      have x1:=(Aa HBW).cell 1
                      simp at x0 x1
                      have HC1:=Ab (Aa HHas _ W (Aa HKW) (Aa HRW))
                      rw[Aa HRv]at HC1
                      obtain⟨HB,hHB⟩:∃HB,FK (fs2.map CF.f) FP=HB:=⟨_,rfl⟩
                      rw[hHB]at HC1 HTm
                      clear hHB HHas
                      go_wp2_with fail
                      refine(Aa HC1).mono ?_
                      rintro _ w6 ⟨rfl,k6⟩
                      have HK6:=Ab ((Aa HKW).trans k6)
                      have HBW6:=(Aa HBW).kept k6 (by simp)
                      have z0:=HBW6.cell 0
                      have z1:=HBW6.cell 1
                      simp at z0 z1
                      have HRW6:=Ab ((Aa HRW).kept k6)
                      clear HBW6 x0 x1 HBW HKW HRW HC1 k6
                      cases HB with
                      |true=>
                        have HT2:Hid ((LE.take (m+1)).foldl AH (fs1.map CF.f,mb)=(fs2.map CF.f,mb2)):=Aa HTm
                        have HK7:=Ab ((Aa HK).trans (Aa HK6))
                        have HS7:=Ab ((Aa HS).kept (Aa HK6))
                        clear HTm HS HK HWi HJa HRW6
                        go_wp2
                        go_roundg (LE.length-(m+1))
                        case measure=>have:=Aa HGm2;omega
                        case rel=>exact⟨m+1,mb2,fs2,sad2,scp2,rfl,rfl,by go_num,by omega,rfl,HT2,HJ2,HS7,HK7⟩
                      |false=>
                        have HC2:=Ab (Aa HWi _ w6 (Aa HK6) (Aa HRW6))
                        rw[Aa HRv]at HC2
                        clear HWi
                        go_wp2_with fail
                        refine(Aa HC2).mono ?_
                        rintro _ w7 ⟨ad7,cp7,fs3,rfl,hs7,hm7,k7⟩
                        have HT2:Hid ((LE.take (m+1)).foldl AH (fs1.map CF.f,mb)=(fs3.map CF.f,true)):=by
                          show _=_
                          rw[hm7]
                          exact Aa HTm
                        have HJ7:Hid (J (fs3.map CF.f)):=by rw[hm7];exact HJa
                        have HK7:=Ab (((Aa HK).trans (Aa HK6)).trans k7)
                        have HS7:=Ab hs7
                        clear HTm HS HK HJa HRW6 HC2 hs7 hm7 k7 z0 z1
                        go_wp2
                        go_roundg (LE.length-(m+1))
                        case measure=>have:=Aa HGm2;omega
                        case rel=>exact⟨m+1,true,fs3,ad7,cp7,rfl,rfl,by go_num,by omega,rfl,HT2,HJ7,HS7,HK7⟩
                  · have HSt3:Hid ((cs.take (k+1)).foldl (Cr gD n) (S0,false)=(fs2.map CF.f,mb2)):=by
                      have h:=Aa HA
                      rw[bP (by omega)]at h
                      exact(Aa HSt2).trans h
                    have HK6:=Ab ((Aa HK5).trans (Aa HK))
                    clear HA HSt2
                    go_wp2
                    go_roundg (cs.length-(k+1))
                    case measure=>have:=Aa HGk;omega
                    case rel=>exact⟨k+1,mb2,fs2,sad2,scp2,rfl,rfl,by go_num,by omega,rfl,HSt3,HJ2,HS,HK6⟩
              · have hneb:((lv:Int) !=(n:Int))=true:=by simp[bne];omega
                have HSt2:Hid ((cs.take (k+1)).foldl (Cr gD n) (S0,false)=(fs1.map CF.f,mb)):=by
                  have h:=Aa HSt
                  unfold Cr at h⊢
                  rw[if_neg (by simp only;rw[hlv];exact hln)]at h
                  exact h
                clear HSt HC hck hin hcm hlv
                go_wp2
                go_roundg (cs.length-(k+1))
                case measure=>have:=Aa HGk;omega
                case rel=>exact⟨k+1,mb,fs1,sad1,scp1,rfl,rfl,by go_num,by omega,rfl,HSt2,HJ,HS,HK⟩
            · have HC2:Hid (DI cs gD n S0=(fs1.map CF.f,mb)):=by
                have h:=Aa HC
                rw[bP (by omega)]at h
                exact h
              have HRr:Hid ((if mb then I n (fs1.map CF.f)else I (n+1) (fs1.map CF.f))/\(mb=true->fs.length<fs1.length)):=by
                have hI:=Aa HI2
                rw[Aa HS0]at hI
                have h:=Aa HRd n S0 hI
                rw[Aa HC2]at h
                refine⟨?_,λhm=>?_⟩
                · cases mb with
                  |true=>exact h.1
                  |false=>exact h.2.1 rfl
                · have:=h.2.2 hm
                  rw[bX]at this
                  have:=Aa HS0l
                  omega
              have hl1:fs1.length<=6912:=by have:=(Aa HFit).len _ (Aa HJ);rw[bX]at this;exact this
              have HRI:=Ab (Aa HRr).1
              have hgt:=(Aa HRr).2
              clear HC HC2 HRr
              go_wp2
              go_roundg (if mb then 6913-fs1.length else 0)
              case measure=>
                have h1:=Aa HGm
                rw[if_pos True.intro]at h1
                cases mb with
                |true=>have:=hgt rfl;simp;omega
                |false=>have:=(Aa HFit).len _ (Aa HJ0);rw[bX]at this;simp;omega
              case rel=>exact⟨mb,fs1,sad1,scp1,rfl,rfl,rfl,HRI,HS,HK⟩
    · have hn7:n=7:=by omega
      subst hn7
      go_wp2
      go_ret
      exact⟨sad,scp,fs,rfl,Aa HS,Aa HI,(Aa HK1).trans (Aa HK)⟩
def RY(cs:List A7)(s:List Ah):Prop:=E8 s/\∀f∈s,Eg cs f
theorem I7.gi{cs:List A7}{a:cR->Nat}{n:Nat}{s:List Ah}(h:I7 cs a n s):RY cs s:=⟨h.en,h.gQ⟩
theorem CE.small{cs:List A7}(h:CE cs):cs.length<=12/\∀c∈cs,c.bl.length<=3/\c.head.args.length<=2/\∀p∈c.bl,Bt p=false:=by
 have d:∀k (b:k<cs.length),k<12/\cs[k].bl.length<=3/\cs[k].head.args.length<=2/\∀p∈cs[k].bl,Bt p=false:=by
  intro k b;have a:=h.each k b;unfold BS at a;by_cases e:12<=k\/3<cs[k].bl.length
  .rw[if_pos e]at a;cases a
  rw[if_neg e]at a;by_cases f:2<cs[k].head.args.length
  .rw[if_pos f]at a;cases a
  rw[if_neg f]at a;cases a3:cs[k].bl.any Bt with
  |true=>rw[a3,if_pos rfl]at a;cases a
  |false=>
   refine⟨by omega,by omega,by omega,λp g=>?_⟩;rw[dy]at a3;cases hm:Bt p with
   |false=>rfl
   |true=>exact absurd hm (a3 p g)
 refine⟨?_,λc j=>?_⟩
 .by_cases i:cs.length<=12
  .exact i
  .have:=(d 12 (by omega)).1;omega
 .obtain⟨k,b,rfl⟩:=cN j;exact(d k b).2
theorem T1(cs:List A7)(h:∀c∈cs,c.head.args.length<=2):(consts cs).length<=cs.length*2:=by
 unfold consts
 induction cs with
 |nil=>simp
 |cons c cs ih=>
  have f:=ih (λd a=>h d (cF _ a));have b:=h c (dg ..);have e:=dw (λt:AG=>t.v==0) c.head.args;simp only[cg,cc,bX,bU];omega
theorem KA(l:List cR):∀n,(Hd l n).length=l.length^n
 |0=>rfl
 |n+1=>by
  have ih:=KA l n;unfold Hd;have:∀m:List cR,(m.flatMap λx=>(Hd l n).map (x:: ·)).length=m.length*l.length^n:=by
   intro m
   induction m with
   |nil=>simp
   |cons x m ih2=>
    simp only[cg,cc,bX,ih2,ih,bU,dS,Nat.one_mul];omega
  rw[this l,Nat.pow_succ,Nat.mul_comm]
theorem Tz{cs:List A7}(l:cs.length<=12)(h:∀c∈cs,c.head.args.length<=2):(Rt cs).length<=6912:=by
 have i:(consts cs).length<=24:=by have:=T1 cs h;omega
 have f:∀n,n<=2->(Hd (consts cs) n).length<=576:=by
  intro n j;rw[KA]
  match n,j with
  |0,_=>simp
  |1,_=>simp;omega
  |2,_=>
   have:(consts cs).length^2<=24^2:=Nat.pow_le_pow_left i 2;omega
 have e:∀a:List A7,(∀c∈a,c.head.args.length<=2)->(a.flatMap λc=>(Hd (consts cs) c.head.args.length).map (Ah.mk c.head.name)).length<=a.length*576:=by
  intro a
  induction a with
  |nil=>simp
  |cons c a ih=>
   intro b;have m:=ih (λd g=>b d (cF _ g));have k:=f _ (b c (dg ..));simp only[cg,cc,bX,bU,dS,Nat.one_mul];omega
 have:=e cs h;unfold Rt;omega
theorem G4{cs:List A7}(hF:Tf cs):∀x∈consts cs,0<x.size/\x.size<=1000000:=by
 intro x a;unfold consts at a;obtain⟨c,g,b⟩:=cO.1 a;obtain⟨t,f,rfl⟩:=bV.1 b;obtain⟨e,d⟩:=cn.1 f;exact(hF.full c g).head t e (by simpa using d)
theorem Dq.fit{t:AG}(h:Dq t):Ni t:=by
 rcases h with h|h
 .exact Or.inl h.1
 .exact Or.inr ⟨h.1,h.2.1⟩
theorem DZ.fit{cs:List A7}(h:DZ cs)(hF:Tf cs):Zj cs (RY cs):=by
 obtain⟨N,q⟩:=h.order.small;have E:∀s,RY cs s->∀f∈s,Ku f:=λs b f l=>A4.fl ((b.2 f l).canon h.prog.gE)
 have O:∀s,RY cs s->∀c∈cs,∀e∈(Am c).foldl (Cq s) [BX],∀t,Fq (Am c) t->t.v≠0->0<(AR e t).size/\(AR e t).size<=1000000:=by
  intro s b c a e d t g i;obtain⟨_,_,_,_,D⟩:=Dn (E s b) (Am c) [BX] (λe d=>by simp at d;rw[d];rfl) (h.prog.fl.args c a) e d;rcases g with j|⟨y,Q,n,u,S,T⟩
  .exact absurd j i
  .have j:=(b.2 _ (D y Q n).1).args (AR e u) (cm S);have m:=G4 hF _ j;(have F:AR e u=AR e t:=by unfold AR;rw[T,if_neg i,if_neg i]);rw[F]at m;exact m
 have H:∀s,RY cs s->∀c∈cs,∀e∈(Am c).foldl (Cq s) [BX],∀p∈c.bl,∀t∈Au p,Fq (Am c) t->0<(AR e t).size/\(AR e t).size<=1000000:=by
  intro s b c a e d p k t g D;by_cases i:t.v=0
  .have j:=(hF.full c a).body p k t g i;unfold AR;rw[if_pos i];exact j
  .exact O s b c a e d t D i
 refine⟨λs b=>?_,λc a=>(q c a).1,λc a p k n=>?_,λs b c a e d p k n=>?_,λc a=>⟨λt g=>((h.gE c a).args t g).fit,by have:=(q c a).2.1;omega⟩,λs b c a e d=>?_,λP s i b c a e d=>?_⟩
 .have:=LQ s (Rt cs) (b.1.nodup λf l=>(b.2 f l).canon h.prog.gE) λf l=>(b.2 f l).mem
  have:=Tz N (λc a=>(q c a).2.1);omega
 .have r:=(q c a).2.2 p k;refine⟨h.prog.fl.args c a p.1 (cm k) n,?_⟩;unfold Bt at r;have m:¬2<p.1.A.args.length:=of_decide_eq_false r;omega
 .have r:=(q c a).2.2 p k;unfold Bt at r;have m:¬2<p.1.A.args.length:=of_decide_eq_false r;have K:p.1∈Am c:=cm k;have o:=h.lits c a p.1 K;have I:=h.prog.fl.safe c a p.1 K n;refine⟨λB=>?_,λz=>?_⟩
  ·(have C:(p.1.kind==33)=true:=by rw[n]at B;simpa using B);unfold CN at o;rw[if_pos B]at o;(have w:Au p=p.1.A.args:=by unfold Au KT;rw[B];rfl);refine⟨λt g=>(o.args t g).fit,by omega,⟨by simp[AA];omega,λx G=>?_⟩⟩;obtain⟨t,g,rfl⟩:=bV.1 G;exact H s b c a e d p k t (by rw[w];exact g) (I.1 C t g)
  ·(have C:(p.1.kind==33)=false:=by rw[n]at z;simpa using z);unfold CN at o;rw[if_neg (by rw[z];simp)]at o;(have w:Au p=[p.1.L,p.1.R]:=by unfold Au KT;rw[z];rfl);have J:=H s b c a e d p k p.1.L (by rw[w];simp) (I.2 C).1;have M:=H s b c a e d p k p.1.R (by rw[w];simp) (I.2 C).2;exact⟨o.1.fit,o.2.1.fit,J.1,J.2,M.1,M.2⟩
 .have j:=O0 h.prog.fl b.2 (E s b) a d;refine⟨?_,λx G=>G4 hF x (j.args x G)⟩;have:=(q c a).2.1;simp[AA];omega
 .have j:=O0 h.prog.fl i.2 (E P i) a d;have m:=Ex (j.canon h.prog.gE) b.1 (λf l=>(b.2 f l).canon h.prog.gE);refine⟨m.1,λf l=>?_⟩;rcases(m.2.2 f).1 l with F|rfl
  .exact b.2 f F
  .exact j
theorem N3(s:cR)(at_:Nat)(a:Bool):(Ba s at_ a).1.size<=s.size:=by
 unfold Ba;split
 .exact b8 _
 .split
  .exact b8 _
  .rw[eI];omega
theorem Ut(s:cR)(e:Nat)(c:Option Addr)(b:Nat)(cs:List A7)(w:World)(k:AE w e [.slice c cs.length b] 76)(m:Ci w (.slice c cs.length b) cs)(hF:Tf cs)(a:(AD s (Af s 0)).2.2=false)(y:cs.map A7.erase=(AD s (Af s 0)).1)(q:Cg cs=(0,0)):
  Calls prog 111 #[.pointer (some ⟨e,0,none⟩)] w λr j=>∃(p:Option Addr) (o:Nat) (d:List CF),r=.returned (.slice p d.length o)/\Fa j (.slice p d.length o) d/\I7 cs (B0 cs 6) 7 (d.map CF.f)/\Ac [] w j:=by
 have g:=Jj a y q;exact Xi (B0 cs 6) (I7 cs (B0 cs 6)) (RY cs) e c b cs w k m hF.len
  (λx v i=>XM e c b cs hF.len hF.body 6 x v (k.kept i (by simp)) (m.kept i) (by omega)) (λx=>by have:=RG cs 6 x;omega)
  (g.fit hF) (I7.start cs _) (λn t h=>h.gi) (λn t h=>by
   have a:=g.round h
   exact⟨a.1,λu=>by have l:=a.2.1 u;rw[l.1];exact l.2,a.2.2.1⟩)
