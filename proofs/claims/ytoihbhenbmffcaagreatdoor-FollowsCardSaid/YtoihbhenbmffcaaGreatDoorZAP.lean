import Derived.Test.YtoihbhenbmffcaaGreatDoorZAO
set_option linter.unusedVariables false
set_option linter.unusedSimpArgs false
set_option maxHeartbeats 6400000
namespace Go.Proofs.YtoihbhenbmffcaaGreatDoor
open Go.RowKit
open Go.Proofs.Tryz
theorem SX{cs:List Bf}{k:Nat}(f:k<cs.length)(d:∀j (a:j<cs.length),j<k->BN cs j cs[j]=none)(e:IF cs[k]):∀c∈cs.take (k+1),IF c:=by
 intro c b;obtain⟨j,a,rfl⟩:=List.mem_iff_getElem.1 b;simp only[aK]at a;rw[di];by_cases h:j<k
 ·exact(Qj (d j (by omega) h)).2
 ·have:j=k:=by omega
  subst this;exact e
structure KW(w0:World) where
 wk:World
 kept:Ac [] w0 wk
theorem KW.some(w0:World):Nonempty (KW w0):=⟨⟨w0,Ac.refl _ _⟩⟩
theorem Fz{P:Program}{d:Nat}{Q:Exit->Act->World->Prop}{a:Act}{w w0:World}{l:List Oper}(e:P.follows .mixedOrders=true)(g:Region.lexB .any l.toArray=true)(c:Ac [] w0 w)
  (h:wpQuiet P l.toArray (λb=>∃n:KW w0,b=n.wk) (λf=>∀b,(∃n:KW w0,b=n.wk)->Q .normal f b) l a):(Code.region d l.toArray true).wp P Q a w:=
 wp_region_quiet (C:=λb=>∃n:KW w0,b=n.wk) e g ⟨⟨_,c.drew⟩,rfl⟩ (by simpa using h)
theorem Calls.class_of{P:Program}{f:FuncId}{args:Array Value}{w0:World}{n:KW w0}{v:Value}
  (h:Calls P f args n.wk λe a=>e= .returned v/\Ac [] n.wk a):Calls P f args n.wk λe b=>e= .returned v/\∃m:KW w0,b=m.wk:=
 h.mono λ_ a ⟨he,hk⟩=>⟨he,⟨⟨a,n.kept.trans hk⟩,rfl⟩⟩
set_option maxRecDepth 100000
theorem VS(pb:Nat)(lv:Value)(cs:List Bf)(w:World)(hP:Aw w pb [lv] 76)(hR:Cl w lv cs)(hF:UR cs):
  Calls prog 45 #[.pointer (some ⟨pb,0,none⟩)] w λe w'=>e= .returned (.tuple #[.int .i64 (Cj cs).1, .int .i64 (Cj cs).2])/\Ac [] w w':=by
 obtain⟨ad,cap,rfl⟩:=Ak hR.row;obtain⟨R,hRR⟩:∃R,Cj cs=R:=⟨_,rfl⟩;rw[hRR];have HR:Hid (Cl w (.slice ad cs.length cap) cs/\UR cs/\Cj cs=R):=⟨hR,hF,hRR⟩;have hlen:=hF.len;clear hR hF hRR;go_enter func45,ntmps45;go_wp2
 go_loopw [4] (λi wr=>∃k:Nat,i= .int .i64 k/\k<=cs.length/\Hid (∀j (hj:j<cs.length),j<k->BN cs j cs[j]=none)/\Ac [] w wr) (λi _=>cs.length-(intOf i).toNat)
 case atStart=>exact⟨0,rfl,aG _,λj hj h=>by omega,Ac.refl _ _⟩
 case round=>
  obtain⟨k,rfl,hk,HC,hK⟩:=hrel;have hpc:=(hP.kept hK (by simp)).cell 0;simp at hpc;by_cases hlt:k<cs.length
  ·obtain⟨g,cap',he,hcap,hcellx⟩:=AE HR.out.1.row (λc _=>BB c) k hlt;clear hcellx;simp only[Z6]at he;obtain⟨rfl,_,rfl⟩:=he;obtain⟨c0,c1,c2,c3,c4⟩:=QJ HR.out.1 hK hlt;have hin:=(HR.out.1.kept hK).each cs[k] (Z7 hlt);obtain⟨adh,caph,hhv⟩:=Ak hin.args;obtain⟨adb,capb,hbv⟩:=Ak hin.body;rw[hhv]at c1;rw[hbv]at c3;obtain⟨c,hc⟩:∃c,cs[k]=c:=⟨_,rfl⟩;rw[hc]at c0 c1 c2 c3 c4 hhv hbv;have HH:Hid (cs[k]=c/\c.hv= .slice adh c.head.args.length caph/\c.bv= .slice adb c.bl.length capb):=⟨hc,hhv,hbv⟩;(have hbl:c.bl.length<=1000:=by have:=HR.out.2.1.body cs[k] (Z7 hlt);rw[hc]at this;exact this);(have hhl:c.head.args.length<=1000000:=by have:=HR.out.2.1.head cs[k] (Z7 hlt);rw[hc]at this;exact this);have HIT:Hid (∀r,BN cs k c=some r->R=r):=by
    intro r hr;rw[<-HR.out.2.2];exact Ub hlt HC.out (by rw[hc];exact hr)
   clear hin hhv hbv hc;by_cases h1:12<=k\/3<c.bl.length
   ·have HRt:Hid (R=(3,(c.at_:Int))):=HIT.out _ (by unfold BN;rw[if_pos h1]);by_cases h12:12<=k
    ·(have h12':(12:Int)<=(k:Int):=by omega);clear h1;go_wp2_with fail
     go_quiet (fail)
     (go_wp2_with fail);go_ret2;rw[HRt.out];exact⟨rfl,(hK.alloc _).drewN _⟩
    ·(have h3:(3:Int)<(c.bl.length:Int):=by omega);clear h1;go_wp2_with fail
     go_quiet (fail)
     (go_wp2_with fail);go_ret2;rw[HRt.out];exact⟨rfl,(hK.alloc _).drewN _⟩
   ·(have hk12:k<12:=by omega);(have hb3:c.bl.length<=3:=by omega);by_cases h2:2<c.head.args.length
    ·have HRt:Hid (R=(3,(c.at_:Int))):=HIT.out _ (by unfold BN;rw[if_neg h1,if_pos h2]);clear h1;go_wp2_with fail
     go_quiet (fail)
     (go_wp2_with fail);go_ret2;rw[HRt.out];exact⟨rfl,(hK.alloc _).drewN _⟩
    ·(have ha2:c.head.args.length<=2:=by omega);have H12:Hid (¬(12<=k\/3<c.bl.length)/\¬2<c.head.args.length):=⟨h1,h2⟩;clear h1 h2;(go_wp2_with fail);have hB1:=Aw.new wr [.string c.head.name, .slice adh c.head.args.length caph, .int .i64 c.head.at_, .slice adb c.bl.length capb, .int .i64 c.at_] 82;have hK1:=hK.alloc (.cells [.string c.head.name, .slice adh c.head.args.length caph, .int .i64 c.head.at_, .slice adb c.bl.length capb, .int .i64 c.at_].toArray 82);have hwN:=hK.size;clear hpc c0 c1 c2 c3 c4 hK;generalize wr.alloc (.cells [.string c.head.name, .slice adh c.head.args.length caph, .int .i64 c.head.at_, .slice adb c.bl.length capb, .int .i64 c.at_].toArray 82)=w1 at hB1 hK1⊢;generalize wr.heap.size=N at hB1 hwN⊢;have q0:=hB1.cell 0;have q1:=hB1.cell 1;have q2:=hB1.cell 2;have q3:=hB1.cell 3;have q4:=hB1.cell 4;simp at q0 q1 q2 q3 q4
     go_loop [6] (λi=>∃m:Nat,i= .int .i64 m/\m<=c.bl.length/\Hid ((c.bl.take m).any Bp=false)) (λi=>c.bl.length-(intOf i).toNat)
     case atStart=>exact⟨0,rfl,aG _,by show _=_;simp⟩
     case round=>
      obtain⟨m,rfl,hm,HM⟩:=hrel;by_cases hlm:m<c.bl.length
      ·have hin:=(HR.out.1.kept hK1).each cs[k] (Z7 hlt);rw[HH.out.1]at hin;obtain⟨gb,capb',heb,d0,d1,d2,d3,d4,d5,d6,d7,d8⟩:=QK hin hlm;rw[HH.out.2.2]at heb;simp only[Z6]at heb;obtain⟨rfl,_,rfl⟩:=heb;obtain⟨ada,capa,hav⟩:=Ak (hin.lits c.bl[m] (Z7 hlm));rw[hav]at d2;clear d0 d1 d3 d4 d5 d6 d7 d8 hin hav;by_cases hma:2<c.bl[m].1.A.args.length
       ·have HRt:Hid (R=(3,(c.at_:Int))):=HIT.out _ (by unfold BN;rw[if_neg H12.out.1,if_neg H12.out.2,if_pos (Ip _ _ m hlm (by simpa[Bp] using hma))]);go_wp2_with fail
        go_quiet (fail)
        (go_wp2_with fail);go_ret2;rw[HRt.out];exact⟨rfl,hK1.drewN _⟩
       ·(have HN:Hid ((c.bl.take (m+1)).any Bp=false):=by show _=_;rw[CB _ _ m hlm HM.out];simpa[Bp] using hma);go_wp2_with fail
        go_round
        case rel=>exact⟨m+1,by go_num,by omega,HN⟩
        case measure=>simp[intOf];omega
      ·(have HM2:Hid (c.bl.any Bp=false):=by have h:=HM.out;rwa [Z9 (by omega)]at h);clear HM;have hpc:=(hP.kept hK1 (by simp)).cell 0;simp at hpc;(have hcap':(k:Int)+1<=(cap:Int):=by omega);have HSm:Hid (∀c'∈cs.take (k+1),IF c'):=by
        refine SX hlt HC.out ?_;rw[HH.out.1];refine⟨hb3,ha2,λp hp=>?_⟩;cases hmm:Bp p with
        |false=>simpa[Bp] using hmm
        |true=>(have:c.bl.any Bp=true:=by rw[bI];exact⟨p,hp,hmm⟩);rw[HM2.out]at this;cases this
       (go_wp2_with fail);clear hlm hm;have hBq:=Aw.new w1 [.slice (some ⟨g,0,none⟩) (k+1) cap] 76;have hK2:=hK1.alloc (.cells [.slice (some ⟨g,0,none⟩) (k+1) cap].toArray 76);have hB2:=hB1.alloc (.cells [.slice (some ⟨g,0,none⟩) (k+1) cap].toArray 76);have hNlt:=hB1.lt;clear hpc q0 q1 q2 q3 q4 hB1 hK1;generalize w1.alloc (.cells [.slice (some ⟨g,0,none⟩) (k+1) cap].toArray 76)=w2 at hBq hK2 hB2⊢;generalize w1.heap.size=Nq at hBq hNlt⊢;(have htl:(cs.take (k+1)).length=k+1:=by simp;omega);have hRk:=(HR.out.1.kept hK2).take (k+1) (by omega);refine(WD Nq _ (cs.take (k+1)) _ hBq hRk (by omega) (Aa HSm)).mono ?_;rintro e w3 ⟨v3,rfl,hown3,hK3⟩;obtain⟨ad3,cap3,rfl⟩:=Ak hown3;have hK3':=hK2.trans hK3;have hB3:=hB2.kept hK3 (by simp);have hBq3:=hBq.kept hK3 (by simp);have hRk3:=hRk.kept hK3;obtain⟨nn,hnn⟩:∃nn,(FK (cs.take (k+1))).length=nn:=⟨_,rfl⟩;have HNN:=Ab hnn;rw[hnn];clear hown3 hK3 hB2 hBq hRk hK2 hnn;have q4:=hB3.cell 4;simp at q4;by_cases hn6:6<nn
       ·have HRt:Hid (R=(3,(c.at_:Int))):=HIT.out _ (by unfold BN;rw[if_neg H12.out.1,if_neg H12.out.2,if_neg (by rw[HM2.out];exact bY),if_pos (Or.inl (by rw[Aa HNN];exact hn6))]);go_wp2_with fail
        go_quiet (fail)
        (go_wp2_with fail);go_ret2;rw[HRt.out];exact⟨rfl,hK3'.drewN _⟩
       ·(go_wp2_with fail);refine(Ua Nq _ (cs.take (k+1)) _ hBq3 hRk3 (by omega) (Aa HSm) (λc' hc'=>HR.out.2.1.full c' (cT hc'))).mono ?_;rintro e w4 ⟨v4,rfl,hown4,hK4⟩;obtain⟨ad4,cap4,rfl⟩:=Ak hown4;have hK4':=hK3'.trans hK4;have hB4:=hB3.kept hK4 (by simp);obtain⟨nt,hnt⟩:∃nt,(Ey (cs.take (k+1))).length=nt:=⟨_,rfl⟩;have HNT:=Ab hnt;rw[hnt];clear hown4 hK4 hB3 hBq3 hRk3 hK3' hnt q4;have q0:=hB4.cell 0;have q1:=hB4.cell 1;have q2:=hB4.cell 2;have q4:=hB4.cell 4;simp at q0 q1 q2 q4;by_cases ht6:6<nt
        ·have HRt:Hid (R=(3,(c.at_:Int))):=HIT.out _ (by unfold BN;rw[if_neg H12.out.1,if_neg H12.out.2,if_neg (by rw[HM2.out];exact bY),if_pos (Or.inr (by rw[Aa HNT];exact ht6))]);go_wp2_with fail
         go_quiet (fail)
         (go_wp2_with fail);go_ret2;rw[HRt.out];exact⟨rfl,hK4'.drewN _⟩
        ·have H34:Hid (¬(6<(FK (cs.take (k+1))).length\/6<(Ey (cs.take (k+1))).length)):=by
          show¬_;rw[Aa HNN,Aa HNT];omega
         obtain⟨ar,har⟩:∃ar,DL cs c.head.name=ar:=⟨_,rfl⟩;have HAr:=Ab har;have hP4:=(hP.kept hK4' (by simp)).drew;have hK4d:=hK4'.drew;have HF4:Hid (cs.length<=1000000/\(∀c∈cs,c.bl.length<=1000000)/\(∀c∈cs,∀p∈c.bl,p.1.A.args.length<=1000000)):=⟨by omega,λc' hc'=>by have:=HR.out.2.1.body c' hc';omega,HR.out.2.1.lits⟩;clear har;go_wp2_with fail
         go_region_held3 (λw'=>w'.cell? ⟨N,0,none⟩=some (.string c.head.name)/\w'.cell? ⟨N,1,none⟩=some (.slice adh c.head.args.length caph)) (go_keep) (first|(go_at_call 23;refine(Lt pb _ cs c.head.name _ (by exact hP4) (by exact HR.out.1.kept hK4d) HF4.out.1 HF4.out.2.1).mono ?_;rintro e w5 ⟨rfl,hK5⟩;rw[Aa HAr];have hB5:=hB4.drew.kept hK5 (by simp);have r0:=hB5.cell 0;have r1:=hB5.cell 1;simp at r0 r1))
         have hK5':=hK4d.trans hK5;clear hP4 hK4d hK4' hB4 q0 q1 q2 q4 hK5 r0 r1;have q2:=hB5.cell 2;have q3:=hB5.cell 3;simp at q2 q3;by_cases hae:ar=(c.head.args.length:Int)
         ·(have hne:(ar !=(c.head.args.length:Int))=false:=by simp[hae]);(have HAE:Hid (¬DL cs c.head.name≠(c.head.args.length:Int)):=by show¬_;rw[Aa HAr];simp[hae]);clear hae;go_wp2_with fail
          go_loopw [8] (λi wq=>∃m:Nat,i= .int .i64 m/\m<=c.bl.length/\Hid ((c.bl.take m).any (Bu cs)=false)/\Ac [] w wq/\Aw wq N [.string c.head.name, .slice adh c.head.args.length caph, .int .i64 c.head.at_, .slice adb c.bl.length capb, .int .i64 c.at_] 82) (λi _=>c.bl.length-(intOf i).toNat)
          case atStart=>exact⟨0,rfl,aG _,by show _=_;simp,hK5',hB5⟩
          case round=>
           clear q2 q3 hB5 hK5' hne;obtain⟨m,rfl,hm,HM,hKq,hBq⟩:=hrel;have hNq:=hBq.lt;have q0:=hBq.cell 0;have q1:=hBq.cell 1;have q2:=hBq.cell 2;have q3:=hBq.cell 3;simp at q0 q1 q2 q3;have hin:=(HR.out.1.kept hKq).each cs[k] (Z7 hlt);rw[HH.out.1]at hin;by_cases hlm:m<c.bl.length
           ·obtain⟨gb,capb',heb,d0,d1,d2,d3,d4,d5,d6,d7,d8⟩:=QK hin hlm;rw[HH.out.2.2]at heb;simp only[Z6]at heb;obtain⟨rfl,_,rfl⟩:=heb;obtain⟨ada,capa,hav⟩:=Ak (hin.lits c.bl[m] (Z7 hlm));rw[hav]at d2;clear hin hav;obtain⟨pp,hpp⟩:∃pp,c.bl[m]=pp:=⟨_,rfl⟩;rw[hpp]at d0 d1 d2 d3 d4 d5 d6 d7 d8;have HY:Hid (Bu cs pp=true->R=(4,(pp.1.A.at_:Int))):=by
             intro ho;refine HIT.out _ ?_;unfold BN;rw[if_neg H12.out.1,if_neg H12.out.2,if_neg (by rw[HM2.out];exact bY),if_neg H34.out,if_neg HAE.out,Fh _ _ m hlm HM.out (by rw[hpp];exact ho),hpp]
            have HN:Hid (Bu cs pp=false->(c.bl.take (m+1)).any (Bu cs)=false):=by
             intro ho;rw[CB _ _ m hlm HM.out,hpp];exact ho
            clear hpp;(go_wp2_with fail);clear d0 d1 d2 d3 d4 d5 d6 d7 d8 q0 q1 q2 q3;have hBx:=Aw.new wr [.int .u8 pp.1.kind.toNat, .string pp.1.A.name, .slice ada pp.1.A.args.length capa, .int .i64 pp.1.A.at_, .int .u8 pp.1.L.v.toNat, .string pp.1.L.s, .int .u8 pp.1.R.v.toNat, .string pp.1.R.s, .int .i64 pp.1.at_] 95;have hBn:=hBq.alloc (.cells [.int .u8 pp.1.kind.toNat, .string pp.1.A.name, .slice ada pp.1.A.args.length capa, .int .i64 pp.1.A.at_, .int .u8 pp.1.L.v.toNat, .string pp.1.L.s, .int .u8 pp.1.R.v.toNat, .string pp.1.R.s, .int .i64 pp.1.at_].toArray 95);have hKx:=hKq.alloc (.cells [.int .u8 pp.1.kind.toNat, .string pp.1.A.name, .slice ada pp.1.A.args.length capa, .int .i64 pp.1.A.at_, .int .u8 pp.1.L.v.toNat, .string pp.1.L.s, .int .u8 pp.1.R.v.toNat, .string pp.1.R.s, .int .i64 pp.1.at_].toArray 95);clear hBq hKq;generalize wr.alloc (.cells [.int .u8 pp.1.kind.toNat, .string pp.1.A.name, .slice ada pp.1.A.args.length capa, .int .i64 pp.1.A.at_, .int .u8 pp.1.L.v.toNat, .string pp.1.L.s, .int .u8 pp.1.R.v.toNat, .string pp.1.R.s, .int .i64 pp.1.at_].toArray 95)=w6 at hBx hBn hKx⊢;generalize wr.heap.size=Nx at hBx hNq⊢;have x0:=hBx.cell 0;have x1:=hBx.cell 1;have x2:=hBx.cell 2;have x3:=hBx.cell 3;simp at x0 x1 x2 x3;obtain⟨ar2,har2⟩:∃ar2,DL cs pp.1.A.name=ar2:=⟨_,rfl⟩;have HA2:=Ab har2;have hP6:=(hP.kept hKx (by simp)).drew;have hK6d:=hKx.drew;rcases Ep pp with⟨k1,k3⟩|⟨k1,k2,k3⟩|⟨k1,k2,k3⟩
            ·(have y0:∀n:KW w6,n.wk.cell? ⟨Nx,0,none⟩=some (.int .u8 pp.1.kind.toNat):=λn=>(hBx.kept n.kept (by simp)).cell 0);(have y1:∀n:KW w6,n.wk.cell? ⟨Nx,1,none⟩=some (.string pp.1.A.name):=λn=>(hBx.kept n.kept (by simp)).cell 1);(have y2:∀n:KW w6,n.wk.cell? ⟨Nx,2,none⟩=some (.slice ada pp.1.A.args.length capa):=λn=>(hBx.kept n.kept (by simp)).cell 2);have ACALL:Hid (∀n:KW w6,Calls prog 23 #[.pointer (some ⟨pb,0,none⟩), .string pp.1.A.name] n.wk λe w''=>e= .returned (.int .i64 ar2)/\∃m:KW w6,w''=m.wk):=by
              intro n;have h:=Lt pb _ cs pp.1.A.name n.wk (hP.kept (hKx.trans n.kept) (by simp)) (HR.out.1.kept (hKx.trans n.kept)) HF4.out.1 HF4.out.2.1;rw[Aa HA2]at h;exact Calls.class_of h
             clear x0 x1 x2;have hsome:=KW.some w6;refine Fz (w0:=w6) (by kernel_rfl) (by kernel_rfl) (Ac.refl _ _) ?_
             repeat (go_big_quiet_step ((go_at_call 23;exact(Aa ACALL) _)))
             refine wpQuiet_nil ?_;intro _ hw';obtain⟨⟨w7,hK7⟩,hw7⟩:=hw';subst hw7
             try simp only
             clear y0 y1 y2 ACALL;have hK7':=hKx.trans hK7;have hBn7:=hBn.kept hK7 (by simp);have x3':=(hBx.kept hK7 (by simp)).cell 3;simp at x3';by_cases hae:ar2=(pp.1.A.args.length:Int)
             ·(have hne2:(ar2 !=(pp.1.A.args.length:Int))=false:=by simp[hae]);have HN':=Ab (HN.out (by simp only[Bu,k3,Aa HA2,hne2,cW]));clear HY HN k3 har2 hP6 hK6d x3 hBx hBn hKx hK7 hae;go_wp2_with fail
              go_roundw
              case rel=>exact⟨m+1,by go_num,by omega,HN',hK7',hBn7⟩
              case measure=>simp[intOf];omega
             ·(have hne2:(ar2 !=(pp.1.A.args.length:Int))=true:=by simp[hae]);have HRt:Hid (R=(4,(pp.1.A.at_:Int))):=HY.out (by simp only[Bu,k3,Aa HA2,hne2,cN]);clear HY HN k3 har2 hP6 hK6d x3 hBx hBn hKx hK7 hae;go_wp2_with fail
              go_quiet (fail)
              (go_wp2_with fail);go_ret2;rw[HRt.out];exact⟨rfl,hK7'.drewN _⟩
            ·(have y0:∀n:KW w6,n.wk.cell? ⟨Nx,0,none⟩=some (.int .u8 pp.1.kind.toNat):=λn=>(hBx.kept n.kept (by simp)).cell 0);(have y1:∀n:KW w6,n.wk.cell? ⟨Nx,1,none⟩=some (.string pp.1.A.name):=λn=>(hBx.kept n.kept (by simp)).cell 1);(have y2:∀n:KW w6,n.wk.cell? ⟨Nx,2,none⟩=some (.slice ada pp.1.A.args.length capa):=λn=>(hBx.kept n.kept (by simp)).cell 2);have ACALL:Hid (∀n:KW w6,Calls prog 23 #[.pointer (some ⟨pb,0,none⟩), .string pp.1.A.name] n.wk λe w''=>e= .returned (.int .i64 ar2)/\∃m:KW w6,w''=m.wk):=by
              intro n;have h:=Lt pb _ cs pp.1.A.name n.wk (hP.kept (hKx.trans n.kept) (by simp)) (HR.out.1.kept (hKx.trans n.kept)) HF4.out.1 HF4.out.2.1;rw[Aa HA2]at h;exact Calls.class_of h
             clear x0 x1 x2;have hsome:=KW.some w6;refine Fz (w0:=w6) (by kernel_rfl) (by kernel_rfl) (Ac.refl _ _) ?_
             repeat (go_big_quiet_step ((go_at_call 23;exact(Aa ACALL) _)))
             refine wpQuiet_nil ?_;intro _ hw';obtain⟨⟨w7,hK7⟩,hw7⟩:=hw';subst hw7
             try simp only
             clear y0 y1 y2 ACALL;have hK7':=hKx.trans hK7;have hBn7:=hBn.kept hK7 (by simp);have x3':=(hBx.kept hK7 (by simp)).cell 3;simp at x3';by_cases hae:ar2=(pp.1.A.args.length:Int)
             ·(have hne2:(ar2 !=(pp.1.A.args.length:Int))=false:=by simp[hae]);have HN':=Ab (HN.out (by simp only[Bu,k3,Aa HA2,hne2,cW]));clear HY HN k3 har2 hP6 hK6d x3 hBx hBn hKx hK7 hae;go_wp2_with fail
              go_roundw
              case rel=>exact⟨m+1,by go_num,by omega,HN',hK7',hBn7⟩
              case measure=>simp[intOf];omega
             ·(have hne2:(ar2 !=(pp.1.A.args.length:Int))=true:=by simp[hae]);have HRt:Hid (R=(4,(pp.1.A.at_:Int))):=HY.out (by simp only[Bu,k3,Aa HA2,hne2,cN]);clear HY HN k3 har2 hP6 hK6d x3 hBx hBn hKx hK7 hae;go_wp2_with fail
              go_quiet (fail)
              (go_wp2_with fail);go_ret2;rw[HRt.out];exact⟨rfl,hK7'.drewN _⟩
            ·have HN':=Ab (HN.out (by simp[Bu,k3]));clear HY HN k3 har2 hP6 hK6d
             go_quiet (fail)
             go_wp2_with fail
             go_roundw
             case rel=>exact⟨m+1,by go_num,by omega,HN',hKx.drewN _,hBn.drewN _⟩
             case measure=>simp[intOf];omega
           ·have HFN:Hid (c.bl.find? (Bu cs)=none):=by
             have h:=HM.out;rw[Z9 (by omega)]at h;show _=_;rw[cg];intro x hx hf;(have:c.bl.any (Bu cs)=true:=by rw[bI];exact⟨x,hx,hf⟩);rw[h]at this;cases this
            have T:=X9 c.head c.hv c.bv c.bl _ hin.args hin.body hin.lits (by omega) (λp hp=>by have:=HF4.out.2.2 cs[k] (Z7 hlt) p (by rw[HH.out.1];exact hp);exact this) hhl;rw[HH.out.2.1,HH.out.2.2]at T;simp only[BO]at T;have HT:=Ab T;obtain⟨sf,hsf⟩:∃sf,E7 c.head c.bl=sf:=⟨_,rfl⟩;have HSF:=Ab hsf;(have hsfb: -1<=sf/\sf<=9223372036854775806->True:=λ_=>trivial);clear hsfb T hin hsf;(go_wp2_with fail);refine(Aa HT).mono ?_;rintro e w7 ⟨rfl,hK7⟩;rw[Aa HSF];have hK7':=hKq.trans hK7;clear HT hK7 hKq hBq q0 q1 q2 q3;by_cases hs0:0<=sf
            ·have HRt:Hid (R=(5,sf)):=HIT.out _ (by unfold BN;rw[if_neg H12.out.1,if_neg H12.out.2,if_neg (by rw[HM2.out];exact bY),if_neg H34.out,if_neg HAE.out,HFN.out];simp only;rw[Aa HSF,if_pos hs0]);(go_wp2_with fail);go_ret2;rw[HRt.out];exact⟨rfl,hK7'⟩
            ·have HCn:Hid (∀j (hj:j<cs.length),j<k+1->BN cs j cs[j]=none):=by
              intro j hj hjk;by_cases hjk':j<k
              ·exact HC.out j hj hjk'
              ·(have:j=k:=by omega);subst this;rw[HH.out.1];unfold BN;rw[if_neg H12.out.1,if_neg H12.out.2,if_neg (by rw[HM2.out];exact bY),if_neg H34.out,if_neg HAE.out,HFN.out];simp only;rw[Aa HSF,if_neg hs0]
             go_wp2_with fail
             go_roundw
             case rel=>exact⟨k+1,by go_num,by omega,HCn,hK7'⟩
             case measure=>simp[intOf];omega
         ·(have hne:(ar !=(c.head.args.length:Int))=true:=by simp[hae]);have HRt:Hid (R=(4,(c.head.at_:Int))):=HIT.out _ (by unfold BN;rw[if_neg H12.out.1,if_neg H12.out.2,if_neg (by rw[HM2.out];exact bY),if_neg H34.out,if_pos (by rw[Aa HAr];exact hae)]);clear hae;go_wp2_with fail
          go_quiet (fail)
          (go_wp2_with fail);go_ret2;rw[HRt.out];exact⟨rfl,hK5'.drewN _⟩
  ·have HRn:Hid (R=match cs.findSome? (CZ cs)with|some r=>r|none=>(0,0)):=by
    rw[<-HR.out.2.2];exact Rj (λj hj=>HC.out j hj (by omega))
   have HF5:Hid (cs.length<=1000000/\(∀c∈cs,c.bl.length<=1000000)/\(C7 cs).length<=900000):=⟨by omega,λc' hc'=>by have:=HR.out.2.1.body c' hc';omega,HR.out.2.1.atoms⟩;clear HC;(go_wp2_with fail);clear hpc
   go_loopw [11] (λi wr=>∃q:Nat,i= .int .i64 q/\q<=cs.length/\Hid ((cs.take q).findSome? (CZ cs)=none)/\Ac [] w wr) (λi _=>cs.length-(intOf i).toNat)
   case atStart=>exact⟨0,rfl,aG _,by show _=_;simp,hK⟩
   case round=>
    clear hK;obtain⟨q,rfl,hq,HQ,hK⟩:=hrel;have hpc:=(hP.kept hK (by simp)).cell 0;simp at hpc;by_cases hlq:q<cs.length
    ·obtain⟨g,cap',he,hcap,hcellx⟩:=AE HR.out.1.row (λc _=>BB c) q hlq;clear hcellx;simp only[Z6]at he;obtain⟨rfl,_,rfl⟩:=he;have hin0:=HR.out.1.each cs[q] (Z7 hlq);obtain⟨adb,capb,hbv⟩:=Ak hin0.body;obtain⟨c,hc⟩:∃c,cs[q]=c:=⟨_,rfl⟩;rw[hc]at hbv;have HH:Hid (cs[q]=c/\c.bv= .slice adb c.bl.length capb):=⟨hc,hbv⟩;(have hbl:c.bl.length<=1000:=by have:=HR.out.2.1.body cs[q] (Z7 hlq);rw[hc]at this;exact this);clear hin0 hbv hc;(go_wp2_with fail);clear hpc
     go_loopw [12] (λi wq=>∃m:Nat,i= .int .i64 m/\m<=c.bl.length/\Hid ((c.bl.take m).any (DZ cs c)=false)/\Ac [] w wq) (λi _=>c.bl.length-(intOf i).toNat)
     case atStart=>exact⟨0,rfl,aG _,by show _=_;simp,hK⟩
     case round=>
      clear hK;obtain⟨m,rfl,hm,HM,hKq⟩:=hrel;have hpc:=(hP.kept hKq (by simp)).cell 0;simp at hpc;obtain⟨c0,_,_,c3,_⟩:=QJ HR.out.1 hKq hlq;rw[HH.out.1]at c0 c3;rw[HH.out.2]at c3;have hin:=(HR.out.1.kept hKq).each cs[q] (Z7 hlq);rw[HH.out.1]at hin;by_cases hlm:m<c.bl.length
      ·obtain⟨gb,capb',heb,d0,d1,d2,d3,d4,d5,d6,d7,d8⟩:=QK hin hlm;rw[HH.out.2]at heb;simp only[Z6]at heb;obtain⟨rfl,_,rfl⟩:=heb;obtain⟨ada,capa,hav⟩:=Ak (hin.lits c.bl[m] (Z7 hlm));rw[hav]at d2;clear hin hav;obtain⟨pp,hpp⟩:∃pp,c.bl[m]=pp:=⟨_,rfl⟩;rw[hpp]at d0 d1 d2 d3 d4 d5 d6 d7 d8;have HY:Hid (DZ cs c pp=true->R=(6,(pp.1.at_:Int))):=by
        intro ho;have h1:CZ cs cs[q]=some (6,(pp.1.at_:Int)):=by
         unfold CZ;rw[HH.out.1,Fh _ _ m hlm HM.out (by rw[hpp];exact ho),hpp];rfl
        rw[HRn.out,FY _ _ q hlq HQ.out h1]
       have HN:Hid (DZ cs c pp=false->(c.bl.take (m+1)).any (DZ cs c)=false):=by
        intro ho;rw[CB _ _ m hlm HM.out,hpp];exact ho
       clear hpp;have e33:((pp.1.kind.toNat:Int)==33)=(pp.1.kind==33):=B8 _ 33;cases hkd:(pp.1.kind==33)with
       |false=>
        rw[hkd]at e33;have HN':=Ab (HN.out (by simp[DZ,hkd]));clear HY HN hkd;go_wp2_with fail
        go_roundw
        case rel=>exact⟨m+1,by go_num,by omega,HN',hKq.alloc _⟩
        case measure=>simp[intOf];omega
       |true=>
        rw[hkd]at e33;(go_wp2_with fail);clear d0 d1 d2 d3 d4 d5 d6 d7 d8 hpc c0 c3 e33;have hBx:=Aw.new wr [.int .u8 pp.1.kind.toNat, .string pp.1.A.name, .slice ada pp.1.A.args.length capa, .int .i64 pp.1.A.at_, .int .u8 pp.1.L.v.toNat, .string pp.1.L.s, .int .u8 pp.1.R.v.toNat, .string pp.1.R.s, .int .i64 pp.1.at_] 95;have hKx:=hKq.alloc (.cells [.int .u8 pp.1.kind.toNat, .string pp.1.A.name, .slice ada pp.1.A.args.length capa, .int .i64 pp.1.A.at_, .int .u8 pp.1.L.v.toNat, .string pp.1.L.s, .int .u8 pp.1.R.v.toNat, .string pp.1.R.s, .int .i64 pp.1.at_].toArray 95);clear hKq;generalize wr.alloc (.cells [.int .u8 pp.1.kind.toNat, .string pp.1.A.name, .slice ada pp.1.A.args.length capa, .int .i64 pp.1.A.at_, .int .u8 pp.1.L.v.toNat, .string pp.1.L.s, .int .u8 pp.1.R.v.toNat, .string pp.1.R.s, .int .i64 pp.1.at_].toArray 95)=w6 at hBx hKx⊢;generalize wr.heap.size=Nx at hBx⊢;(have y1:∀n:KW w6,n.wk.cell? ⟨Nx,1,none⟩=some (.string pp.1.A.name):=λn=>(hBx.kept n.kept (by simp)).cell 1);(have y2:∀n:KW w6,n.wk.cell? ⟨pb,0,none⟩=some (.slice (some ⟨g,0,none⟩) cs.length cap):=λn=>(hP.kept (hKx.trans n.kept) (by simp)).cell 0);(have y3:∀n:KW w6,n.wk.cell? ⟨g,q*5,none⟩=some (.string c.head.name):=λn=>by have h:=(QJ HR.out.1 (hKx.trans n.kept) hlq).1;rw[HH.out.1]at h;exact h);obtain⟨rb,hrb⟩:∃rb,Gh cs pp.1.A.name c.head.name=rb:=⟨_,rfl⟩;have HRB:=Ab hrb;have ACALL:Hid (∀n:KW w6,Calls prog 85 #[.pointer (some ⟨pb,0,none⟩), .string pp.1.A.name, .string c.head.name] n.wk λe w''=>e= .returned (.bool rb)/\∃m:KW w6,w''=m.wk):=by
         intro n;have h:=Q2 pb _ cs pp.1.A.name c.head.name n.wk (hP.kept (hKx.trans n.kept) (by simp)) (HR.out.1.kept (hKx.trans n.kept)) HF5.out.1 HF5.out.2.1 HF5.out.2.2;rw[Aa HRB]at h;exact Calls.class_of h
        (have hlq':(q:Int)<(cs.length:Int):=by omega);clear hrb;have hsome:=KW.some w6;refine Fz (w0:=w6) (by kernel_rfl) (by kernel_rfl) (Ac.refl _ _) ?_
        repeat (go_big_quiet_step ((go_at_call 85;exact(Aa ACALL) _)))
        refine wpQuiet_nil ?_;intro _ hw';obtain⟨⟨w7,hK7⟩,hw7⟩:=hw';subst hw7
        try simp only
        clear y1 y2 y3 ACALL;have hK7':=hKx.trans hK7;have x8:=(hBx.kept hK7 (by simp)).cell 8;simp at x8;cases rb with
        |true=>
         have HRt:Hid (R=(6,(pp.1.at_:Int))):=HY.out (by simp only[DZ,hkd,Aa HRB,cN]);clear HY HN hkd hBx hKx hK7;go_wp2_with fail
         go_quiet (fail)
         (go_wp2_with fail);go_ret2;rw[HRt.out];exact⟨rfl,hK7'.drewN _⟩
        |false=>
         have HN':=Ab (HN.out (by simp only[DZ,hkd,Aa HRB,cW]));clear HY HN hkd hBx hKx hK7;go_wp2_with fail
         go_roundw
         case rel=>exact⟨m+1,by go_num,by omega,HN',hK7'⟩
         case measure=>simp[intOf];omega
      ·have HZ:Hid ((cs.take (q+1)).findSome? (CZ cs)=none):=by
        have h:=HM.out;rw[Z9 (by omega)]at h;show _=_;rw[E4 _ _ q hlq HQ.out,HH.out.1];unfold CZ;have:c.bl.find? (DZ cs c)=none:=by
         rw[cg];intro x hx hf;(have:c.bl.any (DZ cs c)=true:=by rw[bI];exact⟨x,hx,hf⟩);rw[h]at this;cases this
        rw[this];rfl
       go_wp2_with fail
       go_roundw
       case rel=>exact⟨q+1,by go_num,by omega,HZ,hKq⟩
       case measure=>simp[intOf];omega
    ·have HE:Hid (R=(0,0)):=by
      have h:=HQ.out;rw[Z9 (by omega)]at h;show _=_;rw[HRn.out,h]
     (go_wp2_with fail);go_ret2;rw[HE.out];exact⟨rfl,hK⟩
def Au(s:cL)(at_:Nat):List Cm×Nat×Bool:=
 if h:at_<s.size then
  if h2:(AQ s at_).2.2=false/\at_<As s (AQ s at_).2.1 (AQ s at_).2.2 then
   ((AQ s at_).1::(Au s (As s (AQ s at_).2.1 (AQ s at_).2.2)).1,(Au s (As s (AQ s at_).2.1 (AQ s at_).2.2)).2)
  else([(AQ s at_).1],As s (AQ s at_).2.1 (AQ s at_).2.2,(AQ s at_).2.2)
 else([],at_,false)
def Eg(s:cL)(a:Nat)(bd:Bool):List Cm×Nat×Bool:=if bd then([],a,true)else Au s a
theorem JD{s:cL}{a e:Nat}{c:Cm}{b:Bool}(g:a<s.size)(d:AQ s a=(c,e,b)):
  Au s a=(c::(Eg s (As s e b) b).1,(Eg s (As s e b) b).2):=by
 conv=>lhs;rw[Au]
 rw[dif_pos g];cases b with
 |true=>rw[dif_neg (by rw[d];simp)];rw[d];rfl
 |false=>
  have f:=Nn (s:=s) (at_:=a) (by rw[d]);rw[d]at f;have h:=Is s e false;rw[dif_pos (by rw[d];exact⟨rfl,by simp only at f⊢;omega⟩),d];rfl
theorem Kk{s:cL}{a:Nat}(b:¬a<s.size):Au s a=([],a,false):=by
 rw[Au,dif_neg b]
def Q0(s:cL)(t:AG):Prop:=t.v=0->0<t.s.size/\t.s.size<=s.size
theorem Hr(s:cL)(i j:Nat)(h:j<=s.size):(s.extract i j).size=j-i:=by
 rw[cK,da h]
theorem SS{s:cL}{at_:Nat}(h:(AW s at_ false).2.2=false)(d:at_<=s.size):0<(AW s at_ false).1.size/\(AW s at_ false).1.size<=s.size:=by
 have c:=AN s at_ d;have a:=CA Av s _ c;have e:=Cq Av s (Af s at_);unfold AW at h⊢;simp only[Z8,if_false]at h⊢;split at h
 ·cases h
 ·rename_i b;simp only[b,if_false];rw[Hr _ _ _ a];omega
theorem Il{s:cL}{at_:Nat}(h:(AA s at_ false).2.2=false)(j:at_<=s.size):Q0 s (AA s at_ false).1:=by
 have e:=AN s at_ j;intro a;unfold AA at h a⊢;simp only[Z8,if_false]at h a⊢;split at h
 ·rename_i d;simp only[d,dite_true]at a⊢;split at h
  ·rename_i b;simp only[b,if_true]at a;rw[a]at b;exact absurd b (by decide)
  ·rename_i b;simp only[b,if_false,Z8]at a⊢;split at h
   ·rename_i c;simp only[c,if_true];exact SS h e
   ·rename_i c;simp only[c,if_false,Z8];split at h
    ·cases h
    ·rename_i i;simp only[i,if_false];have f:=CA An s _ e;(have g:An s[Af s at_]=true:=by simpa using c);have l:=B0 An s _ d g;have k:=Cq An s (Af s at_+1);show 0<(s.extract (Af s at_) (AM An s (Af s at_))).size/\_;rw[Hr _ _ _ f];omega
 ·cases h
theorem Tf(s:cL)(at_:Nat)(c:at_<=s.size):(De s at_).1.length<=s.size-at_+1/\((De s at_).2.2=false->∀t∈(De s at_).1,Q0 s t):=by
 fun_induction De s at_ with
 |case1 at_ hc _ _ ih=>
  have e:=Cy s _ (AA s at_ false).2.2 44 (BK s at_ false c);obtain⟨g,f⟩:=ih e;have h:=hc.2.1;refine⟨by simp only[ak];omega,λb t a=>?_⟩;rcases aj.1 a with rfl|a
  ·have d:(AA s at_ false).2.2=false:=by
    have:=hc.1;simp only[aO,dk]at this;exact this.1
   exact Il d c
  ·exact f b t a
 |case2 at_ hc=>
  refine⟨by simp,λb t a=>?_⟩;simp only[ae]at a;subst a;exact Il b c
theorem N0(s:cL)(p:Nat×Bool)(a:p.1<=s.size):(Ek s p).1.length<=s.size+1/\((Ek s p).2.2=false->∀t∈(Ek s p).1,Q0 s t):=by
 unfold Ek;split
 ·exact⟨by simp,λh=>by cases h⟩
 ·have h:=Tf s p.1 a;exact⟨by omega,h.2⟩
def Yx(s:cL)(a:CQ):Prop:=∀t∈a.args,Q0 s t
theorem LD(s:cL)(at_:Nat)(b:Bool)(a:at_<=s.size):(A4 s at_ b).1.args.length<=s.size+1:=by
 unfold A4;exact(N0 s _ (Cy _ _ _ _ (Dq _ _ _ (B2 _ _ _ a)))).1
theorem Pe{s:cL}{a:Nat}{b:Bool}{c:UInt8}(h:(Bk s a b c).2=false):b=false:=by
 unfold Bk at h;cases b<;>simp_all
theorem JT{s:cL}{at_:Nat}{a:Bool}(h:(A4 s at_ a).2.2=false)(b:at_<=s.size):Yx s (A4 s at_ a).1:=by
 unfold A4 at h⊢;exact(N0 s _ (Cy _ _ _ _ (Dq _ _ _ (B2 _ _ _ b)))).2 (Pe h)
structure WY(s:cL)(x:By):Prop where
 atom:Yx s x.A
 left:(x.kind==97||x.kind==33)=false->Q0 s x.L
 right:(x.kind==97||x.kind==33)=false->Q0 s x.R
theorem Si(s:cL)(at_:Nat)(b:at_<=s.size):(CU s at_).1.A.args.length<=s.size+1:=by
 have a:=AN s at_ b;unfold CU;simp only;split
 ·rename_i c;have:=EL c;exact LD s _ _ (by omega)
 ·split
  ·exact LD s _ _ a
  ·unfold Ke;split<;>simp[CI]
theorem Pk{s:cL}{at_:Nat}(h:(CU s at_).2.2=false)(i:at_<=s.size):WY s (CU s at_).1:=by
 have f:=AN s at_ i;unfold CU at h⊢;simp only at h⊢;split at h
 ·rename_i c;simp only[c,if_true];have:=EL c;exact⟨JT h (by omega),λa=>by simp at a,λa=>by simp at a⟩
 ·rename_i c;simp only[c,Z8,if_false];split at h
  ·rename_i d;simp only[d,if_true];exact⟨JT h f,λa=>by simp at a,λa=>by simp at a⟩
  ·rename_i d;simp only[d,Z8,if_false];unfold Ke at h⊢;split at h
   ·rename_i b;simp only[b,if_true];simp only[aO,dk,bN]at b;have j:As s (AA s (Af s at_) false).2.1 (AA s (Af s at_) false).2.2<s.size:=by
     rcases b.2 with(e|e)|e<;>exact EL e
    exact⟨λt g=>by simp[CI]at g,λ_=>Il b.1 f,λ_=>Il h (by omega)⟩
   ·cases h
theorem T0(s:cL)(at_:Nat)(b:at_<=s.size):(CJ s at_).1.length<=s.size-at_+1/\(∀x∈(CJ s at_).1,x.A.args.length<=s.size+1)/\((CJ s at_).2.2=false->∀x∈(CJ s at_).1,WY s x):=by
 fun_induction CJ s at_ with
 |case1 at_ hc _ _ ih=>
  have f:=Cy s _ (CU s at_).2.2 44 (Jy s at_ b);obtain⟨h,g,e⟩:=ih f;have i:=hc.2.1;refine⟨by simp only[ak];omega,λx a=>?_,λc x a=>?_⟩
  ·rcases aj.1 a with rfl|a
   ·exact Si s at_ b
   ·exact g x a
  ·rcases aj.1 a with rfl|a
   ·have d:(CU s at_).2.2=false:=by
     have:=hc.1;simp only[aO,dk]at this;exact this.1
    exact Pk d b
   ·exact e c x a
 |case2 at_ hc=>
  refine⟨by simp,λx a=>?_,λc x a=>?_⟩
  ·simp only[ae]at a;subst a;exact Si s at_ b
  ·simp only[ae]at a;subst a;exact Pk c b
structure WU(s:cL)(c:Cm):Prop where
 head:Yx s c.head
 body:∀x∈c.body,WY s x
structure ZH(s:cL)(c:Cm):Prop where
 head:c.head.args.length<=s.size+1
 body:c.body.length<=s.size+1
 lits:∀x∈c.body,x.A.args.length<=s.size+1
theorem Nk(s:cL)(c:Nat)(a:Bool)(j:c<=s.size):(Db s c a).1.length<=s.size+1/\(∀x∈(Db s c a).1,x.A.args.length<=s.size+1)/\((Db s c a).2.2=false->a=false/\∀x∈(Db s c a).1,WY s x):=by
 unfold Db;split
 ·rename_i k;have e:a=false:=by cases a<;>simp_all
  split
  ·rename_i b;have i:=EL b;obtain⟨g,f,d⟩:=T0 s (Bi s c a 58+1) (by omega);exact⟨by omega,f,λh=>⟨e,d h⟩⟩
  ·exact⟨by simp,λx b=>by simp at b,λh=>by cases h⟩
 ·exact⟨by simp,λx b=>by simp at b,λh=>⟨h,λx b=>by simp at b⟩⟩
theorem RQ(s:cL)(at_:Nat)(c:at_<=s.size):ZH s (AQ s at_).1:=by
 have a:=AN s at_ c;have b:=Nk s (A4 s (Af s at_) false).2.1 (A4 s (Af s at_) false).2.2 (EO _ _ _ a);unfold AQ;exact⟨LD s _ _ a,b.1,b.2.1⟩
theorem P6{s:cL}{at_:Nat}(h:(AQ s at_).2.2=false)(c:at_<=s.size):WU s (AQ s at_).1:=by
 have a:=AN s at_ c;have d:=Nk s (A4 s (Af s at_) false).2.1 (A4 s (Af s at_) false).2.2 (EO _ _ _ a);unfold AQ at h⊢;have b:=d.2.2 (Pe h);exact⟨JT b.1 a,b.2⟩
theorem Tryz.info82:(Tryz.prog.info? 82).map (λi=>(i.zero,i.size,i.bytes))=some (some (.agg #[.string ⟨#[]⟩, .slice none 0 0, .int .i64 0, .slice none 0 0, .int .i64 0]),5,80):=by kernel_rfl
def Bf.erase(c:Bf):Cm:=⟨c.head,c.bl.map Prod.fst,c.at_⟩
structure MC(w:World)(base:Nat)(lv:Value)(c:Bf):Prop where
 args:w.ownsRow base 93 2 c.hv c.head.args.length (c.head.args.flatMap Az)
 body:w.ownsRow base 95 9 c.bv c.bl.length (c.bl.flatMap Bc)
 lits:∀p∈c.bl,BS w base p
 ap1:BX c.hv lv
 ap2:BX c.bv lv
 ap3:∀p∈c.bl,BX p.2 lv
theorem MC.cvIn{w:World}{base:Nat}{b:Value}{c:Bf}(h:MC w base b c):TF w c:=
 ⟨Ai h.args (aG _),Ai h.body (aG _),λp a=>Ai (h.lits p a) (aG _)⟩
theorem MC.kept{M:List Nat}{w w':World}{base:Nat}{b:Value}{c:Bf}(h:MC w base b c)(k:Ac M w w')(a:∀i,i∈M->i<base):MC w' base b c:=
 ⟨Ad h.args k a,Ad h.body k a,λp d=>(h.lits p d).kept k a,h.ap1,h.ap2,h.ap3⟩
theorem GV{w w':World}{base:Nat}{e:TypeId}{size:Nat}{v a:Value}{n:Nat}{b:List Value}(h:w.ownsRow base e size v n b)(k:w.grownBy w' a.ownBlock)(c:BX v a):w'.ownsRow base e size v n b:=
 h.kept k (by
  cases hv:v.ownBlock with
  |none=>exact Or.inl rfl
  |some k=>exact Or.inr (λe=>c k hv e.symm))
theorem MC.grown{w w':World}{base:Nat}{d:Value}{c:Bf}{g n cap H:Nat}(h:MC w base d c)(k:w.grownBy w' d.ownBlock)(b:d.ownBlock=some g\/g=H)(e:w.heap.size<=H):MC w' base (.slice (some ⟨g,0,none⟩) n cap) c:=
 ⟨GV h.args k h.ap1,GV h.body k h.ap2,λp a=>GV (h.lits p a) k (h.ap3 p a),BX.lies h.ap1 h.args b e,BX.lies h.ap2 h.body b e,λp a=>BX.lies (h.ap3 p a) (h.lits p a) b e⟩
def Er(s:cL)(e at_:Int):Prop:=
 if 300<s.size then e=1/\at_=0
 else if(Au s (Af s 0)).2.2 then e=2/\at_=(Au s (Af s 0)).2.1
 else∃cs:List Bf,cs.map Bf.erase=(Au s (Af s 0)).1/\(e,at_)=Cj cs
theorem Rn(cs:List Bf)(N:Nat)(h:∀c∈cs,c.bl.length<=N):(C7 cs).length<=cs.length*N:=by
 unfold C7
 induction cs with
 |nil=>simp
 |cons c cs ih=>
  have e:=ih (λb a=>h b (by simp[a]));have d:=h c (by simp);have f:=bO Nf c.bl;simp only[aB,am,aD,ak];rw[ce];omega
theorem YU{s:cL}(k:s.size<=300){cs:List Bf}(j:cs.length<=300)(f:∀c∈cs,ZH s c.erase)(i:∀c∈cs,WU s c.erase):UR cs:=by
 have h:∀c∈cs,c.bl.length<=301:=λc a=>by have:=(f c a).body;simp only[Bf.erase,aD]at this;omega
 refine⟨by omega,λc a=>by have:=h c a;omega,λc a=>by have:=(f c a).head;simp only[Bf.erase]at this;omega,λc a p e=>?_,?_,λc a=>⟨?_,λp e=>?_⟩⟩
 ·have:=(f c a).lits p.1 (by simp only[Bf.erase];exact aM e);omega
 ·have:=Rn cs 301 h;have:cs.length*301<=300*301:=bA _ j;omega
 ·intro t b d;have:=(i c a).head t b d;omega
 ·have g:=(i c a).body p.1 (by simp only[Bf.erase];exact aM e);intro t b d;unfold A2 at b;cases ha:Nf p with
  |true=>
   rw[ha]at b;have:=g.atom t (by simpa using b) d;omega
  |false=>
   rw[ha]at b;simp only[Z8,if_false,aj,bE,or_false]at b;rcases b with rfl|rfl
   ·have:=g.left ha d;omega
   ·have:=g.right ha d;omega
theorem TD{cs:List Bf}{i:Nat}{c:Bf}{r:Int×Int}(h:BN cs i c=some r):r.1≠0:=by
 unfold BN at h
 repeat (split at h;· first|cases h;done|(simp only[ai]at h;subst h;simp))
 all_goals first|cases h;done|(simp only[ai]at h;subst h;simp)|skip
theorem M1{cs:List Bf}:∀(l:List Bf) (i:Nat) {r:Int×Int},Dx cs i l=some r->r.1≠0
 |[],_,_,h=>by simp[Dx]at h
 |c::l,i,r,h=>by
  rw[Dx]at h;split at h
  ·rename_i b a;simp only[ai]at h;subst h;exact TD a
  ·exact M1 l (i+1) h
theorem GF{cs:List Bf}(h:(Cj cs).1=0):Cj cs=(0,0):=by
 unfold Cj at h⊢;split
 ·rename_i r b;rw[b]at h;exact absurd h (M1 _ _ b)
 ·rename_i b;rw[b]at h;simp only at h;split
  ·rename_i r d;rw[d]at h;obtain⟨e,c,f,_,a,_⟩:=List.findSome?_eq_some_iff.1 d;unfold CZ at a;cases hf:c.bl.find? (DZ cs c)with
   |none=>rw[hf]at a;simp at a
   |some p=>rw[hf]at a;simp only[cQ,ai]at a;rw[<-a]at h;simp at h
  ·rfl
structure QX(s:cL)(acc:List Bf)(a:Nat)(bd:Bool)(R:List Cm×Nat×Bool):Prop where
 rest:(acc.map Bf.erase++(Eg s a bd).1,(Eg s a bd).2)=R
 len:acc.length<=a+1
 len2:bd=false->acc.length<=a
 lens:∀c∈acc,ZH s c.erase
 good:bd=false->∀c∈acc,WU s c.erase
theorem QX.step{s:cL}{acc:List Bf}{a f:Nat}{d:Bool}{R:List Cm×Nat×Bool}{c:Bf}(h:QX s acc a false R)(p:a<s.size)(i:AQ s a=(c.erase,f,d)):
  As s f d<=s.size/\2*(s.size-As s f d)+(if d then 0 else 1)<2*(s.size-a)+1/\QX s (acc++[c]) (As s f d) d R:=by
 have k:=M2 s a (by omega);have r:=Is s f d;have l:=RQ s a (by omega);have q:a<=f:=by
  have t:=Cr s a;have v:=I1 s (Af s a) false;have y:=SG s (A4 s (Af s a) false).2.1 (A4 s (Af s a) false).2.2;have u:=EV s (Db s (A4 s (Af s a) false).2.1 (A4 s (Af s a) false).2.2).2.1 (Db s (A4 s (Af s a) false).2.1 (A4 s (Af s a) false).2.2).2.2 46;have e:f=(AQ s a).2.1:=by rw[i]
  rw[e];show a<=Bi s _ _ 46;omega
 have m:d=false->a<f:=λg=>by
  have:=Nn (s:=s) (at_:=a) (by rw[i];exact g);rw[i]at this;exact this
 have n:d=false->WU s c.erase:=λg=>by
  have:=P6 (s:=s) (at_:=a) (by rw[i];exact g) (by omega);rw[i]at this;exact this
 rw[i]at k l;simp only at k l;have o:=B2 s f d k;have w:=h.len2 rfl;refine⟨o,?_,⟨?_,?_,?_,?_,?_⟩⟩
 ·cases d with
  |true=>simp;omega
  |false=>have:=m rfl;simp;omega
 ·have j:=h.rest;unfold Eg at j;simp only[Z8,if_false]at j;rw[JD p i]at j;rw[<-j];simp
 ·simp;omega
 ·intro g;have:=m g;simp;omega
 ·intro x b;rcases aw.1 b with b|b
  ·exact h.lens x b
  ·simp only[ae]at b;subst b;exact l
 ·intro g x b;rcases aw.1 b with b|b
  ·exact h.good rfl x b
  ·simp only[ae]at b;subst b;exact n g
def Sd(s:cL)(pv:Value)(er:Int)(w:World):Prop:=
 er=0->∃(pb:Nat) (lad:Option Addr) (lcp:Nat) (cs:List Bf),pv= .pointer (some ⟨pb,0,none⟩)/\Aw w pb [.slice lad cs.length lcp] 76/\Cl w (.slice lad cs.length lcp) cs/\UR cs/\s.size<=300/\(Au s (Af s 0)).2.2=false/\cs.map Bf.erase=(Au s (Af s 0)).1/\Cj cs=(0,0)
theorem VF(s:cL)(w:World)(LB:s.size<=9223372036854775807):
  Calls prog 15 #[.string s] w λe w'=>∃(pv:Value) (y z:Int),e= .returned (.tuple #[pv, .int .i64 y, .int .i64 z])/\Er s y z/\Sd s pv y w'/\Ac [] w w':=by
 by_cases HL:300<s.size
 ·have W:Hid (Er s 1 0):=by show Er _ _ _;unfold Er;rw[if_pos HL];exact⟨rfl,rfl⟩
  go_enter func15,ntmps15;go_wp2;go_ret3;exact⟨_,1,0,rfl,W.out,(λh=>by cases h),Ac.refl _ _⟩
 ·have hs:s.size<=300:=by omega
  have FA:s.size<=1000000:=by omega
  obtain⟨i0,Nq,K7,NX,MN⟩:=bj Tryz.info82;obtain⟨j,hj⟩:∃j,Af s 0=j:=⟨_,rfl⟩;have NV:j<=s.size:=by have:=AN s 0 (aG _);omega
  obtain⟨D,E,B,BT⟩:∃D E B,Au s j=(D,E,B):=⟨_,_,_,rfl⟩;have W:Hid (∀y z:Int,(if B then y=2/\z=(E:Int)else∃cs:List Bf,cs.map Bf.erase=D/\(y,z)=Cj cs)->Er s y z):=by
   intro y z h;unfold Er;rw[if_neg HL,hj,BT];exact h
  have O:Hid (As s 0 false=j/\Au s j=(D,E,B)):=⟨hj,BT⟩;clear hj BT HL LB;go_enter func15,ntmps15;go_wp2_with fail
  have H5:Aw ((w.alloc (.cells #[.string s, .int .i64 0, .bool false] 73)).alloc (.cells #[.slice none 0 0] 76)) w.heap.size (AP s 0 false) 73:=(Aw.new w (AP s 0 false) 73).alloc _;have HQ:Aw ((w.alloc (.cells #[.string s, .int .i64 0, .bool false] 73)).alloc (.cells #[.slice none 0 0] 76)) (w.heap.size+1) [.slice none 0 0] 76:=by
   have h:=Aw.new (w.alloc (.cells #[.string s, .int .i64 0, .bool false] 73)) [.slice none 0 0] 76;rw[aP]at h;exact h
  refine(A1 w.heap.size s 0 false _ FA (aG _) H5).mono ?_;rintro e w2 ⟨rfl,i,HF⟩;rw[O.out.1]at i;have l:=HQ.kept HF (by simp);have HV:Ac [] w w2:=(((Ac.refl [] w).alloc _).alloc _).trans' HF (by simp);clear H5 HQ HF;go_wp2_with fail
  go_loopg [] (2*(s.size-j)+1) (λgk wr=>∃(a:Nat) (S:Bool) (b:List Bf) (lv:Value),a<=s.size/\gk=2*(s.size-a)+(if S then 0 else 1)/\Hid (QX s b a S (D,E,B))/\Aw wr w.heap.size (AP s a S) 73/\Aw wr (w.heap.size+1) [lv] 76/\
   wr.ownsRow (w.heap.size+2) 82 5 lv b.length (b.flatMap Co)/\Hid (∀c∈b,MC wr (w.heap.size+2) lv c)/\Ac [] w wr)
  case atStart=>
   refine⟨j,false,[], .slice none 0 0,NV,by simp,⟨?_,by simp,by simp,by simp,by simp⟩,i,l,ax _ _ _ _,λc g=>by simp at g,HV⟩;unfold Eg;simp[O.out.2]
  case round=>
   clear i l HV;obtain⟨a,S,b,lv,ha,q,A,i,l,m,HC,hK⟩:=hrel;have HK:=Ab q;clear q;obtain⟨r,u,rfl⟩:=Ak m;have Pl:=i.lt;have P0:=l.lt;have c0:=i.cell 0;have c1:=i.cell 1;have c2:=i.cell 2;have p0:=l.cell 0;have pf:=l.frozen 0;simp[AP]at c0 c1 c2 p0;cases S with
   |true=>
    (have FP:Hid ((b.map Bf.erase,a,true)=(D,E,B)):=by have h:=A.out.rest;show _=_;simpa[Eg] using h);go_wp2_with fail
    go_quiet (fail)
    (go_wp2_with fail);go_ret3;have d:=FP.out;simp only[aY]at d;exact⟨_,2,a,rfl,W.out 2 a (by rw[<-d.2.2,<-d.2.1];exact⟨rfl,rfl⟩),(λh=>by cases h),hK.drewN _⟩
   |false=>
    by_cases HU:a<s.size
    ·(have RI:(a:Int)<(s.size:Int):=by omega);obtain⟨f,N,F,HN⟩:∃f N F,AQ s a=(f,N,F):=⟨_,_,_,rfl⟩;(have Op:N<=s.size:=by have:=M2 s a ha;rw[HN]at this;exact this);have Os:b.length<=a:=A.out.len2 rfl;have H9:=Ab HN;clear HN;go_wp2_with fail
     go_region_law
      (first
       |(go_simp;go_at_call 44;refine(S9 w.heap.size s a _ FA ha (by first|exact i|exact i.drew)).mono ?_;rintro e G ⟨hv,bv,x,rfl,U,Ha,BA,HB,CC,I⟩;rw[Aa H9]at U Ha CC⊢;obtain⟨Q,P,rfl⟩:=Ak U;obtain⟨L,K,rfl⟩:=Ak BA;have X:=l.drew.kept I (by simp);have pc:=X.cell 0;have Mo:=X.frozen 0;have HO:=λo=>(X.alloc o).cell 0;simp at pc HO;simp only[Ch])
       |(refine dG _ (by rfl) _ _ _ (by rfl) (w.heap.size+2) 82 i0 _ 5 80 underlying74 Nq K7 NX MN rfl (by omega) (.slice r b.length u) b.length (b.flatMap Co) (by rfl) ((Ad (F3 m) I (by simp)).alloc _) ⟨G.heap.size,0,none⟩ 1 1 (Ch f (.slice Q f.head.args.length P) (.slice L x.length K)) (by rfl) (by rfl) (aF (cs:=(Ch f (.slice Q f.head.args.length P) (.slice L x.length K)).toArray) (t:=82) (fr:=(0,0)) (aS G _)) (by simp[Value.oneCell',Ch]) (by omega) (by unfold maxLen;omega) (by omega) (by simp;have:=I.size;simp at this;omega) (G.heap.size+1) (by simp) ?_;intro v cap w5 HD V H1 M0;have AT:=(X.alloc _).grown V (AJ m (w.heap.size+1) (by omega));have KK:=AT.cell 0;have LS:=AT.frozen 0;simp at KK))
     all_goals
      have OH:=I.size;have QQ:=(HD.lt v rfl).1;have H8:Bf.erase ⟨f.head, .slice Q f.head.args.length P, .slice L x.length K,x,f.at_⟩=f:=by
       unfold Bf.erase;simp only[Ha]
      obtain⟨H,AB⟩:∃H:Bf,H=⟨f.head, .slice Q f.head.args.length P, .slice L x.length K,x,f.at_⟩:=⟨_,rfl⟩;rw[<-AB]at H8;(have HR:Ch f (.slice Q f.head.args.length P) (.slice L x.length K)=Co H:=by rw[AB];rfl);have JJ:=Ab (A.out.step HU (by rw[Aa H9,H8]));have HS:MC G (w.heap.size+2) (.slice r b.length u) H:=by
       (have Go:w.heap.size+2<=wr.heap.size:=by omega);have e1:BX (.slice Q f.head.args.length P) (.slice r b.length u):=λk q Y=>by
        have Z:wr.heap.size<=k:=(U.lt k q).1;have d:=(m.lt k Y).2;omega
       have e2:BX (.slice L x.length K) (.slice r b.length u):=λk q Y=>by
        have Z:wr.heap.size<=k:=(BA.lt k q).1;have d:=(m.lt k Y).2;omega
       have e3:∀p∈x,BX p.2 (.slice r b.length u):=λp hp k q Y=>by
        have Z:wr.heap.size<=k:=(World.ownsRow.lt (HB p hp) k q).1;have d:=(m.lt k Y).2;omega
       rw[AB];exact⟨Ai U Go,Ai BA Go,λp hp=>Ai (HB p hp) Go,e1,e2,e3⟩
      have H6:Hid (∀c∈b++[H],MC (w5.setCell ⟨w.heap.size+1,0,none⟩ (.slice (some ⟨v,0,none⟩) (b.length+1) cap)) (w.heap.size+2) (.slice (some ⟨v,0,none⟩) (b.length+1) cap) c):=by
       intro c g;have h0:MC G (w.heap.size+2) (.slice r b.length u) c:=by
        rcases aw.1 g with g|g
        ·exact((HC.out c g).kept (w':=wr.drew) (M:=[]) (Ac.refl [] wr).drew (by simp)).kept I (by simp)
        ·simp only[ae]at g;subst g;exact HS
       (have Z:∀o,MC (G.alloc o) (w.heap.size+2) (.slice r b.length u) c:=λo=>h0.kept ((Ac.refl [] G).alloc o) (by simp));have d:=MC.grown (n:=b.length+1) (cap:=cap) (Z _) V H1 (by simp);exact d.kept ((Ac.refl [w.heap.size+1] w5).setCell (p:=⟨w.heap.size+1,0,none⟩) (by simp) _) (by simp)
      have H7:=((CC.alloc _).grown V (AJ m w.heap.size (by omega))).set_other ⟨w.heap.size+1,0,none⟩ (by simp) (.slice (some ⟨v,0,none⟩) (b.length+1) cap);have H2:=AT.set 0 (.slice (some ⟨v,0,none⟩) (b.length+1) cap);have HP:=(((hK.drew.trans' I (by simp)).alloc _).grown V (λk q=>Or.inr (by have:=(m.lt k q).1;omega))).setCell (p:=⟨w.heap.size+1,0,none⟩) (by simp) (.slice (some ⟨v,0,none⟩) (b.length+1) cap);have B9:=Ag HD (p:=⟨w.heap.size+1,0,none⟩) (by simp[Value.ownBlock];omega) (.slice (some ⟨v,0,none⟩) (b.length+1) cap);rw[HR]at B9;have K2:=HK;clear HD AT KK LS V H1 M0 X pc Mo HO U BA HB CC I HS m i l hK HC c0 c1 c2 p0 pf HR AB Ha;(go_wp2_with fail);refine(A1 w.heap.size s N F _ FA Op H7).mono ?_;rintro e w6 ⟨rfl,L0,R⟩;have K5:=H2.kept R (by simp);have K3:=Ad B9 R (by simp);(have M6:Hid (∀c∈b++[H],MC w6 (w.heap.size+2) (.slice (some ⟨v,0,none⟩) (b.length+1) cap) c):=λc g=>(H6.out c g).kept R (by simp));have LE:=HP.trans' R (by simp);clear H7 H2 HP B9 H6 R;go_wp2_with fail
      go_roundg (2*(s.size-As s N F)+(if F then 0 else 1))
      case measure=>have Z:=(Aa JJ).2.1;have d:=Aa K2;simp at d;omega
      case rel=>
       obtain⟨t1,_,t3⟩:=Aa JJ;refine⟨As s N F,F,b++[H], .slice (some ⟨v,0,none⟩) (b.length+1) cap,t1,rfl,t3,L0,K5,?_,M6,LE⟩;simpa using K3
    ·(have FP:Hid ((b.map Bf.erase,a,false)=(D,E,B)):=by have h:=A.out.rest;show _=_;simpa[Eg,Kk HU] using h);(have hd:decide ((a:Int)<(s.size:Int))=false:=by simp;omega);have FW:Cl wr (.slice r b.length u) b:=⟨Ai m (aG _),λc g=>(HC.out c g).cvIn⟩;have EX:UR b:=YU hs (by have:=A.out.len2 rfl;omega) A.out.lens (A.out.good rfl);obtain⟨SP,FO⟩:∃SP,Cj b=SP:=⟨_,rfl⟩;have EY:=Ab FO;have T:=VS (w.heap.size+1) _ b wr l FW EX;rw[FO]at T;have HT:=Ab T;have NS:=Ab FW;have LL:=Ab EX;clear T FO FW EX;(go_wp2_with fail);refine(Aa HT).mono ?_;rintro e w3 ⟨rfl,Bx⟩;have HW:=hK.trans Bx;have N2:=Ab (l.kept Bx (by simp));have Nx:=Ab ((Aa NS).kept Bx);clear HT Bx hK c0 c1 c2 p0 pf i l m;have d:=FP.out;simp only[aY]at d;obtain⟨J,sa⟩:=SP;simp only;by_cases C:J=0
     ·have HZ:Hid (Er s 0 0):=W.out 0 0 (by rw[<-d.2.2];exact⟨b,d.1,by rw[GF (by rw[Aa EY];exact C)]⟩);have K9:Hid (Sd s (.pointer (some ⟨w.heap.size+1,0,none⟩)) 0 w3):=by
       intro _;refine⟨_,r,u,b,rfl,Aa N2,Aa Nx,Aa LL,hs,?_,?_,GF (by rw[Aa EY];exact C)⟩
       ·rw[show Af s 0=j from O.out.1,O.out.2];exact d.2.2.symm
       ·rw[show Af s 0=j from O.out.1,O.out.2];exact d.1
      (have KS:(J !=0)=false:=by simp[C]);clear d C;(go_wp2_with fail);go_ret3;exact⟨_,0,0,rfl,HZ.out,K9.out,HW⟩
     ·have HZ:Hid (Er s J sa):=W.out J sa (by rw[<-d.2.2];exact⟨b,d.1,(Aa EY).symm⟩);(have KS:(J !=0)=true:=by simp[C]);have K1:=Ab C;clear d C;(go_wp2_with fail);go_ret3;exact⟨_,J,sa,rfl,HZ.out,(λh=>absurd h (Aa K1)),HW⟩
structure Aj where
 name:cL
 args:List cL
structure CM where
 f:Aj
 av:Value
def BU(p:CM):List Value:=[.string p.f.name,p.av]
def G8(w:World)(p:CM):Prop:=w.ownsRow 0 9 1 p.av p.f.args.length (p.f.args.flatMap Ae)
theorem G8.kept{w w':World}{p:CM}(h:G8 w p)(k:Ac [] w w'):G8 w' p:=Ad h k (by simp)
structure RX(f:Aj):Prop where
 len:f.args.length<=1000
 each:∀x∈f.args,0<x.size/\x.size<=1000000
def Gm:List cL->List cL->Bool
 |[],[]=>true
 |x::l,y::m=>(x.toList==y.toList)&&Gm l m
 |_,_=>false
def F5(a b:Aj):Bool:=(a.name.toList==b.name.toList)&&Gm a.args b.args
theorem Ti:∀(l m:List cL) (k:Nat) (a:k<l.length) (b:k<m.length),Gm (l.drop k) (m.drop k)=((l[k].toList==m[k].toList)&&Gm (l.drop (k+1)) (m.drop (k+1)))
 |l,m,k,a,b=>by
  rw[aC a,aC b,Gm]
theorem PJ:∀{l m:List cL},Gm l m=true->l.length=m.length
 |[],[],_=>rfl
 |[],_::_,h=>by cases h
 |_::_,[],h=>by cases h
 |_::l,_::m,h=>by
  rw[Gm,aO]at h;simp[PJ h.2]
theorem Gz{w:World}{base:Nat}{v:Value}{l:List cL}(h:w.ownsRow base 9 1 v l.length (l.flatMap Ae))(k:Nat)(d:k<l.length):∃g a,v= .slice (some ⟨g,0,none⟩) l.length a/\w.cell? ⟨g,k,none⟩=some (.string l[k]):=by
 obtain⟨g,a,e,_,f⟩:=AE h (λc _=>rfl) k d;have b:=f k d 0 (by omega);simp[Ae]at b;exact⟨g,a,e,b⟩
theorem Wj(a b:CM)(w:World)(v:G8 w a)(t:G8 w b)(Z:a.f.args.length<=1000000)(AB:b.f.args.length<=1000000):
  Calls prog 49 #[.agg (BU a).toArray, .agg (BU b).toArray] w λe U=>e= .returned (.bool (F5 a.f b.f))/\Ac [] w U:=by
 obtain⟨⟨j,c⟩,av⟩:=a;obtain⟨⟨g,d⟩,bv⟩:=b;unfold G8 at v t;simp only at v t Z AB;obtain⟨p,o,rfl⟩:=Ak v;obtain⟨m,q,rfl⟩:=Ak t;obtain⟨S,D⟩:∃S,F5 ⟨j,c⟩ ⟨g,d⟩=S:=⟨_,rfl⟩;rw[D];have s:Hid (((j.toList==g.toList)&&Gm c d)=S):=D;have X:=Ab v;have W:=Ab t;simp only[BU];have l:=Ab (((Ac.refl [] w).alloc (.cells [.string j, .slice p c.length o].toArray 43)).alloc (.cells [.string g, .slice m d.length q].toArray 43));have F:=(Aw.new w [.string j, .slice p c.length o] 43).alloc (.cells [.string g, .slice m d.length q].toArray 43);have J:Aw ((w.alloc (.cells [.string j, .slice p c.length o].toArray 43)).alloc (.cells [.string g, .slice m d.length q].toArray 43)) (w.heap.size+1) [.string g, .slice m d.length q] 43:=by
  have K:=Aw.new (w.alloc (.cells [.string j, .slice p c.length o].toArray 43)) [.string g, .slice m d.length q] 43;rw[show(w.alloc (.cells [.string j, .slice p c.length o].toArray 43)).heap.size=w.heap.size+1 from by simp]at K
  exact K
 have B:=Ab F;have C:=Ab J;clear D v t F J;cases hn:(j.toList==g.toList)with
 |false=>
  have r:Hid (S=false):=by show _=_;rw[<-Aa s,hn];rfl
  have O:(j.toList !=g.toList)=true:=by simp[bne,hn]
  clear s;go_enter func49,ntmps49;go_wp2;go_ret;rw[Aa r];exact⟨rfl,Aa l⟩
 |true=>
  have O:(j.toList !=g.toList)=false:=by simp[bne,hn]
  by_cases u:c.length=d.length
  ·(have r:Hid (Gm (c.drop 0) (d.drop 0)=S):=by show _=_;rw[<-Aa s,hn];rfl);(have G:((c.length:Int) !=(d.length:Int))=false:=by simp[u]);(have M:((c.length:Int)==(d.length:Int))=true:=by simp[u]);have H:=Ab u;clear u s;go_enter func49,ntmps49;go_wp2;change Code.wp _ _ _ _ ((w.alloc (.cells [.string j, .slice p c.length o].toArray 43)).alloc (.cells [.string g, .slice m d.length q].toArray 43));generalize(w.alloc (.cells [.string j, .slice p c.length o].toArray 43)).alloc (.cells [.string g, .slice m d.length q].toArray 43)=w1 at l B C⊢;generalize w.heap.size=N at B C⊢;clear hn O G M
   go_loopg [5] c.length (λgk i wr=>∃(k:Nat),i= .int .i64 k/\k<=c.length/\gk=c.length-k/\Hid (Gm (c.drop k) (d.drop k)=S)/\Hid (Ac [] w wr)/\Hid (Ac [] w1 wr))
   case atStart=>exact⟨0,rfl,by omega,rfl,r,l,Ac.refl _ _⟩
   case round=>
    clear r l;obtain⟨k,rfl,hk,I,z,l,y⟩:=hrel;have V:=Ab I;clear I;have e1:=((Aa B).kept (Aa y) (by simp)).cell 1;have Y:=((Aa C).kept (Aa y) (by simp)).cell 1;simp at e1 Y;by_cases E:k<c.length
    ·(have Q:k<d.length:=by have:=Aa H;omega);obtain⟨g1,q1,P,d1⟩:=Gz (Ad (Aa X) (Aa l) (by simp)) k E;obtain⟨g2,q2,L,d2⟩:=Gz (Ad (Aa W) (Aa l) (by simp)) k Q;simp only[Z6]at P L;obtain⟨rfl,_,rfl⟩:=P;obtain⟨rfl,_,rfl⟩:=L;have R:=Ab (Ti c d k E Q);(have A:Hid (∀n,Ac [] w (wr.drewN n)/\Ac [] w1 (wr.drewN n)):=λn=>⟨(Aa l).drewN n,(Aa y).drewN n⟩);cases hx:(c[k].toList==d[k].toList)with
     |true=>
      (have T:(c[k].toList !=d[k].toList)=false:=by simp[bne,hx]);have x:Hid (Gm (c.drop (k+1)) (d.drop (k+1))=S):=by
       have h:=Aa z;rw[Aa R,hx]at h;exact h
      go_wp2_with fail
      go_quiet (fail)
      go_wp2
      go_roundg (c.length-(k+1))
      case measure=>have:=Aa V;omega
      case rel=>exact⟨k+1,by go_num,by omega,rfl,x,(Aa A _).1,(Aa A _).2⟩
     |false=>
      (have T:(c[k].toList !=d[k].toList)=true:=by simp[bne,hx]);have x:Hid (S=false):=by
       have h:=Aa z;rw[Aa R,hx]at h;exact h.symm
      go_wp2_with fail
      go_quiet (fail)
      go_wp2;go_ret;rw[Aa x];exact⟨rfl,(Aa A _).1⟩
    ·have x:Hid (S=true):=by
      have h:=Aa z;rw[aQ (by omega),aQ (by have:=Aa H;omega)]at h;exact h.symm
     go_wp2;go_ret;rw[Aa x];exact⟨rfl,Aa l⟩
  ·(have G:((c.length:Int) !=(d.length:Int))=true:=by simp[bne];omega);(have M:((c.length:Int)==(d.length:Int))=false:=by rw[bc];omega);have r:Hid (S=false):=by
    show _=_;rw[<-Aa s,hn];cases h:Gm c d with
    |false=>rfl
    |true=>exact absurd (PJ h) u
   clear s;go_enter func49,ntmps49;go_wp2;go_ret;rw[Aa r];exact⟨rfl,Aa l⟩
def D1:List cL->List cL->Bool
 |[],m=>decide (0<m.length)
 |_::_,[]=>false
 |x::l,y::m=>if x.toList==y.toList then D1 l m else ES x y
def Di(a b:Aj):Bool:=if a.name.toList==b.name.toList then D1 a.args b.args else Op.bytesLess a.name.toList b.name.toList
theorem RF(l m:List cL)(k:Nat)(a:k<l.length)(b:k<m.length):D1 (l.drop k) (m.drop k)=if l[k].toList==m[k].toList then D1 (l.drop (k+1)) (m.drop (k+1))else ES l[k] m[k]:=by
 rw[aC a,aC b,D1]
theorem Nz(l m:List cL)(k:Nat)(h:k<=l.length)(d:¬(k<l.length/\k<m.length))(c:k<=m.length):D1 (l.drop k) (m.drop k)=decide (l.length<m.length):=by
 by_cases b:k<l.length
 ·have a:m.length<=k:=by omega
  rw[aC b,aQ a,D1];simp;omega
 ·rw[aQ (show l.length<=k by omega),D1,aL];have:l.length=k:=by omega
  rw[this];by_cases a:k<m.length
  ·(have:0<m.length-k:=by omega);simp[a,this]
  ·(have:¬0<m.length-k:=by omega);simp[a,this]
theorem Vk(a b:CM)(w:World)(t:G8 w a)(s:G8 w b)(G:RX a.f)(B:RX b.f):
  Calls prog 46 #[.agg (BU a).toArray, .agg (BU b).toArray] w λe w'=>e= .returned (.bool (Di a.f b.f))/\Ac [] w w':=by
 obtain⟨⟨j,c⟩,av⟩:=a;obtain⟨⟨g,d⟩,bv⟩:=b;unfold G8 at t s;have FA:=G.len;have Bx:=B.len;have T:=Ab G.each;have L:=Ab B.each;simp only at t s FA Bx T L;clear G B;obtain⟨q,m,rfl⟩:=Ak t;obtain⟨p,o,rfl⟩:=Ak s;obtain⟨S,I⟩:∃S,Di ⟨j,c⟩ ⟨g,d⟩=S:=⟨_,rfl⟩;rw[I];have z:Hid ((if j.toList==g.toList then D1 c d else Op.bytesLess j.toList g.toList)=S):=I;have HA:=Ab t;have HB:=Ab s;simp only[BU];have l:=Ab (((Ac.refl [] w).alloc (.cells [.string j, .slice q c.length m].toArray 43)).alloc (.cells [.string g, .slice p d.length o].toArray 43));have K:=(Aw.new w [.string j, .slice q c.length m] 43).alloc (.cells [.string g, .slice p d.length o].toArray 43);have W:Aw ((w.alloc (.cells [.string j, .slice q c.length m].toArray 43)).alloc (.cells [.string g, .slice p d.length o].toArray 43)) (w.heap.size+1) [.string g, .slice p d.length o] 43:=by
  have X:=Aw.new (w.alloc (.cells [.string j, .slice q c.length m].toArray 43)) [.string g, .slice p d.length o] 43;rw[show(w.alloc (.cells [.string j, .slice q c.length m].toArray 43)).heap.size=w.heap.size+1 from by simp]at X
  exact X
 have D:=Ab K;have E:=Ab W;clear I t s K W;cases hn:(j.toList==g.toList)with
 |false=>
  have v:Hid (Op.bytesLess j.toList g.toList=S):=by show _=_;rw[<-Aa z,hn];rfl
  have AB:(j.toList !=g.toList)=true:=by simp[bne,hn]
  clear z;go_enter func46,ntmps46;go_wp2;go_ret;exact⟨Bb v.out,Aa l⟩
 |true=>
  have AB:(j.toList !=g.toList)=false:=by simp[bne,hn]
  have v:Hid (D1 (c.drop 0) (d.drop 0)=S):=by show _=_;rw[<-Aa z,hn];rfl
  clear z;go_enter func46,ntmps46;go_wp2;change Code.wp _ _ _ _ ((w.alloc (.cells [.string j, .slice q c.length m].toArray 43)).alloc (.cells [.string g, .slice p d.length o].toArray 43));generalize(w.alloc (.cells [.string j, .slice q c.length m].toArray 43)).alloc (.cells [.string g, .slice p d.length o].toArray 43)=w1 at l D E⊢;generalize w.heap.size=N at D E⊢;clear hn AB
  go_loopg [5] c.length (λgk i wr=>∃(k:Nat),i= .int .i64 k/\k<=c.length/\k<=d.length/\gk=c.length-k/\Hid (D1 (c.drop k) (d.drop k)=S)/\Hid (Ac [] w wr)/\Hid (Ac [] w1 wr))
  case atStart=>exact⟨0,rfl,by omega,by omega,rfl,v,l,Ac.refl _ _⟩
  case round=>
   clear v l;obtain⟨k,rfl,O,Z,R,x,l,u⟩:=hrel;have HG:=Ab R;clear R;have H:=((Aa D).kept (Aa u) (by simp)).cell 1;have C:=((Aa E).kept (Aa u) (by simp)).cell 1;simp at H C;by_cases A:k<c.length
   ·by_cases F:k<d.length
    ·obtain⟨U,q1,Ax,Q⟩:=Gz (Ad (Aa HA) (Aa l) (by simp)) k A;obtain⟨P,q2,Y,J⟩:=Gz (Ad (Aa HB) (Aa l) (by simp)) k F;simp only[Z6]at Ax Y;obtain⟨rfl,_,rfl⟩:=Ax;obtain⟨rfl,_,rfl⟩:=Y;have AT:=Ab (RF c d k A F);(have y:Hid (∀n,Ac [] w (wr.drewN n)/\Ac [] w1 (wr.drewN n)):=λn=>⟨(Aa l).drewN n,(Aa u).drewN n⟩);cases hx:(c[k].toList==d[k].toList)with
     |true=>
      (have BT:(c[k].toList !=d[k].toList)=false:=by simp[bne,hx]);have r:Hid (D1 (c.drop (k+1)) (d.drop (k+1))=S):=by
       have h:=Aa x;rw[Aa AT,hx]at h;exact h
      go_wp2_with fail
      go_quiet (fail)
      go_wp2
      go_roundg (c.length-(k+1))
      case measure=>have:=Aa HG;omega
      case rel=>exact⟨k+1,by go_num,by omega,by omega,rfl,r,(Aa y _).1,(Aa y _).2⟩
     |false=>
      (have BT:(c[k].toList !=d[k].toList)=true:=by simp[bne,hx]);have r:Hid (ES c[k] d[k]=S):=by
       have h:=Aa x;rw[Aa AT,hx]at h;exact h
      have V:=Aa T c[k] (Z7 A);have AH:=Aa L d[k] (Z7 F);go_wp2_with fail
      go_quiet (fail)
      (go_wp2_with fail);have FC:(wr.drewN nq).cell? ⟨N,1,none⟩=some (.slice (some ⟨U,0,none⟩) c.length m):=H;have BA:(wr.drewN nq).cell? ⟨N+1,1,none⟩=some (.slice (some ⟨P,0,none⟩) d.length o):=C;have B9:(wr.drewN nq).cell? ⟨U,k,none⟩=some (.string c[k]):=Q;have CL:(wr.drewN nq).cell? ⟨P,k,none⟩=some (.string d[k]):=J;have M:=Ab (Aa y nq).1;clear y H C Q J u l;generalize wr.drewN nq=wq at FC BA B9 CL M⊢
      go_quiet ((go_at_call 86;exact bu (KG _ _ _ V.1 AH.1 V.2 AH.2)))
      go_wp2;go_ret;exact⟨Bb r.out,(Aa M).drewN _⟩
    ·(have FF:¬(k:Int)<(d.length:Int):=by omega);have r:Hid (decide (c.length<d.length)=S):=by
      show _=_;rw[<-Aa x,Nz c d k O (by omega) Z]
     go_wp2;go_ret;exact⟨Bb r.out,Aa l⟩
   ·have r:Hid (decide (c.length<d.length)=S):=by
     show _=_;rw[<-Aa x,Nz c d k O (by omega) Z]
    go_wp2;go_ret;exact⟨Bb r.out,Aa l⟩
structure F4(w:World)(sv:Value)(fs:List CM):Prop where
 row:w.ownsRow 0 43 2 sv fs.length (fs.flatMap BU)
 each:∀p∈fs,G8 w p/\RX p.f
theorem F4.kept{w w':World}{c:Value}{b:List CM}(h:F4 w c b)(k:Ac [] w w'):F4 w' c b:=⟨Ad h.row k (by simp),λp a=>⟨(h.each p a).1.kept k,(h.each p a).2⟩⟩
theorem Fe{w:World}{r:Value}{b:List CM}(h:F4 w r b)(k:Nat)(d:k<b.length):
  ∃g m n a i f,r= .slice (some ⟨g,0,none⟩) b.length m/\b[k]=⟨⟨n,a⟩, .slice i a.length f⟩/\w.cell? ⟨g,k*2,none⟩=some (.string n)/\w.cell? ⟨g,k*2+1,none⟩=some (.slice i a.length f):=by
 obtain⟨g,m,t,_,s⟩:=AE h.row (λc _=>rfl) k d;have j:=s k d 0 (by omega);have l:=s k d 1 (by omega);obtain⟨⟨⟨n,a⟩,u⟩,o⟩:∃p,b[k]=p:=⟨_,rfl⟩;have q:=(h.each _ (Z7 d)).1;rw[o]at j l q;obtain⟨i,f,e⟩:=Ak q;simp only at e;subst e;simp[BU]at j l;exact⟨g,m,n,a,i,f,t,o,j,l⟩
theorem Ob(G:Option Addr)(L:Nat)(a:List CM)(x:CM)(w:World)(h:F4 w (.slice G a.length L) a)(z:G8 w x)(AH:a.length<=1000000)(D:RX x.f):
  Calls prog 21 #[.slice G a.length L, .agg (BU x).toArray] w λe t=>e= .returned (.bool (a.any λp=>F5 p.f x.f))/\Ac [] w t:=by
 have P:Hid (∀(p:CM) wr,p∈a->Ac [] w wr->Calls prog 49 #[.agg (BU p).toArray, .agg (BU x).toArray] wr λe t=>e= .returned (.bool (F5 p.f x.f))/\Ac [] wr t):=λp wr I u=>Wj p x wr ((h.each p I).1.kept u) (z.kept u) (by have:=(h.each p I).2.len;omega) (by have:=D.len;omega)
 have V:=Ab h;obtain⟨⟨c,b⟩,Z⟩:=x;obtain⟨m,l,J⟩:=Ak z;simp only at J;subst J;obtain⟨R,A⟩:∃R,(a.any λp=>F5 p.f ⟨c,b⟩)=R:=⟨_,rfl⟩;rw[show(a.any λp=>F5 p.f (⟨⟨c,b⟩, .slice m b.length l⟩:CM).f)=R from A]
 have M:=Ab A;have d:=Ab (Aw.new w [.string c, .slice m b.length l] 43);have j:=Ab ((Ac.refl [] w).alloc (.cells [.string c, .slice m b.length l].toArray 43));clear h z D A;simp only[BU]at P⊢;go_enter func21,ntmps21;go_wp2;change Code.wp _ _ _ _ (w.alloc (.cells [.string c, .slice m b.length l].toArray 43));generalize w.alloc (.cells [.string c, .slice m b.length l].toArray 43)=w1 at d j⊢;generalize w.heap.size=N at d⊢
 go_loopg [5,6] a.length (λgk i q wr=>∃(k:Nat),i= .int .i64 k/\k<=a.length/\gk=a.length-k/\Hid ((a.take k).any (λp=>F5 p.f ⟨c,b⟩)=false)/\Hid (Ac [] w wr)/\Hid (Aw wr N [.string c, .slice m b.length l] 43))
 case atStart=>exact⟨0,rfl,by omega,rfl,by show _=_;simp,j,d⟩
 case round=>
  clear d j;obtain⟨k,rfl,u,F,H,j,d⟩:=hrel;have S:=Ab F;clear F;by_cases r:k<a.length
  ·obtain⟨g,AB,n,B,ad,cp,O,s,d0,d1⟩:=Fe ((Aa V).kept (Aa j)) k r;simp only[Z6]at O;obtain⟨rfl,_,rfl⟩:=O;have X:=(Aa d).cell 0;have T:=(Aa d).cell 1;simp at X T;have o:=Ab (Aa P a[k] wr.drew (Z7 r) (Aa j).drew);have K:Hid (F5 ⟨n,B⟩ ⟨c,b⟩=true->R=true):=by
    intro y;rw[<-Aa M];exact Ip _ _ k r (by rw[s];exact y)
   have E:Hid (F5 ⟨n,B⟩ ⟨c,b⟩=false->(a.take (k+1)).any (λp=>F5 p.f ⟨c,b⟩)=false):=by
    intro y;rw[CB _ _ k r (Aa H),s];exact y
   rw[s]at o;simp only at o;generalize F5 ⟨n,B⟩ ⟨c,b⟩=SB at o K E;clear s;go_wp2_with fail
   go_region_law (go_simp;go_at_call 49;refine(Aa o).mono ?_;rintro e Y ⟨rfl,v⟩;have Q:=Ab ((Aa j).drew.trans v);have U:=Ab ((Aa d).drew.kept v (by simp));clear v)
   all_goals
    clear o;cases SB with
    |true=>
     have C:=Ab (Aa K rfl);go_wp2;go_ret;rw[Aa C];exact⟨rfl,Aa Q⟩
    |false=>
     have C:=Ab (Aa E rfl);go_wp2
     go_roundg (a.length-(k+1))
     case measure=>have:=Aa S;omega
     case rel=>exact⟨k+1,by go_num,by omega,rfl,C,Q,U⟩
  ·have W:Hid (R=false):=by
    have h:=Aa H;rw[Z9 (by omega)]at h;show _=_;rw[<-Aa M];exact h
   go_wp2;go_ret;rw[W.out];exact⟨rfl,Aa j⟩
