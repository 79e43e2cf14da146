import Derived.Lib.SliceRun
import Derived.Test.YtoihbhenbmffcaaGreatZBB
set_option linter.all false
set_option maxHeartbeats 0
open Option renaming none->Y,some->V
open Go.Value renaming slice->U,pointer->j2
namespace Go.Proofs.YtoihbhenbmffcaaGreat
open Go.RowKit Go.Proofs.Tryz
set_option maxRecDepth 100000
theorem XT(d:Option Addr)(b n:Nat)(c:kJ Value)(w:World)(h:w.ownsRow 0 120 4 (U d n b) n c)(R:n<=1000)(o:∀u∈c,u.oneCell'=true):
  Calls prog 51 #[U d n b] w λe m=>∃(i:Option Addr) (s:Nat),e=.returned (U i n s)/\m.ownsRow w.heap.size 120 4 (U i n s) n c/\Ac [] w m:=by
 have k:=Ab h;have G:=Ab o;clear h o;have f:∀(w:World),(binOp .eql 40 (U d n b) (U Y 0 0)).run prog w=.ok (.bool d.isNone) w:=λw=>Lib.run_eql_slice_nil w 40 120 d n b 0 0 underlying40
 cases d with
 |none=>
  simp only[Option.isNone_none]at f;obtain⟨rfl,rfl⟩:n=0/\b=0:=by
   rcases(Aa k).2 with⟨e,y⟩|⟨g,p,Q,e,_⟩
   .simp only[fg]at e;exact⟨y,e.2.2⟩
   .simp at e
  obtain rfl:c=[]:=iu (by have:=(Aa k).1;simpa using this);go_enter func51,ntmps51;go_wp2;go_ret;exact⟨Y,0,rfl,fK _ _ _ _,kL _ _⟩
 |some a=>
  simp only[Option.isNone_some]at f;obtain⟨B,P,x,A,C⟩:=gH Tryz.info120;obtain⟨N,j⟩:=kK w.heap.size;have E:=Ab j;have l:World.ownsRow (w.alloc (.cells #[] 120)) N 120 4 (U (V ⟨N,0,Y⟩) 0 0) 0 []:=by
   refine⟨by simp,Or.inr ⟨N,0,#[],rfl,fJ _,?_,fJ _,by unfold maxLen;omega,by simp,by simp⟩⟩;have h:=fX w (.cells #[] 120 (0,0));rw[j]at h;exact h
  have v:World.ownsRow (w.alloc (.cells #[] 120)) 0 120 4 (U (V a) n b) n c:=fw (Aa k) _;have z:=Ab ((kL [] w).alloc (.cells #[] 120));have I:=Ab l;have L:=Ab v;have D:(w.alloc (.cells #[] 120)).heap.size=N+1:=by rw[fY,j]
  clear l v;go_enter func51,ntmps51;go_wp2_with (at_builtin;refine Fh _ rfl (.tmp 5) (.tmp 6) _ rfl N 120 B _ 4 72 underlying40 P x A C rfl (by omega) (V ⟨N,0,Y⟩) 0 0 [] rfl (Aa I) 0 (V a) n b c rfl (Aa L) (Aa G) (by unfold maxLen;omega) (by omega) (by rw[D];omega) ?_;intro i p S r t F)
  have M:=Ab r;have H:=Ab ((Aa z).grown t (λq f=>Or.inr (by simp[Value.ownBlock]at f;have:=Aa E;omega)));clear r t F;go_ret;refine⟨i,p,by simp,?_,H⟩;have h:=Aa M;simp only[gE,ia]at h;rw[j];exact h
def Io(v:Value)(w:World)(e:Ending)(w':World):Prop:=∃b1:Nat,e=.returned (.func (.func 125) #[] #[j2 (V ⟨b1,0,Y⟩)])/\AF w' b1 [v] 43/\w.heap.size<=b1/\Ac [] w w'
theorem VJ(b:Option Addr)(n a:Nat)(w:World):Calls prog 90 #[U b n a] w (Io (U b n a) w):=by
 have c:Hid (Io (U b n a) w (.returned (.func (.func 125) #[] #[j2 (V ⟨w.heap.size,0,Y⟩)])) (w.alloc (.cells #[U b n a] 43))):=⟨w.heap.size,rfl,kN w [U b n a] 43,fJ _,(kL [] w).alloc _⟩;go_enter func90,ntmps90;go_wp2_with fail
 go_ret;exact c
theorem V8(i g:Nat)(b:Option Addr)(n a:Nat)(w:World)(l:w.cell? ⟨i,g,Y⟩=V (U b n a)):Calls prog 52 #[j2 (V ⟨i,g,Y⟩)] w (Io (U b n a) w):=by
 have f:=Ab (VJ b n a w);go_enter func52,ntmps52;go_wp2_with fail
 refine f.mono ?_;rintro _ k ⟨c,rfl,e,d,h⟩;have j:Hid (Io (U b n a) w (.returned (.func (.func 125) #[] #[j2 (V ⟨c,0,Y⟩)])) k):=⟨c,rfl,e,d,h⟩;clear f e d h;go_wp2_with fail
 go_ret;exact j
