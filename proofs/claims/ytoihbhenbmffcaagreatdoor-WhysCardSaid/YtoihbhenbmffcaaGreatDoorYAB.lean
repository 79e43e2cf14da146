import Derived.Test.YtoihbhenbmffcaaGreatDoorYAA
set_option linter.all false
set_option maxHeartbeats 0
namespace Go.Proofs.YtoihbhenbmffcaaGreatDoor
open Go.RowKit Go.Proofs.Tryz
def JB(n:Nat):g0:=if n<10 then⟨#[UInt8.ofNat (48+n)]⟩else⟨#[49,UInt8.ofNat (38+n)]⟩
set_option maxRecDepth 100000
theorem XN(n:Nat)(c:n<12)(w:World):Calls prog 209 #[.int .i64 n] w λe a=>e=.returned (.string (JB n))/\a=w:=by
 have b:n=0\/n=1\/n=2\/n=3\/n=4\/n=5\/n=6\/n=7\/n=8\/n=9\/n=10\/n=11:=by omega
 rcases b with rfl|rfl|rfl|rfl|rfl|rfl|rfl|rfl|rfl|rfl|rfl|rfl;all_goals
  go_enter func209,ntmps209;go_wp2;go_ret;exact⟨by first|rfl|decide|(simp[JB];trace_state),rfl⟩
set_option maxRecDepth 512
theorem P7(n:Nat)(d:n<12)(w:World):Calls prog 183 #[.int .i64 n,.int .i64 10] w λe b=>e=.returned (.string (JB n))/\b=w:=by
 have c:=Ab (XN n d w);have h:(0:Int)<=(n:Int):=by omega
 have g:(n:Int)<100:=by omega
 go_enter func183,ntmps183;go_wp2_with fail
 refine c.mono ?_;rintro e f ⟨rfl,a⟩;subst a;go_wp2;go_ret;exact⟨rfl,rfl⟩
theorem XX(n:Nat)(d:n<12)(w:World):Calls prog 147 #[.int .i64 n] w λe b=>e=.returned (.string (JB n))/\b=w:=by
 have c:=Ab (P7 n d w);go_enter func147,ntmps147;go_wp2_with fail
 refine c.mono ?_;rintro e f ⟨rfl,a⟩;subst a;go_wp2;go_ret;exact⟨rfl,rfl⟩
theorem ae(n:Nat)(d:n<12)(w:World):Calls prog 99 #[.int .i64 n] w λe b=>e=.returned (.string (JB n))/\b=w:=by
 have c:=Ab (XX n d w);go_enter func99,ntmps99;go_wp2_with fail
 refine c.mono ?_;rintro e f ⟨rfl,a⟩;subst a;go_wp2;go_ret;exact⟨rfl,rfl⟩
