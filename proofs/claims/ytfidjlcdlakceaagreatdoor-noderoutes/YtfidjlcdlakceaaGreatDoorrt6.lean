import Derived.Test.YtfidjlcdlakceaaGreatDoorrt5
namespace Go.Proofs.YtfidjlcdlakceaaGreatDoor
namespace Wh
open Go.RowKit
set_option maxHeartbeats 400000 in
theorem fq(a:Option Addr)(cap:Nat)(fv:Value)(w:World) :
 Calls Tryz.prog 199 #[.slice a 0 cap,fv] w λe w'=>e=.returned (.bool true)/\w'=w:=by
 go_enter Tryz.func199,Tryz.ntmps199;go_wp2_with fail;go_loop [5] (λi=>i=.int .i64 1) (λ_=>0)
 case atStart=>rfl
 case round=>
  subst hrel;go_wp2_with fail;go_ret;exact⟨rfl,rfl⟩
end Wh
end Go.Proofs.YtfidjlcdlakceaaGreatDoor
