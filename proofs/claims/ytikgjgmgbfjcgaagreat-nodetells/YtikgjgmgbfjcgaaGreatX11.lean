import Derived.Test.YtikgjgmgbfjcgaaGreatX5
namespace Go.Proofs.YtikgjgmgbfjcgaaGreat
open Go.RowKit
def dp:Pl:=⟨0,0,0,0,0⟩
def PRow (w:World) (b off:Nat) (ps:List Pl):Prop:=∀ k,k < ps.length →
 w.cell? ⟨b,off+k * 5,none⟩=some (.int .i64 (ps.getD k dp).x)∧w.cell? ⟨b,off+k * 5+1,none⟩=some (.int .i64 (ps.getD k dp).y)∧w.cell? ⟨b,off+k * 5+2,none⟩=some (.int .i64 (ps.getD k dp).z)∧w.cell? ⟨b,off+k * 5+3,none⟩=some (.int .i64 (ps.getD k dp).h)∧w.cell? ⟨b,off+k * 5+4,none⟩=some (.int .i64 (ps.getD k dp).s)
theorem PRow.below {w w':World} {b off:Nat} {ps:List Pl} (h:PRow w b off ps) (hb:Below w.heap.size w w'):PRow w' b off ps:=fun k hk=>by
 obtain ⟨h0,h1,h2,h3,h4⟩:=h k hk
 have hlt:b < w.heap.size:=World.block_lt_of_cell? w ⟨b,off+k * 5,none⟩ h0
 exact ⟨by rw [hb.cell hlt];exact h0,by rw [hb.cell hlt];exact h1,by rw [hb.cell hlt];exact h2,by rw [hb.cell hlt];exact h3,by rw [hb.cell hlt];exact h4⟩
def betw (n a b:Int):Bool:=decide (a≤n) && decide (n≤b)
theorem retb {a b:Bool} (h:a=b):Ending.returned (.bool a)=.returned (.bool b):=by rw [h]
set_option maxHeartbeats 400000 in
theorem between_any' (n a b:Int) (w:World) :
 Calls Tryz.prog 43 #[.int .i64 n,.int .i64 a,.int .i64 b] w fun e w'=>e=.returned (.bool (betw n a b))∧w'=w:=by
 go_enter Tryz.func43,Tryz.ntmps43
 go_wp2
 all_goals
  go_ret
  exact ⟨retb (by unfold betw;rw [Bool.eq_iff_iff];simp;try omega),rfl⟩
theorem betw_true {n a b:Int} (h:betw n a b=true):a≤n∧n≤b:=by simpa [betw] using h
theorem betw_false {n a b:Int} (h:betw n a b=false):¬ (a≤n∧n≤b):=by
 intro g;simp [betw,g.1,g.2] at h
theorem chkP_three {p:Pl} (h:¬ OkP p):chkP p=3:=(chkP_or p).resolve_left (fun e=>h ((okP_iff p).1 e))
set_option maxHeartbeats 1600000 in
theorem checkPlace_any (p:Pl) (w:World) :
 Calls Tryz.prog 50 #[.agg #[.int .i64 p.x,.int .i64 p.y,.int .i64 p.z,.int .i64 p.h,.int .i64 p.s]] w fun e w'=>e=.returned (.int .i64 (chkP p))∧w'=w.alloc (.cells #[.int .i64 p.x,.int .i64 p.y,.int .i64 p.z,.int .i64 p.h,.int .i64 p.s] 27):=by
 have HK:=okP_iff p
 have H3:Hid (¬ OkP p→chkP p=3):=chkP_three
 have HX:Hid (chkP p=0↔OkP p):=HK
 clear HK
 rcases h1:betw p.x (-10000000) 10000000 with _ | _
 ·have HE:Hid (chkP p=3):=H3.out (fun o=>betw_false h1 ⟨o.x0,o.x1⟩)
  clear HX H3
  go_enter Tryz.func50,Tryz.ntmps50
  go_wp2_with (go_at_call 43;refine (between_any' _ _ _ _).mono ?_;rintro e w' ⟨rfl,rfl⟩;rw [h1])
  go_ret
  exact ⟨retn HE.out.symm,rfl⟩
 rcases h2:betw p.y (-10000000) 10000000 with _ | _
 ·have HE:Hid (chkP p=3):=H3.out (fun o=>betw_false h2 ⟨o.y0,o.y1⟩)
  clear HX H3
  go_enter Tryz.func50,Tryz.ntmps50
  go_wp2_with (go_at_call 43;refine (between_any' _ _ _ _).mono ?_;rintro e w' ⟨rfl,rfl⟩;first | rw [h1] | rw [h2])
  go_ret
  exact ⟨retn HE.out.symm,rfl⟩
 rcases h3:betw p.z (-10000000) 10000000 with _ | _
 ·have HE:Hid (chkP p=3):=H3.out (fun o=>betw_false h3 ⟨o.z0,o.z1⟩)
  clear HX H3
  go_enter Tryz.func50,Tryz.ntmps50
  go_wp2_with (go_at_call 43;refine (between_any' _ _ _ _).mono ?_;rintro e w' ⟨rfl,rfl⟩;first | rw [h1] | rw [h2] | rw [h3])
  go_ret
  exact ⟨retn HE.out.symm,rfl⟩
 rcases h4:betw p.h 0 1000000 with _ | _
 ·have HE:Hid (chkP p=3):=H3.out (fun o=>betw_false h4 ⟨o.h0,o.h1⟩)
  clear HX H3
  go_enter Tryz.func50,Tryz.ntmps50
  go_wp2_with (go_at_call 43;refine (between_any' _ _ _ _).mono ?_;rintro e w' ⟨rfl,rfl⟩;first | rw [h1] | rw [h2] | rw [h3] | rw [h4])
  go_ret
  exact ⟨retn HE.out.symm,rfl⟩
 rcases h5:betw p.s 0 1000 with _ | _
 ·have HE:Hid (chkP p=3):=H3.out (fun o=>betw_false h5 ⟨o.s0,o.s1⟩)
  clear HX H3
  go_enter Tryz.func50,Tryz.ntmps50
  go_wp2_with (go_at_call 43;refine (between_any' _ _ _ _).mono ?_;rintro e w' ⟨rfl,rfl⟩;first | rw [h1] | rw [h2] | rw [h3] | rw [h4] | rw [h5])
  go_ret
  exact ⟨retn HE.out.symm,rfl⟩
 ·have HE:Hid (chkP p=0):=HX.out.2 ⟨(betw_true h1).1,(betw_true h1).2,(betw_true h2).1,(betw_true h2).2,(betw_true h3).1,(betw_true h3).2,(betw_true h4).1,(betw_true h4).2,(betw_true h5).1,(betw_true h5).2⟩
  clear HX H3
  go_enter Tryz.func50,Tryz.ntmps50
  go_wp2_with (go_at_call 43;refine (between_any' _ _ _ _).mono ?_;rintro e w' ⟨rfl,rfl⟩;first | rw [h1] | rw [h2] | rw [h3] | rw [h4] | rw [h5])
  go_ret
  exact ⟨retn HE.out.symm,rfl⟩
end Go.Proofs.YtikgjgmgbfjcgaaGreat
