import Derived.Test.YtffdoiokmiklgaaGreatDoorX27
namespace Go.Proofs.YtffdoiokmiklgaaGreatDoor
open Go.RowKit
set_option maxHeartbeats 6400000 in
set_option maxRecDepth 100000 in
theorem lose_any (C g j:Nat) (un ul:Value) (ls:List Lt.Ltr) (v:Ev) (w:World) (h:Plr C w g un ul ls v) (h20:ls.length≤20) (hv:v.which=(j:Int)) (hj:j < ls.length) :
 Calls Tryz.prog 103 #[.pointer (some ⟨g,0,none⟩)] w fun e w'=>e=.returned (.int .i64 0)∧Mv C w w'∧∃ a k c,Plr C w' g un (.slice a k c) (ls.eraseIdx j) v:=by
 obtain ⟨lb,cu,hul⟩:∃ lb cu,ul=.slice (some ⟨lb,0,none⟩) ls.length cu:=by
  rcases h.ls.2 with ⟨_,h0⟩ | ⟨b',c,cur,rfl,_⟩
  ·omega
  ·exact ⟨b',c,rfl⟩
 subst hul
 have hgl:g < w.heap.size:=(Array.getElem?_eq_some_iff.1 h.hg).1
 have y1:w.cell? ⟨g,1,none⟩=some (.slice (some ⟨lb,0,none⟩) ls.length cu):=cellsAt h.hg 1
 have y3:w.cell? ⟨g,3,none⟩=some (.int .i64 (j:Int)):=by rw [← hv];exact cellsAt h.hg 3
 have hne:lb≠g:=fun e=>by
  obtain ⟨_,cs,h2⟩:=row_block h.ls (show (Value.slice (some ⟨lb,0,none⟩) ls.length cu).ownBlock=some g by rw [e];rfl)
  rw [h.hg] at h2
  simp at h2
 have HD:Hid (Calls Tryz.prog 151 #[.slice (some ⟨lb,0,none⟩) ls.length cu,.int .i64 j,.int .i64 (j+1)] w.drew fun e w'=>e=.returned (.slice (some ⟨lb,0,none⟩) (ls.length - 1) cu)∧w'.cell? ⟨g,1,none⟩=some (.slice (some ⟨lb,0,none⟩) ls.length cu)∧w'.frozen? ⟨g,1,none⟩=false∧Hid (Mv C w (w'.setCell ⟨g,1,none⟩ (.slice (some ⟨lb,0,none⟩) (ls.length - 1) cu))∧Plr C (w'.setCell ⟨g,1,none⟩ (.slice (some ⟨lb,0,none⟩) (ls.length - 1) cu)) g un (.slice (some ⟨lb,0,none⟩) (ls.length - 1) cu) (ls.eraseIdx j) v)):=by
  refine (deleteL_any ls ls.length j lb cu C w.drew rfl (World.ownsRow.drew h.ls) hj (by omega)).mono ?_
  rintro e w1 ⟨rfl,ho,hb,hk⟩
  have hg1:w1.heap[g]?=some (.cells (plA un (.slice (some ⟨lb,0,none⟩) ls.length cu) v) 75 (0,0)):=(hk g (Ne.symm hne)).trans h.hg
  exact ⟨rfl,cellsAt hg1 1,by simp [World.frozen?,hg1],Plr.turn h ((Below.refl C w).drew.trans hb) (fun b _ hnb=>hk b (fun e=>hnb (by rw [e];rfl))) ho⟩
 have hw1:IntKind.i64.wrap ((j:Int)+1)=(j:Int)+1:=by rw [IntKind.wrap_i64];omega
 clear h hv hj h20 hne
 generalize ls.length=m at *
 go_enter Tryz.func103,Tryz.ntmps103
 go_wp2_with fail
 go_region_with (first | (go_at_call 151;refine HD.out.mono ?_;rintro e w1 ⟨rfl,z1,zf,HR⟩))
 all_goals
  go_wp2_with fail
  go_ret
  exact ⟨rfl,HR.out.1,_,_,_,HR.out.2⟩
end Go.Proofs.YtffdoiokmiklgaaGreatDoor
