import Derived.Test.YtfidhgjmifendaaGreatDoorns18
set_option maxHeartbeats 6400000
set_option maxRecDepth 100000
open Go.Value renaming int→U,slice→J
open Option renaming some→AI,none→be
namespace Go.Proofs.YtfidhgjmifendaaGreatDoor
open Go.RowKit
theorem ua(C g j:Nat)(un ul:Value)(ls:List Lt.fg)(v:Ev)(w:World)(h:kN C w g un ul ls v)(h20:ls.length<=20)(hv:v.which=(j:Int))(hj:j<ls.length) :
 Calls Tryz.prog 81 #[.pointer (AI ⟨g,0,be⟩)] w λe w'=>e=.returned (U .i64 0)/\Mv C w w'/\∃a k c,kN C w' g un (J a k c) (ls.eraseIdx j) v:=by
 obtain⟨lb,cu,Mj⟩:∃lb cu,ul=J (AI ⟨lb,0,be⟩) ls.length cu:=by
  rcases h.ls.2 with⟨_,h0⟩|⟨b',c,cur,rfl,_⟩
  .omega
  .exact⟨b',c,rfl⟩
 subst Mj;have du:g<w.heap.size:=(Array.getElem?_eq_some_iff.1 h.hg).1;have y1:w.cell? ⟨g,1,be⟩=AI (J (AI ⟨lb,0,be⟩) ls.length cu):=ae h.hg 1;have y3:w.cell? ⟨g,3,be⟩=AI (U .i64 (j:Int)):=by rw[<- hv];exact ae h.hg 3
 have aQ:lb≠g:=λe=>by
  obtain⟨_,cs,h2⟩:=iG h.ls (show(Value.slice (AI ⟨lb,0,be⟩) ls.length cu).ownBlock=AI g by rw[e];rfl);rw[h.hg] at h2;simp at h2
 have HD:Hid (Calls Tryz.prog 142 #[J (AI ⟨lb,0,be⟩) ls.length cu,U .i64 j,U .i64 (j+1)] w.drew λe w'=>e=.returned (J (AI ⟨lb,0,be⟩) (ls.length-1) cu)/\w'.cell? ⟨g,1,be⟩=AI (J (AI ⟨lb,0,be⟩) ls.length cu)/\w'.frozen? ⟨g,1,be⟩=false/\Hid (Mv C w (w'.setCell ⟨g,1,be⟩ (J (AI ⟨lb,0,be⟩) (ls.length-1) cu))/\kN C (w'.setCell ⟨g,1,be⟩ (J (AI ⟨lb,0,be⟩) (ls.length-1) cu)) g un (J (AI ⟨lb,0,be⟩) (ls.length-1) cu) (ls.eraseIdx j) v)):=by
  refine(zA ls ls.length j lb cu C w.drew rfl (World.ownsRow.drew h.ls) hj (by omega)).mono ?_;rintro e w1 ⟨rfl,ho,hb,hk⟩;have cO:w1.heap[g]?=AI (.cells (Vi un (J (AI ⟨lb,0,be⟩) ls.length cu) v) 72 (0,0)):=(hk g (Ne.symm aQ)).trans h.hg;exact⟨rfl,ae cO 1,by simp[World.frozen?,cO],kN.turn h ((Below.refl C w).drew.trans hb) (λb _ hnb=>hk b (λe=>hnb (by rw[e];rfl))) ho⟩
 have MY:IntKind.i64.wrap ((j:Int)+1)=(j:Int)+1:=by rw[IntKind.wrap_i64];omega
 clear h hv hj h20 aQ;generalize ls.length=m at *;go_enter Tryz.func81,Tryz.ntmps81;go_wp2_with fail;go_region_with (first|(go_at_call 142;refine HD.out.mono ?_;rintro e w1 ⟨rfl,z1,zf,HR⟩))
 all_goals
  go_wp2_with fail;go_ret;exact⟨rfl,HR.out.1,_,_,_,HR.out.2⟩
end Go.Proofs.YtfidhgjmifendaaGreatDoor
