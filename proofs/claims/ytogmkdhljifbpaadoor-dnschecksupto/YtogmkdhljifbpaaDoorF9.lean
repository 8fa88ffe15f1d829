/- Write, of a message without records. -/
import Derived.Test.YtogmkdhljifbpaaDoorF8
import Derived.Test.YtogmkdhljifbpaaDoorF2
namespace Go.Proofs.YtogmkdhljifbpaaDoor
open Go.RowKit

def wlabL (l : ByteArray) : List UInt8 := nbl l.size 1 ++ l.data.toList
def wnameL (s : ByteArray) : List UInt8 := (labs s).flatMap wlabL ++ nbl 0 1
def wmsgL (id code typ : Int) (ans cut : Bool) (name : ByteArray) : List UInt8 :=
  nbl id 2 ++ (nbl (flg ans cut) 1 ++ (nbl code 1 ++ (nbl 1 2 ++ (nbl 0 2 ++ (nbl 0 2 ++ (nbl 0 2 ++ (wnameL name ++ (nbl typ 2 ++ nbl 1 2))))))))
theorem cells_app (a b : List UInt8) : Lib.byteCells (a ++ b) = Lib.byteCells a ++ Lib.byteCells b := by simp [Lib.byteCells]
theorem wlab_cells (l : ByteArray) : wlab l = Lib.byteCells (wlabL l) := by
  unfold wlab wlabL
  rw [cells_app, nbs_cells]
  rfl
theorem flat_cells : ∀ (L : List ByteArray), L.flatMap wlab = Lib.byteCells (L.flatMap wlabL)
  | [] => rfl
  | x :: r => by rw [List.flatMap_cons, List.flatMap_cons, cells_app, flat_cells r, wlab_cells]
theorem wname_cells (s : ByteArray) : wname s = Lib.byteCells (wnameL s) := by
  unfold wname wnameL
  rw [cells_app, flat_cells, nbs_cells]
theorem wmsg_cells (id code typ : Int) (ans cut : Bool) (name : ByteArray) : wmsg id code typ ans cut name = Lib.byteCells (wmsgL id code typ ans cut name) := by
  unfold wmsg wmsgL
  simp only [cells_app, nbs_cells, wname_cells]
theorem wmsgL_ne (id code typ : Int) (ans cut : Bool) (name : ByteArray) : wmsgL id code typ ans cut name ≠ [] := by
  unfold wmsgL
  simp [nbl]

set_option maxHeartbeats 1600000 in
set_option maxRecDepth 100000 in
theorem written_none (id code typ : Int) (ans cut : Bool) (name : ByteArray) (w : World) (hm : ML w) (hn : chkN name = 0) :
    Calls Tryd.prog 31 #[msgV id code typ ans cut name] w fun e w' => e = .returned (.string ⟨(wmsgL id code typ ans cut name).toArray⟩) ∧ Below w.heap.size w w' := by
  go_enter Tryd.func31, Tryd.ntmps31
  go_wp2_with fail
  obtain ⟨w0, hw0⟩ : ∃ w0, w0 = (w.alloc (.cells #[.int .i64 id, .bool ans, .bool cut, .int .i64 code, .string name, .int .i64 typ, .slice none 0 0] 30)).alloc (.cells #[.pointer none, .slice none 0 0] 81) := ⟨_, rfl⟩
  rw [← hw0]
  have hsz : w0.heap.size = w.heap.size + 2 := by rw [hw0]; simp
  have hgb : w0.heap[w.heap.size + 1]? = some (.cells #[.pointer none, .slice none 0 0] 81 (0, 0)) := by
    have h := heap_alloc_new (w.alloc (.cells #[.int .i64 id, .bool ans, .bool cut, .int .i64 code, .string name, .int .i64 typ, .slice none 0 0] 30)) (.cells #[.pointer none, .slice none 0 0] 81)
    rw [hw0]
    simpa using h
  have HB0 : Hid (Below w.heap.size w w0) := (show Below _ _ _ by rw [hw0]; exact ((Below.refl _ _).alloc (Nat.le_refl _) _).alloc (by simp) _)
  have HI0 : Hid (IsW (w.heap.size + 1) (w.heap.size + 1) [] w0) := (show IsW _ _ _ _ from .inl ⟨Nat.le_refl _, .slice none 0 0, hgb, World.ownsRow_nil w0 _ 5 1, by simp [Value.ownBlock]⟩)
  have HM0 : Hid (ML w0) := (show ML w0 from hm.below HB0.out)
  clear hw0 hgb hm
  refine (message_none (w.heap.size + 1) (w.heap.size + 1) [] id code typ ans cut name w0 HM0.out HI0.out (by simp) hn (by omega) (by omega)).mono ?_
  rintro e w1 ⟨rfl, h1, hb1⟩
  have HI1 : Hid (IsW (w.heap.size + 1) (w.heap.size + 1) (Lib.byteCells (wmsgL id code typ ans cut name)) w1) := (show IsW _ _ _ _ by rw [← wmsg_cells]; simpa using h1)
  have HB1 : Hid (Below w.heap.size w w1) := HB0.out.trans (hb1.bel.mono (by omega))
  have hz1 := HB1.out.size
  have hz2 := hb1.size
  clear h1 hb1
  go_wp2_with fail
  refine (string_any (w.heap.size + 1) (w.heap.size + 1) _ w1 HI1.out (wmsgL_ne _ _ _ _ _ _)).mono ?_
  rintro e w2 ⟨rfl, hb2⟩
  have HB2 : Hid (Below w.heap.size w w2) := HB1.out.trans (hb2.mono (by omega))
  clear hb2
  go_wp2_with fail
  go_ret
  exact ⟨rfl, HB2.out⟩

end Go.Proofs.YtogmkdhljifbpaaDoor
