/- GA, GB -/
import Derived.Test.YtogmkdhljifbpaaDoorZ5
import Derived.Test.YtogmkdhljifbpaaDoorZ8
import Derived.Deep.RegionHeld3
import Derived.StillTactics
import Derived.Lib.QuietBelow
/- The document's MessageBytes. -/
namespace Go.Proofs.YtogmkdhljifbpaaDoor
open Go.RowKit

/-- What stands ahead of the records. -/
def headB (id code typ : Int) (ans cut : Bool) (name : ByteArray) (n : Nat) : ByteArray :=
  numB id 2 ++ numB (flg ans cut) 1 ++ numB code 1 ++ numB 1 2 ++ numB n 2 ++ numB 0 4 ++ nmB name ++ numB typ 2 ++ numB 1 2
def datB (r : Rc.Rec) : ByteArray :=
  if r.typ = 1 then numB r.addr 4
  else if r.typ = 16 then numB r.text.size 1 ++ r.text
  else if r.typ = 33 then numB 0 4 ++ numB r.port 2 ++ nmB r.target
  else ⟨#[]⟩
def recB (r : Rc.Rec) : ByteArray := nmB r.name ++ numB r.typ 2 ++ numB 1 2 ++ numB r.lasts 4 ++ numB (datB r).size 2 ++ datB r

theorem zero4 : nbl 0 4 = nbl 0 2 ++ nbl 0 2 := by kernel_rfl
theorem headB_is (id code typ : Int) (ans cut : Bool) (name : ByteArray) (n : Nat) : headB id code typ ans cut name n = ⟨(wheadL id code typ ans cut name n).toArray⟩ := by
  apply ba_ext
  simp [headB, numB, nmB, wheadL, zero4]
theorem datB_is (r : Rc.Rec) : datB r = ⟨(wdatL r).toArray⟩ := by
  unfold datB wdatL
  split
  · rfl
  split
  · apply ba_ext; simp [numB]
  split
  · apply ba_ext; simp [numB, nmB, zero4]
  · rfl
theorem recB_is (r : Rc.Rec) : recB r = ⟨(wrecL r).toArray⟩ := by
  have h : (⟨(wdatL r).toArray⟩ : ByteArray).size = (wdatL r).length := by simp [ByteArray.size]
  apply ba_ext
  unfold recB wrecL
  rw [datB_is, h]
  simp [numB, nmB]
def recsB (rs : List Rc.Rec) : ByteArray := ⟨(rs.flatMap wrecL).toArray⟩
theorem recsB_step (B : ByteArray) (rs : List Rc.Rec) (k : Nat) (h : k < rs.length) : (B ++ recsB (rs.take k)) ++ recB (rs.getD k Rc.dm) = B ++ recsB (rs.take (k + 1)) := by
  have e : (rs.take (k + 1)).flatMap wrecL = (rs.take k).flatMap wrecL ++ wrecL rs[k] := by
    rw [List.take_succ_eq_append_getElem h, List.flatMap_append]
    simp
  apply ba_ext
  rw [recB_is]
  unfold recsB
  rw [e]
  simp [List.getD, h]
theorem allB_is (id code typ : Int) (ans cut : Bool) (name : ByteArray) (rs : List Rc.Rec) : headB id code typ ans cut name rs.length ++ recsB rs = ⟨(wallL id code typ ans cut name rs).toArray⟩ := by
  apply ba_ext
  rw [headB_is]
  simp [recsB, wallL]

end Go.Proofs.YtogmkdhljifbpaaDoor

/- The document's MessageBytes: the walk. -/
namespace Go.Proofs.YtogmkdhljifbpaaDoor
open Go.RowKit

theorem msgFacts {id code typ : Int} {name : ByteArray} {rs : List Rc.Rec} (h : chkMsg id code typ name rs = 0) : (0 ≤ id ∧ id ≤ 65535) ∧ (0 ≤ code ∧ code ≤ 15) ∧ (0 ≤ typ ∧ typ ≤ 33) := by
  unfold chkMsg at h
  split at h
  · omega
  rename_i h1
  split at h
  · omega
  split at h
  · omega
  split at h
  · omega
  rename_i h4
  have h1' : (within id 0 65535 && within code 0 15) = true := by simpa using h1
  have h4' : typB typ = true := by simpa using h4
  simp only [within, Bool.and_eq_true, decide_eq_true_eq] at h1'
  simp only [typB, Bool.or_eq_true, decide_eq_true_eq] at h4'
  exact ⟨h1'.1, h1'.2, by omega, by omega⟩
theorem recFacts {r : Rc.Rec} (h : chkRec r = 0) : (0 ≤ r.lasts ∧ r.lasts ≤ 2147483647) ∧ (0 ≤ r.addr ∧ r.addr ≤ 4294967295) ∧ (0 ≤ r.port ∧ r.port ≤ 65535) := by
  unfold chkRec at h
  split at h
  · omega
  split at h
  · omega
  split at h
  · omega
  rename_i h3
  split at h
  · omega
  split at h
  · omega
  rename_i h5
  have h3' : within r.lasts 0 2147483647 = true := by simpa using h3
  have h5' : (within r.addr 0 4294967295 && within r.port 0 65535) = true := by simpa using h5
  simp only [within, Bool.and_eq_true, decide_eq_true_eq] at h3' h5'
  exact ⟨h3', h5'.1, h5'.2⟩
theorem app_nil (b : ByteArray) : b ++ recsB [] = b := by
  apply ba_ext
  simp [recsB]
theorem nmB_size {s : ByteArray} (h : chkN s = 0) : (nmB s).size ≤ 249 := by
  have h1 := wname_len h
  rw [wname_cells, Lib.byteCells_length] at h1
  have : (nmB s).size = (wnameL s).length := by simp [nmB, ByteArray.size]
  omega

end Go.Proofs.YtogmkdhljifbpaaDoor

