/- FZ, GA, GB -/
import Derived.Test.YtogmkdhljifbpaaDoorY8
import Derived.Test.YtogmkdhljifbpaaDoorY4
import Derived.Deep.RegionHeld3
import Derived.StillTactics
import Derived.Test.YtogmkdhljifbpaaDoorY7
import Derived.Lib.QuietBelow
/- The document's NameBytes. -/
namespace Go.Proofs.YtogmkdhljifbpaaDoor
open Go.RowKit

def catB (L : List ByteArray) : ByteArray := ⟨(L.flatMap wlabL).toArray⟩
def nmB (s : ByteArray) : ByteArray := ⟨(wnameL s).toArray⟩
theorem catB_step (L : List ByteArray) (k : Nat) (h : k < L.length) : catB (L.take k) ++ (numB (L.getD k ByteArray.empty).size 1 ++ L.getD k ByteArray.empty) = catB (L.take (k + 1)) := by
  have e : (L.take (k + 1)).flatMap wlabL = (L.take k).flatMap wlabL ++ wlabL L[k] := by
    rw [List.take_succ_eq_append_getElem h, List.flatMap_append]
    simp
  apply ba_ext
  unfold catB
  rw [e]
  simp [numB, wlabL, List.getD, h]
theorem catB_end (s : ByteArray) : catB (labs s) ++ numB 0 1 = nmB s := by
  apply ba_ext
  simp [catB, nmB, numB, wnameL]
theorem flatL_len : ∀ (L : List ByteArray), (∀ x ∈ L, x.size ≤ 30) → (L.flatMap wlabL).length ≤ 31 * L.length
  | [], _ => by simp
  | x :: r, h => by
    have h1 := h x List.mem_cons_self
    have h2 := flatL_len r (fun y hy => h y (List.mem_cons_of_mem _ hy))
    rw [List.flatMap_cons, List.length_append, List.length_cons]
    have : (wlabL x).length = 1 + x.size := by simp [wlabL, nbl_len]
    omega

set_option maxHeartbeats 1600000 in
set_option maxRecDepth 100000 in
theorem nameBytes_any (s : ByteArray) (w : World) (hn : chkN s = 0) :
    Calls Tryd.prog 36 #[.string s] w fun e w' => e = .returned (.string (nmB s)) ∧ Below w.heap.size w w' := by
  have hsz : s.size ≤ 2000000 := by
    by_cases h0 : s.size = 0
    · omega
    · unfold chkN at hn
      rw [if_neg h0] at hn
      split at hn
      · omega
      · split at hn <;> omega
  have HLO : Hid (Calls Tryd.prog 26 #[.string s] w fun e w' => ∃ v, e = .returned v ∧ OwnS w.heap.size w' v (labs s) ∧ Below w.heap.size w w') := labelsOf_any s w hsz
  obtain ⟨hL8, hL30⟩ := chk_facts hn
  have HEND : Hid (catB (labs s) ++ numB 0 1 = nmB s) := catB_end s
  clear hn hsz
  generalize labs s = L at *
  have HST : Hid (∀ k, k < L.length → catB (L.take k) ++ (numB (L.getD k ByteArray.empty).size 1 ++ L.getD k ByteArray.empty) = catB (L.take (k + 1))) := fun k h => catB_step L k h
  have HSZ : Hid (∀ k, (catB (L.take k)).size ≤ 248) := fun k => by
    have h := flatL_len (L.take k) fun x hx => hL30 x (List.mem_of_mem_take hx)
    have h2 : (catB (L.take k)).size = ((L.take k).flatMap wlabL).length := by simp [catB, ByteArray.size]
    rw [List.length_take] at h
    omega
  have HL30 : Hid (∀ j, (L.getD j ByteArray.empty).size ≤ 30) := fun j => by
    by_cases hj : j < L.length
    · rw [show L.getD j ByteArray.empty = L[j] by simp [List.getD, List.getElem?_eq_getElem hj]]
      exact hL30 _ (List.getElem_mem hj)
    · rw [show L.getD j ByteArray.empty = ByteArray.empty by simp [List.getD, List.getElem?_eq_none (by omega : L.length ≤ j)]]; decide
  have HALL : Hid (L.take L.length = L) := List.take_length
  clear hL30
  go_enter Tryd.func36, Tryd.ntmps36
  go_wp2_with fail
  refine HLO.out.mono ?_
  rintro e w1 ⟨v, rfl, ho, hb1⟩
  have HB1 : Hid (Below w.heap.size w w1) := hb1
  have HO1 : Hid (OwnS w.heap.size w1 v L) := ho
  clear hb1 ho
  obtain ⟨pl, cap, hv, hcell⟩ : ∃ pl cap, v = .slice pl L.length cap ∧ ∀ W, Below w1.heap.size w1 W → ∀ k, k < L.length → ∃ g, pl = some ⟨g, 0, none⟩ ∧ g < W.heap.size ∧ W.cell? ⟨g, k, none⟩ = some (.string (L.getD k ByteArray.empty)) := by
    rcases HO1.out.form with ⟨hv, h0⟩ | ⟨g, c, hv, _, _, hg, hc⟩
    · exact ⟨none, 0, by rw [hv, h0]; rfl, fun W _ k hk => by rw [h0] at hk; simp at hk⟩
    · exact ⟨_, c, hv, fun W hW k hk => ⟨g, rfl, Nat.lt_of_lt_of_le hg hW.size, (hW.cell (p := ⟨g, k, none⟩) hg).trans (hc k hk)⟩⟩
  subst hv
  have HCELL : Hid (∀ W, Below w1.heap.size w1 W → ∀ k, k < L.length → ∃ g, pl = some ⟨g, 0, none⟩ ∧ g < W.heap.size ∧ W.cell? ⟨g, k, none⟩ = some (.string (L.getD k ByteArray.empty))) := hcell
  clear hcell HLO
  generalize hnn : L.length = n at *
  have HNN : Hid (L.length = n) := hnn
  clear hnn
  go_wp2_with fail
  go_loopw [3, 5] (fun sv iv wr => ∃ k : Nat, k ≤ n ∧ sv = .string (catB (L.take k)) ∧ iv = .int .i64 k ∧ Hid (Below w1.heap.size w1 wr)) (fun _ i _ => n - (intOf i).toNat)
  case atStart => exact ⟨0, Nat.zero_le _, rfl, rfl, Below.refl _ _⟩
  case round =>
    obtain ⟨k, hk, rfl, rfl, HBR⟩ := hrel
    have hszr := HBR.out.size
    have hcs := HSZ.out k
    by_cases hlt : k < n
    · obtain ⟨g, hpl, hg, hc⟩ := HCELL.out wr HBR.out k hlt
      subst hpl
      have hx30 := HL30.out k
      have HS2 := HST.out k hlt
      have HS3 : Hid (catB (L.take k) ++ (numB (L.getD k ByteArray.empty).size 1 ++ L.getD k ByteArray.empty) = catB (L.take (k + 1))) := HS2
      clear HS2
      generalize L.getD k ByteArray.empty = x at *
      have HNU : Hid (∀ W, Calls Tryd.prog 35 #[.int .i64 x.size, .int .i64 1] W fun e w' => e = .returned (.string (numB x.size 1)) ∧ Below W.heap.size W w') := fun W => number_any x.size 1 W (by omega) (by omega) (by omega)
      have hns : (numB x.size 1).size ≤ 1 := by rw [numB_size]; omega
      generalize numB x.size 1 = Y at *
      generalize catB (L.take k) = C at *
      have hd : decide ((k : Int) < (n : Int)) = true := by simp; omega
      have hi0 : (0 : Int) ≤ (k : Int) := by omega
      have hi1 : (k : Int) < (n : Int) := by omega
      have hi2 : ((k : Int)).toNat = k := by omega
      have hs1 : ¬ 9223372036854775807 < Y.size + x.size := by omega
      have hs2 : ¬ 9223372036854775807 < C.size + (Y ++ x).size := by rw [ByteArray.size_append]; omega
      have hs3 : ¬ 9223372036854775807 < C.size + (Y.size + x.size) := by omega
      have HNUd : Hid (Calls Tryd.prog 35 #[.int .i64 x.size, .int .i64 1] wr.drew fun e w' => e = .returned (.string Y) ∧ w'.cell? ⟨g, k, none⟩ = some (.string x) ∧ Hid (Below w1.heap.size w1 w')) := (show Calls _ _ _ _ _ by
        refine (HNU.out wr.drew).mono ?_
        rintro e w5 ⟨rfl, hb5⟩
        exact ⟨rfl, (hb5.cell (p := ⟨g, k, none⟩) hg).trans hc, HBR.out.drew.trans (hb5.mono hszr)⟩)
      clear HNU
      go_wp2_with fail
      go_region_held3 (fun w' => w'.cell? ⟨g, k, none⟩ = some (.string x)) (go_keep) (first | (go_at_call 35; refine HNUd.out.mono ?_; rintro e w5 ⟨rfl, hc5, HB5⟩) | fail)
      go_wp2_with fail
      exact ⟨⟨k + 1, by omega, by rw [HS3.out], by go_num, HB5⟩, by simp [intOf]; omega⟩
    · have hkn : k = n := by omega
      have HF : Hid (catB (L.take k) ++ numB 0 1 = nmB s) := (show _ = _ by rw [hkn, HALL.out]; exact HEND.out)
      have HNU : Hid (∀ W, Calls Tryd.prog 35 #[.int .i64 0, .int .i64 1] W fun e w' => e = .returned (.string (numB 0 1)) ∧ Below W.heap.size W w') := fun W => number_any 0 1 W (by omega) (by omega) (by omega)
      have hns : (numB 0 1).size ≤ 1 := by rw [numB_size]; omega
      generalize numB 0 1 = Y at *
      generalize catB (L.take k) = C at *
      have hd : decide ((k : Int) < (n : Int)) = false := by simp; omega
      have hs1 : ¬ 9223372036854775807 < C.size + Y.size := by omega
      clear hkn
      go_wp2_with fail
      refine (HNU.out _).mono ?_
      rintro e w2 ⟨rfl, hb2⟩
      have HB2 : Hid (Below w.heap.size w w2) := HB1.out.trans ((HBR.out.trans (hb2.mono hszr)).mono HB1.out.size)
      clear hb2
      go_wp2_with fail
      go_ret
      exact ⟨by rw [← HF.out]; rfl, HB2.out⟩

end Go.Proofs.YtogmkdhljifbpaaDoor

/- The document's MessageBytes. -/
namespace Go.Proofs.YtogmkdhljifbpaaDoor
open Go.RowKit

/-- What stands ahead of the records. -/
def headB (id code typ : Int) (ans cut : Bool) (name : ByteArray) (n : Nat) : ByteArray :=
  numB id 2 ++ numB (flg ans cut) 1 ++ numB code 1 ++ numB 1 2 ++ numB n 2 ++ numB 0 4 ++ nmB name ++ numB typ 2 ++ numB 1 2
def datB (r : Rc.Rec) : ByteArray :=
  if r.typ = 1 then numB r.addr 4
  else if r.typ = 16 then numB r.text.size 1 ++ r.text
  else if r.typ = 33 then numB 0 4 ++ numB r.port 2 ++ nmB r.target
  else ⟨#[]⟩
def recB (r : Rc.Rec) : ByteArray := nmB r.name ++ numB r.typ 2 ++ numB 1 2 ++ numB r.lasts 4 ++ numB (datB r).size 2 ++ datB r

theorem zero4 : nbl 0 4 = nbl 0 2 ++ nbl 0 2 := by kernel_rfl
theorem headB_is (id code typ : Int) (ans cut : Bool) (name : ByteArray) (n : Nat) : headB id code typ ans cut name n = ⟨(wheadL id code typ ans cut name n).toArray⟩ := by
  apply ba_ext
  simp [headB, numB, nmB, wheadL, zero4]
theorem datB_is (r : Rc.Rec) : datB r = ⟨(wdatL r).toArray⟩ := by
  unfold datB wdatL
  split
  · rfl
  split
  · apply ba_ext; simp [numB]
  split
  · apply ba_ext; simp [numB, nmB, zero4]
  · rfl
theorem recB_is (r : Rc.Rec) : recB r = ⟨(wrecL r).toArray⟩ := by
  have h : (⟨(wdatL r).toArray⟩ : ByteArray).size = (wdatL r).length := by simp [ByteArray.size]
  apply ba_ext
  unfold recB wrecL
  rw [datB_is, h]
  simp [numB, nmB]
def recsB (rs : List Rc.Rec) : ByteArray := ⟨(rs.flatMap wrecL).toArray⟩
theorem recsB_step (B : ByteArray) (rs : List Rc.Rec) (k : Nat) (h : k < rs.length) : (B ++ recsB (rs.take k)) ++ recB (rs.getD k Rc.dm) = B ++ recsB (rs.take (k + 1)) := by
  have e : (rs.take (k + 1)).flatMap wrecL = (rs.take k).flatMap wrecL ++ wrecL rs[k] := by
    rw [List.take_succ_eq_append_getElem h, List.flatMap_append]
    simp
  apply ba_ext
  rw [recB_is]
  unfold recsB
  rw [e]
  simp [List.getD, h]
theorem allB_is (id code typ : Int) (ans cut : Bool) (name : ByteArray) (rs : List Rc.Rec) : headB id code typ ans cut name rs.length ++ recsB rs = ⟨(wallL id code typ ans cut name rs).toArray⟩ := by
  apply ba_ext
  rw [headB_is]
  simp [recsB, wallL]

end Go.Proofs.YtogmkdhljifbpaaDoor

/- The document's MessageBytes: the walk. -/
namespace Go.Proofs.YtogmkdhljifbpaaDoor
open Go.RowKit

theorem msgFacts {id code typ : Int} {name : ByteArray} {rs : List Rc.Rec} (h : chkMsg id code typ name rs = 0) : (0 ≤ id ∧ id ≤ 65535) ∧ (0 ≤ code ∧ code ≤ 15) ∧ (0 ≤ typ ∧ typ ≤ 33) := by
  unfold chkMsg at h
  split at h
  · omega
  rename_i h1
  split at h
  · omega
  split at h
  · omega
  split at h
  · omega
  rename_i h4
  have h1' : (within id 0 65535 && within code 0 15) = true := by simpa using h1
  have h4' : typB typ = true := by simpa using h4
  simp only [within, Bool.and_eq_true, decide_eq_true_eq] at h1'
  simp only [typB, Bool.or_eq_true, decide_eq_true_eq] at h4'
  exact ⟨h1'.1, h1'.2, by omega, by omega⟩
theorem recFacts {r : Rc.Rec} (h : chkRec r = 0) : (0 ≤ r.lasts ∧ r.lasts ≤ 2147483647) ∧ (0 ≤ r.addr ∧ r.addr ≤ 4294967295) ∧ (0 ≤ r.port ∧ r.port ≤ 65535) := by
  unfold chkRec at h
  split at h
  · omega
  split at h
  · omega
  split at h
  · omega
  rename_i h3
  split at h
  · omega
  split at h
  · omega
  rename_i h5
  have h3' : within r.lasts 0 2147483647 = true := by simpa using h3
  have h5' : (within r.addr 0 4294967295 && within r.port 0 65535) = true := by simpa using h5
  simp only [within, Bool.and_eq_true, decide_eq_true_eq] at h3' h5'
  exact ⟨h3', h5'.1, h5'.2⟩
theorem app_nil (b : ByteArray) : b ++ recsB [] = b := by
  apply ba_ext
  simp [recsB]
theorem nmB_size {s : ByteArray} (h : chkN s = 0) : (nmB s).size ≤ 249 := by
  have h1 := wname_len h
  rw [wname_cells, Lib.byteCells_length] at h1
  have : (nmB s).size = (wnameL s).length := by simp [nmB, ByteArray.size]
  omega

end Go.Proofs.YtogmkdhljifbpaaDoor

