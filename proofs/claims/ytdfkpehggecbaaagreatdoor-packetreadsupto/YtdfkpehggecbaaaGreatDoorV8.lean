/- JD, JE -/
import Derived.Test.YtdfkpehggecbaaaGreatDoorV4
import Derived.Test.YtdfkpehggecbaaaGreatDoorV1
import Derived.Test.YtdfkpehggecbaaaGreatDoorV5
import Derived.Test.YtdfkpehggecbaaaGreatDoorV6
import Derived.Test.YtdfkpehggecbaaaGreatDoorV7
/- Packets: texts and flags written. -/
namespace Go.Proofs.YtdfkpehggecbaaaGreatDoor
open Go.RowKit

def txtL (s : ByteArray) : List Value := numL s.size ++ Lib.strCells s
def flgL (y : Bool) : List Value := numL (if y = true then 1 else 0)
theorem in63_nat {n : Nat} (h : n ≤ 1000000) : In63 (n : Int) := ⟨by omega, by omega⟩

set_option maxHeartbeats 1600000 in
set_option maxRecDepth 100000 in
theorem wtext_any (B b : Nat) (s : ByteArray) (bs : List Value) (w : World) (h : IsW B b bs w) (hlen : bs.length + s.size ≤ 800000) (hBw : B ≤ w.heap.size) (hT : Tab B w) :
    Calls Tryz.prog 44 #[.pointer (some ⟨b, 0, none⟩), .string s] w fun e w' => e = .returned (.tuple #[]) ∧ IsW B b (bs ++ txtL s) w' ∧ Kp B b w w' := by
  have hb := h.lt
  obtain ⟨W1, hW1⟩ : ∃ W1, W1 = w.alloc (.cells #[.int .i64 (s.size : Int)] 3) := ⟨_, rfl⟩
  have hb1 : Below w.heap.size w W1 := by rw [hW1]; exact (Below.refl _ _).alloc (Nat.le_refl _) _
  have hg1 : W1.heap[w.heap.size]? = some (.cells #[.int .i64 (s.size : Int)] 3 (0, 0)) := by rw [hW1]; exact heap_alloc_new w _
  have HN : Hid (Calls Tryz.prog 48 #[.pointer (some ⟨b, 0, none⟩), .slice (some ⟨w.heap.size, 0, none⟩) 1 1] W1 fun e w' => e = .returned (.tuple #[]) ∧ IsW B b (bs ++ numL s.size) w' ∧ Kp B b w w') := by
    refine (wnumbers_any B b w.heap.size 1 [(s.size : Int)] _ _ bs W1 (h.below hb1) (by simp; omega) (Nat.le_trans hBw hb1.size) (hT.below (hb1.mono hBw)) hg1 (by omega) (fun j hj => ?_) (fun n hn => ?_)).mono ?_
    · have : j = 0 := by simpa using hj
      subst this; rfl
    · simp at hn; rw [hn]; exact in63_nat (by omega)
    · rintro e w' ⟨rfl, h1, h2⟩
      exact ⟨rfl, by simpa using h1, (Kp.of_below hb1 hBw).trans h2⟩
  have HL : Hid ((bs ++ numL s.size).length + s.size ≤ 1000000) := by
    show (bs ++ numL s.size).length + s.size ≤ 1000000
    rw [List.length_append]
    have := numL_len (in63_nat (n := s.size) (by omega))
    omega
  clear h hg1 hb1 hT
  go_enter Tryz.func44, Tryz.ntmps44
  go_wp2_with fail
  rw [← hW1]
  refine HN.out.mono ?_
  rintro e w1 ⟨rfl, h1, hk1⟩
  have HW1 : Hid (IsW B b (bs ++ numL s.size) w1) := h1
  have HK1 : Hid (Kp B b w w1) := hk1
  clear h1 hk1 hW1
  go_wp2_with fail
  refine (writeString_any B b _ s w1 HW1.out HL.out (Nat.le_trans hBw HK1.out.size)).mono ?_
  rintro e w2 ⟨rfl, h2, hk2⟩
  have HW2 : Hid (IsW B b (bs ++ txtL s) w2) := (show IsW _ _ _ _ by unfold txtL; rw [← List.append_assoc]; exact .inr h2)
  have HK2 : Hid (Kp B b w w2) := HK1.out.trans hk2
  clear h2 hk2
  go_wp2_with fail
  simp [bodyPost, results, Tryz.results44]
  exact ⟨HW2.out, HK2.out⟩

set_option maxHeartbeats 1600000 in
set_option maxRecDepth 100000 in
theorem wflag_any (B b : Nat) (y : Bool) (bs : List Value) (w : World) (h : IsW B b bs w) (hlen : bs.length ≤ 800000) (hBw : B ≤ w.heap.size) (hT : Tab B w) :
    Calls Tryz.prog 45 #[.pointer (some ⟨b, 0, none⟩), .bool y] w fun e w' => e = .returned (.tuple #[]) ∧ IsW B b (bs ++ flgL y) w' ∧ Kp B b w w' := by
  have hb := h.lt
  have HN : Hid (∀ n : Int, (n = 0 ∨ n = 1) → Calls Tryz.prog 48 #[.pointer (some ⟨b, 0, none⟩), .slice (some ⟨w.heap.size, 0, none⟩) 1 1] (w.alloc (.cells #[.int .i64 n] 3)) fun e w' => e = .returned (.tuple #[]) ∧ IsW B b (bs ++ numL n) w' ∧ Kp B b w w') := fun n hn => by
    have hb1 : Below w.heap.size w (w.alloc (.cells #[.int .i64 n] 3)) := (Below.refl _ _).alloc (Nat.le_refl _) _
    refine (wnumbers_any B b w.heap.size 1 [n] _ _ bs _ (h.below hb1) (by simp; omega) (Nat.le_trans hBw hb1.size) (hT.below (hb1.mono hBw)) (heap_alloc_new w _) (by omega) (fun j hj => ?_) (fun m hm => ?_)).mono ?_
    · have : j = 0 := by simpa using hj
      subst this; rfl
    · simp at hm; rw [hm]; rcases hn with rfl | rfl <;> exact ⟨by omega, by omega⟩
    · rintro e w' ⟨rfl, h1, h2⟩
      exact ⟨rfl, by simpa using h1, (Kp.of_below hb1 hBw).trans h2⟩
  clear h hT
  cases y
  · have HF : Hid (bs ++ numL 0 = bs ++ flgL false) := rfl
    go_enter Tryz.func45, Tryz.ntmps45
    go_wp2_with fail
    refine (HN.out 0 (.inl rfl)).mono ?_
    rintro e w1 ⟨rfl, h1, hk1⟩
    have HW1 : Hid (IsW B b (bs ++ flgL false) w1) := h1
    have HK1 : Hid (Kp B b w w1) := hk1
    clear h1 hk1
    go_wp2_with fail
    simp [bodyPost, results, Tryz.results45]
    exact ⟨HW1.out, HK1.out⟩
  · go_enter Tryz.func45, Tryz.ntmps45
    go_wp2_with fail
    refine (HN.out 1 (.inr rfl)).mono ?_
    rintro e w1 ⟨rfl, h1, hk1⟩
    have HW1 : Hid (IsW B b (bs ++ flgL true) w1) := h1
    have HK1 : Hid (Kp B b w w1) := hk1
    clear h1 hk1
    go_wp2_with fail
    simp [bodyPost, results, Tryz.results45]
    exact ⟨HW1.out, HK1.out⟩

end Go.Proofs.YtdfkpehggecbaaaGreatDoor

/- Packets: one of each list written. -/
namespace Go.Proofs.YtdfkpehggecbaaaGreatDoor
open Go.RowKit

theorem txtL_len {s : ByteArray} (h : s.size ≤ 1000) : (txtL s).length ≤ 1100 := by
  unfold txtL
  rw [List.length_append, Lib.strCells_length]
  have := numL_len (in63_nat (n := s.size) (by omega))
  omega
theorem flgL_len (y : Bool) : (flgL y).length ≤ 1100 := by
  unfold flgL
  have := numL_len (n := if y = true then 1 else 0) (by split <;> exact ⟨by omega, by omega⟩)
  omega
theorem wnums_at (B b : Nat) (ns : List Int) (bs : List Value) (w : World) (h : IsW B b bs w) (hlen : bs.length + 21 * ns.length ≤ 900000) (hBw : B ≤ w.heap.size) (hT : Tab B w) (hn : ∀ n ∈ ns, In63 n) :
    Calls Tryz.prog 48 #[.pointer (some ⟨b, 0, none⟩), .slice (some ⟨w.heap.size, 0, none⟩) ns.length ns.length] (w.alloc (.cells (ns.map (Value.int .i64)).toArray 3)) fun e w' => e = .returned (.tuple #[]) ∧ IsW B b (bs ++ ns.flatMap numL) w' ∧ Kp B b w w' := by
  have hb1 : Below w.heap.size w (w.alloc (.cells (ns.map (Value.int .i64)).toArray 3)) := (Below.refl _ _).alloc (Nat.le_refl _) _
  refine (wnumbers_any B b w.heap.size ns.length ns _ _ bs _ (h.below hb1) hlen (Nat.le_trans hBw hb1.size) (hT.below (hb1.mono hBw)) (heap_alloc_new w _) (by have := h.lt; omega) (fun j hj => ?_) hn).mono ?_
  · simp [List.getD, List.getElem?_eq_getElem hj]
  · rintro e w' ⟨rfl, h1, h2⟩
    exact ⟨rfl, h1, (Kp.of_below hb1 hBw).trans h2⟩
/-- A block that is no row of bytes stays while one writes. -/
theorem Kp.keeps {B b k : Nat} {w w' : World} {cs : Array Value} {T : TypeId} {fz : Nat × Nat} (h : Kp B b w w') (hk : w.heap[k]? = some (.cells cs T fz)) (hne : k ≠ b) (hT : T ≠ 5) : w'.heap[k]? = some (.cells cs T fz) :=
  h.oth k _ hk (fun e => hne (by injection e)) (fun c z e => by injection e with _ e2 _; exact hT e2)

def elL (m : Mem) : List Value := txtL m.name ++ [m.state, m.life, m.addr].flatMap numL ++ flgL m.server
def wok (m : Mem) : Prop := m.name.size ≤ 1000 ∧ In63 m.state ∧ In63 m.life ∧ In63 m.addr
theorem elL_len {m : Mem} (h : wok m) : (elL m).length ≤ 3300 := by
  unfold elL
  obtain ⟨h0, h1, h2, h3⟩ := h
  have l0 := txtL_len h0
  have l1 := nums_len [m.state, m.life, m.addr] (fun n hn => by simp only [List.mem_cons, List.not_mem_nil, or_false] at hn; rcases hn with rfl | rfl | rfl <;> assumption)
  simp only [List.length_cons, List.length_nil] at l1
  have l2 := flgL_len m.server
  simp only [List.length_append]
  omega

set_option maxHeartbeats 6400000 in
set_option maxRecDepth 100000 in
theorem wone_any (B b wb : Nat) (m : Mem) (bs : List Value) (w : World) (h : IsW B b bs w) (hlen : bs.length ≤ 700000) (hBw : B ≤ w.heap.size) (hT : Tab B w) (hwb : w.heap[wb]? = some (.cells #[.pointer (some ⟨b, 0, none⟩)] 81 (0, 0))) (hne : wb ≠ b) (hm : wok m) :
    Calls Tryz.prog 47 #[.agg #[.string m.name, .int .i64 m.state, .int .i64 m.life, .int .i64 m.addr, .bool m.server], .pointer (some ⟨wb, 0, none⟩)] w fun e w' => e = .returned (.tuple #[]) ∧ IsW B b (bs ++ elL m) w' ∧ Kp B b w w' := by
  have HEL : Hid (elL m = txtL m.name ++ [m.state, m.life, m.addr].flatMap numL ++ flgL m.server) := rfl
  generalize elL m = EL at *
  obtain ⟨x0, x1, x2, x3, x4⟩ := m
  obtain ⟨h0, h1, h2, h3⟩ := hm
  simp only at h0 h1 h2 h3 HEL ⊢
  have hlb := h.lt
  have hwl : wb < w.heap.size := (Array.getElem?_eq_some_iff.1 hwb).1
  obtain ⟨W0, hW0⟩ : ∃ W0, W0 = w.alloc (.cells #[.string x0, .int .i64 x1, .int .i64 x2, .int .i64 x3, .bool x4] 55) := ⟨_, rfl⟩
  have hb0 : Below w.heap.size w W0 := by rw [hW0]; exact (Below.refl _ _).alloc (Nat.le_refl _) _
  have hk0 : Kp B b w W0 := Kp.of_below hb0 hBw
  have HW0 : Hid (IsW B b bs W0) := h.below hb0
  have HK0 : Hid (Kp B b w W0) := hk0
  have HX0 : Hid (W0.heap[w.heap.size]? = some (.cells #[.string x0, .int .i64 x1, .int .i64 x2, .int .i64 x3, .bool x4] 55 (0, 0))) := by rw [hW0]; exact heap_alloc_new w _
  have HB0 : Hid (W0.heap[wb]? = some (.cells #[.pointer (some ⟨b, 0, none⟩)] 81 (0, 0))) := (hb0.block _ hwl).trans hwb
  have HL0 : Hid (bs.length ≤ 700000) := hlen
  have HT : Hid (Tab B w) := hT
  clear h hb0 hk0 hwb hT hlen
  go_enter Tryz.func47, Tryz.ntmps47
  go_upto_region 1 with fail
  rw [← hW0]
  clear hW0
  have y0 : W0.cell? ⟨wb, 0, none⟩ = some (.pointer (some ⟨b, 0, none⟩)) := cellsAt HB0.out 0
  have z0 : W0.cell? ⟨w.heap.size, 0, none⟩ = some (.string x0) := cellsAt HX0.out 0
  go_wp2_with fail
  refine (wtext_any B b x0 (bs) W0 HW0.out (by have := HL0.out; omega) (Nat.le_trans hBw HK0.out.size) (HT.out.below HK0.out.bel)).mono ?_
  rintro e W1 ⟨rfl, hw, hk⟩
  have HW1 : Hid (IsW B b (bs ++ txtL x0) W1) := hw
  have HK1 : Hid (Kp B b w W1) := HK0.out.trans hk
  have HX1 : Hid (W1.heap[w.heap.size]? = some (.cells #[.string x0, .int .i64 x1, .int .i64 x2, .int .i64 x3, .bool x4] 55 (0, 0))) := hk.keeps HX0.out (by omega) (by decide)
  have HB1 : Hid (W1.heap[wb]? = some (.cells #[.pointer (some ⟨b, 0, none⟩)] 81 (0, 0))) := hk.keeps HB0.out hne (by decide)
  have HL1 : Hid ((bs ++ txtL x0).length ≤ 701100) := by
    have g1 := HL0.out
    have g2 := txtL_len h0
    show List.length (bs ++ txtL x0) ≤ _
    rw [List.length_append]
    omega
  clear hw hk y0 z0
  have y0 : W1.cell? ⟨wb, 0, none⟩ = some (.pointer (some ⟨b, 0, none⟩)) := cellsAt HB1.out 0
  have z0 : W1.cell? ⟨w.heap.size, 1, none⟩ = some (.int .i64 x1) := cellsAt HX1.out 1
  have z1 : W1.cell? ⟨w.heap.size, 2, none⟩ = some (.int .i64 x2) := cellsAt HX1.out 2
  have z2 : W1.cell? ⟨w.heap.size, 3, none⟩ = some (.int .i64 x3) := cellsAt HX1.out 3
  go_wp2_with fail
  refine (wnums_at B b [x1, x2, x3] (bs ++ txtL x0) W1 HW1.out (by have := HL1.out; simp only [List.length_cons, List.length_nil]; omega) (Nat.le_trans hBw HK1.out.size) (HT.out.below HK1.out.bel) (fun n hn => by simp only [List.mem_cons, List.not_mem_nil, or_false] at hn; rcases hn with rfl | rfl | rfl <;> assumption)).mono ?_
  rintro e W2 ⟨rfl, hw, hk⟩
  have HW2 : Hid (IsW B b (bs ++ txtL x0 ++ [x1, x2, x3].flatMap numL) W2) := hw
  have HK2 : Hid (Kp B b w W2) := HK1.out.trans hk
  have HX2 : Hid (W2.heap[w.heap.size]? = some (.cells #[.string x0, .int .i64 x1, .int .i64 x2, .int .i64 x3, .bool x4] 55 (0, 0))) := hk.keeps HX1.out (by omega) (by decide)
  have HB2 : Hid (W2.heap[wb]? = some (.cells #[.pointer (some ⟨b, 0, none⟩)] 81 (0, 0))) := hk.keeps HB1.out hne (by decide)
  have HL2 : Hid ((bs ++ txtL x0 ++ [x1, x2, x3].flatMap numL).length ≤ 702200) := by
    have g1 := HL1.out
    have g2 := nums_len [x1, x2, x3] (fun n hn => by simp only [List.mem_cons, List.not_mem_nil, or_false] at hn; rcases hn with rfl | rfl | rfl <;> assumption)
    show List.length (bs ++ txtL x0 ++ [x1, x2, x3].flatMap numL) ≤ _
    rw [List.length_append]
    simp only [List.length_cons, List.length_nil] at g2
    omega
  clear hw hk y0 z0 z1 z2
  have y0 : W2.cell? ⟨wb, 0, none⟩ = some (.pointer (some ⟨b, 0, none⟩)) := cellsAt HB2.out 0
  have z0 : W2.cell? ⟨w.heap.size, 4, none⟩ = some (.bool x4) := cellsAt HX2.out 4
  go_wp2_with fail
  refine (wflag_any B b x4 (bs ++ txtL x0 ++ [x1, x2, x3].flatMap numL) W2 HW2.out (by have := HL2.out; omega) (Nat.le_trans hBw HK2.out.size) (HT.out.below HK2.out.bel)).mono ?_
  rintro e W3 ⟨rfl, hw, hk⟩
  have HW3 : Hid (IsW B b (bs ++ txtL x0 ++ [x1, x2, x3].flatMap numL ++ flgL x4) W3) := hw
  have HK3 : Hid (Kp B b w W3) := HK2.out.trans hk
  have HX3 : Hid (W3.heap[w.heap.size]? = some (.cells #[.string x0, .int .i64 x1, .int .i64 x2, .int .i64 x3, .bool x4] 55 (0, 0))) := hk.keeps HX2.out (by omega) (by decide)
  have HB3 : Hid (W3.heap[wb]? = some (.cells #[.pointer (some ⟨b, 0, none⟩)] 81 (0, 0))) := hk.keeps HB2.out hne (by decide)
  have HL3 : Hid ((bs ++ txtL x0 ++ [x1, x2, x3].flatMap numL ++ flgL x4).length ≤ 703300) := by
    have g1 := HL2.out
    have g2 := flgL_len x4
    show List.length (bs ++ txtL x0 ++ [x1, x2, x3].flatMap numL ++ flgL x4) ≤ _
    rw [List.length_append]
    omega
  clear hw hk y0 z0
  have HWE : Hid (IsW B b (bs ++ EL) W3) := by
    have h := HW3.out
    rw [HEL.out]
    simp only [List.append_assoc] at h ⊢
    exact h
  go_wp2_with fail
  simp [bodyPost, results, Tryz.results47]
  exact ⟨HWE.out, HK3.out⟩

def Sv.elL (m : Sv.Svc) : List Value := txtL m.node ++ txtL m.idn ++ txtL m.name ++ txtL m.tag ++ [m.addr, m.port].flatMap numL ++ flgL m.passing ++ [m.version].flatMap numL ++ flgL m.gone
def Sv.wok (m : Sv.Svc) : Prop := m.node.size ≤ 1000 ∧ m.idn.size ≤ 1000 ∧ m.name.size ≤ 1000 ∧ m.tag.size ≤ 1000 ∧ In63 m.addr ∧ In63 m.port ∧ In63 m.version
theorem Sv.elL_len {m : Sv.Svc} (h : Sv.wok m) : (Sv.elL m).length ≤ 8800 := by
  unfold Sv.elL
  obtain ⟨h0, h1, h2, h3, h4, h5, h6⟩ := h
  have l0 := txtL_len h0
  have l1 := txtL_len h1
  have l2 := txtL_len h2
  have l3 := txtL_len h3
  have l4 := nums_len [m.addr, m.port] (fun n hn => by simp only [List.mem_cons, List.not_mem_nil, or_false] at hn; rcases hn with rfl | rfl <;> assumption)
  simp only [List.length_cons, List.length_nil] at l4
  have l5 := flgL_len m.passing
  have l6 := nums_len [m.version] (fun n hn => by simp only [List.mem_cons, List.not_mem_nil, or_false] at hn; rcases hn with rfl <;> assumption)
  simp only [List.length_cons, List.length_nil] at l6
  have l7 := flgL_len m.gone
  simp only [List.length_append]
  omega

set_option maxHeartbeats 6400000 in
set_option maxRecDepth 100000 in
theorem Sv.wone_any (B b wb : Nat) (m : Sv.Svc) (bs : List Value) (w : World) (h : IsW B b bs w) (hlen : bs.length ≤ 700000) (hBw : B ≤ w.heap.size) (hT : Tab B w) (hwb : w.heap[wb]? = some (.cells #[.pointer (some ⟨b, 0, none⟩)] 81 (0, 0))) (hne : wb ≠ b) (hm : Sv.wok m) :
    Calls Tryz.prog 50 #[.agg #[.string m.node, .string m.idn, .string m.name, .string m.tag, .int .i64 m.addr, .int .i64 m.port, .bool m.passing, .int .i64 m.version, .bool m.gone], .pointer (some ⟨wb, 0, none⟩)] w fun e w' => e = .returned (.tuple #[]) ∧ IsW B b (bs ++ Sv.elL m) w' ∧ Kp B b w w' := by
  have HEL : Hid (Sv.elL m = txtL m.node ++ txtL m.idn ++ txtL m.name ++ txtL m.tag ++ [m.addr, m.port].flatMap numL ++ flgL m.passing ++ [m.version].flatMap numL ++ flgL m.gone) := rfl
  generalize Sv.elL m = EL at *
  obtain ⟨x0, x1, x2, x3, x4, x5, x6, x7, x8⟩ := m
  obtain ⟨h0, h1, h2, h3, h4, h5, h6⟩ := hm
  simp only at h0 h1 h2 h3 h4 h5 h6 HEL ⊢
  have hlb := h.lt
  have hwl : wb < w.heap.size := (Array.getElem?_eq_some_iff.1 hwb).1
  obtain ⟨W0, hW0⟩ : ∃ W0, W0 = w.alloc (.cells #[.string x0, .string x1, .string x2, .string x3, .int .i64 x4, .int .i64 x5, .bool x6, .int .i64 x7, .bool x8] 60) := ⟨_, rfl⟩
  have hb0 : Below w.heap.size w W0 := by rw [hW0]; exact (Below.refl _ _).alloc (Nat.le_refl _) _
  have hk0 : Kp B b w W0 := Kp.of_below hb0 hBw
  have HW0 : Hid (IsW B b bs W0) := h.below hb0
  have HK0 : Hid (Kp B b w W0) := hk0
  have HX0 : Hid (W0.heap[w.heap.size]? = some (.cells #[.string x0, .string x1, .string x2, .string x3, .int .i64 x4, .int .i64 x5, .bool x6, .int .i64 x7, .bool x8] 60 (0, 0))) := by rw [hW0]; exact heap_alloc_new w _
  have HB0 : Hid (W0.heap[wb]? = some (.cells #[.pointer (some ⟨b, 0, none⟩)] 81 (0, 0))) := (hb0.block _ hwl).trans hwb
  have HL0 : Hid (bs.length ≤ 700000) := hlen
  have HT : Hid (Tab B w) := hT
  clear h hb0 hk0 hwb hT hlen
  go_enter Tryz.func50, Tryz.ntmps50
  go_upto_region 1 with fail
  rw [← hW0]
  clear hW0
  have y0 : W0.cell? ⟨wb, 0, none⟩ = some (.pointer (some ⟨b, 0, none⟩)) := cellsAt HB0.out 0
  have z0 : W0.cell? ⟨w.heap.size, 0, none⟩ = some (.string x0) := cellsAt HX0.out 0
  go_wp2_with fail
  refine (wtext_any B b x0 (bs) W0 HW0.out (by have := HL0.out; omega) (Nat.le_trans hBw HK0.out.size) (HT.out.below HK0.out.bel)).mono ?_
  rintro e W1 ⟨rfl, hw, hk⟩
  have HW1 : Hid (IsW B b (bs ++ txtL x0) W1) := hw
  have HK1 : Hid (Kp B b w W1) := HK0.out.trans hk
  have HX1 : Hid (W1.heap[w.heap.size]? = some (.cells #[.string x0, .string x1, .string x2, .string x3, .int .i64 x4, .int .i64 x5, .bool x6, .int .i64 x7, .bool x8] 60 (0, 0))) := hk.keeps HX0.out (by omega) (by decide)
  have HB1 : Hid (W1.heap[wb]? = some (.cells #[.pointer (some ⟨b, 0, none⟩)] 81 (0, 0))) := hk.keeps HB0.out hne (by decide)
  have HL1 : Hid ((bs ++ txtL x0).length ≤ 701100) := by
    have g1 := HL0.out
    have g2 := txtL_len h0
    show List.length (bs ++ txtL x0) ≤ _
    rw [List.length_append]
    omega
  clear hw hk y0 z0
  have y0 : W1.cell? ⟨wb, 0, none⟩ = some (.pointer (some ⟨b, 0, none⟩)) := cellsAt HB1.out 0
  have z0 : W1.cell? ⟨w.heap.size, 1, none⟩ = some (.string x1) := cellsAt HX1.out 1
  go_wp2_with fail
  refine (wtext_any B b x1 (bs ++ txtL x0) W1 HW1.out (by have := HL1.out; omega) (Nat.le_trans hBw HK1.out.size) (HT.out.below HK1.out.bel)).mono ?_
  rintro e W2 ⟨rfl, hw, hk⟩
  have HW2 : Hid (IsW B b (bs ++ txtL x0 ++ txtL x1) W2) := hw
  have HK2 : Hid (Kp B b w W2) := HK1.out.trans hk
  have HX2 : Hid (W2.heap[w.heap.size]? = some (.cells #[.string x0, .string x1, .string x2, .string x3, .int .i64 x4, .int .i64 x5, .bool x6, .int .i64 x7, .bool x8] 60 (0, 0))) := hk.keeps HX1.out (by omega) (by decide)
  have HB2 : Hid (W2.heap[wb]? = some (.cells #[.pointer (some ⟨b, 0, none⟩)] 81 (0, 0))) := hk.keeps HB1.out hne (by decide)
  have HL2 : Hid ((bs ++ txtL x0 ++ txtL x1).length ≤ 702200) := by
    have g1 := HL1.out
    have g2 := txtL_len h1
    show List.length (bs ++ txtL x0 ++ txtL x1) ≤ _
    rw [List.length_append]
    omega
  clear hw hk y0 z0
  have y0 : W2.cell? ⟨wb, 0, none⟩ = some (.pointer (some ⟨b, 0, none⟩)) := cellsAt HB2.out 0
  have z0 : W2.cell? ⟨w.heap.size, 2, none⟩ = some (.string x2) := cellsAt HX2.out 2
  go_wp2_with fail
  refine (wtext_any B b x2 (bs ++ txtL x0 ++ txtL x1) W2 HW2.out (by have := HL2.out; omega) (Nat.le_trans hBw HK2.out.size) (HT.out.below HK2.out.bel)).mono ?_
  rintro e W3 ⟨rfl, hw, hk⟩
  have HW3 : Hid (IsW B b (bs ++ txtL x0 ++ txtL x1 ++ txtL x2) W3) := hw
  have HK3 : Hid (Kp B b w W3) := HK2.out.trans hk
  have HX3 : Hid (W3.heap[w.heap.size]? = some (.cells #[.string x0, .string x1, .string x2, .string x3, .int .i64 x4, .int .i64 x5, .bool x6, .int .i64 x7, .bool x8] 60 (0, 0))) := hk.keeps HX2.out (by omega) (by decide)
  have HB3 : Hid (W3.heap[wb]? = some (.cells #[.pointer (some ⟨b, 0, none⟩)] 81 (0, 0))) := hk.keeps HB2.out hne (by decide)
  have HL3 : Hid ((bs ++ txtL x0 ++ txtL x1 ++ txtL x2).length ≤ 703300) := by
    have g1 := HL2.out
    have g2 := txtL_len h2
    show List.length (bs ++ txtL x0 ++ txtL x1 ++ txtL x2) ≤ _
    rw [List.length_append]
    omega
  clear hw hk y0 z0
  have y0 : W3.cell? ⟨wb, 0, none⟩ = some (.pointer (some ⟨b, 0, none⟩)) := cellsAt HB3.out 0
  have z0 : W3.cell? ⟨w.heap.size, 3, none⟩ = some (.string x3) := cellsAt HX3.out 3
  go_wp2_with fail
  refine (wtext_any B b x3 (bs ++ txtL x0 ++ txtL x1 ++ txtL x2) W3 HW3.out (by have := HL3.out; omega) (Nat.le_trans hBw HK3.out.size) (HT.out.below HK3.out.bel)).mono ?_
  rintro e W4 ⟨rfl, hw, hk⟩
  have HW4 : Hid (IsW B b (bs ++ txtL x0 ++ txtL x1 ++ txtL x2 ++ txtL x3) W4) := hw
  have HK4 : Hid (Kp B b w W4) := HK3.out.trans hk
  have HX4 : Hid (W4.heap[w.heap.size]? = some (.cells #[.string x0, .string x1, .string x2, .string x3, .int .i64 x4, .int .i64 x5, .bool x6, .int .i64 x7, .bool x8] 60 (0, 0))) := hk.keeps HX3.out (by omega) (by decide)
  have HB4 : Hid (W4.heap[wb]? = some (.cells #[.pointer (some ⟨b, 0, none⟩)] 81 (0, 0))) := hk.keeps HB3.out hne (by decide)
  have HL4 : Hid ((bs ++ txtL x0 ++ txtL x1 ++ txtL x2 ++ txtL x3).length ≤ 704400) := by
    have g1 := HL3.out
    have g2 := txtL_len h3
    show List.length (bs ++ txtL x0 ++ txtL x1 ++ txtL x2 ++ txtL x3) ≤ _
    rw [List.length_append]
    omega
  clear hw hk y0 z0
  have y0 : W4.cell? ⟨wb, 0, none⟩ = some (.pointer (some ⟨b, 0, none⟩)) := cellsAt HB4.out 0
  have z0 : W4.cell? ⟨w.heap.size, 4, none⟩ = some (.int .i64 x4) := cellsAt HX4.out 4
  have z1 : W4.cell? ⟨w.heap.size, 5, none⟩ = some (.int .i64 x5) := cellsAt HX4.out 5
  go_wp2_with fail
  refine (wnums_at B b [x4, x5] (bs ++ txtL x0 ++ txtL x1 ++ txtL x2 ++ txtL x3) W4 HW4.out (by have := HL4.out; simp only [List.length_cons, List.length_nil]; omega) (Nat.le_trans hBw HK4.out.size) (HT.out.below HK4.out.bel) (fun n hn => by simp only [List.mem_cons, List.not_mem_nil, or_false] at hn; rcases hn with rfl | rfl <;> assumption)).mono ?_
  rintro e W5 ⟨rfl, hw, hk⟩
  have HW5 : Hid (IsW B b (bs ++ txtL x0 ++ txtL x1 ++ txtL x2 ++ txtL x3 ++ [x4, x5].flatMap numL) W5) := hw
  have HK5 : Hid (Kp B b w W5) := HK4.out.trans hk
  have HX5 : Hid (W5.heap[w.heap.size]? = some (.cells #[.string x0, .string x1, .string x2, .string x3, .int .i64 x4, .int .i64 x5, .bool x6, .int .i64 x7, .bool x8] 60 (0, 0))) := hk.keeps HX4.out (by omega) (by decide)
  have HB5 : Hid (W5.heap[wb]? = some (.cells #[.pointer (some ⟨b, 0, none⟩)] 81 (0, 0))) := hk.keeps HB4.out hne (by decide)
  have HL5 : Hid ((bs ++ txtL x0 ++ txtL x1 ++ txtL x2 ++ txtL x3 ++ [x4, x5].flatMap numL).length ≤ 705500) := by
    have g1 := HL4.out
    have g2 := nums_len [x4, x5] (fun n hn => by simp only [List.mem_cons, List.not_mem_nil, or_false] at hn; rcases hn with rfl | rfl <;> assumption)
    show List.length (bs ++ txtL x0 ++ txtL x1 ++ txtL x2 ++ txtL x3 ++ [x4, x5].flatMap numL) ≤ _
    rw [List.length_append]
    simp only [List.length_cons, List.length_nil] at g2
    omega
  clear hw hk y0 z0 z1
  have y0 : W5.cell? ⟨wb, 0, none⟩ = some (.pointer (some ⟨b, 0, none⟩)) := cellsAt HB5.out 0
  have z0 : W5.cell? ⟨w.heap.size, 6, none⟩ = some (.bool x6) := cellsAt HX5.out 6
  go_wp2_with fail
  refine (wflag_any B b x6 (bs ++ txtL x0 ++ txtL x1 ++ txtL x2 ++ txtL x3 ++ [x4, x5].flatMap numL) W5 HW5.out (by have := HL5.out; omega) (Nat.le_trans hBw HK5.out.size) (HT.out.below HK5.out.bel)).mono ?_
  rintro e W6 ⟨rfl, hw, hk⟩
  have HW6 : Hid (IsW B b (bs ++ txtL x0 ++ txtL x1 ++ txtL x2 ++ txtL x3 ++ [x4, x5].flatMap numL ++ flgL x6) W6) := hw
  have HK6 : Hid (Kp B b w W6) := HK5.out.trans hk
  have HX6 : Hid (W6.heap[w.heap.size]? = some (.cells #[.string x0, .string x1, .string x2, .string x3, .int .i64 x4, .int .i64 x5, .bool x6, .int .i64 x7, .bool x8] 60 (0, 0))) := hk.keeps HX5.out (by omega) (by decide)
  have HB6 : Hid (W6.heap[wb]? = some (.cells #[.pointer (some ⟨b, 0, none⟩)] 81 (0, 0))) := hk.keeps HB5.out hne (by decide)
  have HL6 : Hid ((bs ++ txtL x0 ++ txtL x1 ++ txtL x2 ++ txtL x3 ++ [x4, x5].flatMap numL ++ flgL x6).length ≤ 706600) := by
    have g1 := HL5.out
    have g2 := flgL_len x6
    show List.length (bs ++ txtL x0 ++ txtL x1 ++ txtL x2 ++ txtL x3 ++ [x4, x5].flatMap numL ++ flgL x6) ≤ _
    rw [List.length_append]
    omega
  clear hw hk y0 z0
  have y0 : W6.cell? ⟨wb, 0, none⟩ = some (.pointer (some ⟨b, 0, none⟩)) := cellsAt HB6.out 0
  have z0 : W6.cell? ⟨w.heap.size, 7, none⟩ = some (.int .i64 x7) := cellsAt HX6.out 7
  go_wp2_with fail
  refine (wnums_at B b [x7] (bs ++ txtL x0 ++ txtL x1 ++ txtL x2 ++ txtL x3 ++ [x4, x5].flatMap numL ++ flgL x6) W6 HW6.out (by have := HL6.out; simp only [List.length_cons, List.length_nil]; omega) (Nat.le_trans hBw HK6.out.size) (HT.out.below HK6.out.bel) (fun n hn => by simp only [List.mem_cons, List.not_mem_nil, or_false] at hn; rcases hn with rfl <;> assumption)).mono ?_
  rintro e W7 ⟨rfl, hw, hk⟩
  have HW7 : Hid (IsW B b (bs ++ txtL x0 ++ txtL x1 ++ txtL x2 ++ txtL x3 ++ [x4, x5].flatMap numL ++ flgL x6 ++ [x7].flatMap numL) W7) := hw
  have HK7 : Hid (Kp B b w W7) := HK6.out.trans hk
  have HX7 : Hid (W7.heap[w.heap.size]? = some (.cells #[.string x0, .string x1, .string x2, .string x3, .int .i64 x4, .int .i64 x5, .bool x6, .int .i64 x7, .bool x8] 60 (0, 0))) := hk.keeps HX6.out (by omega) (by decide)
  have HB7 : Hid (W7.heap[wb]? = some (.cells #[.pointer (some ⟨b, 0, none⟩)] 81 (0, 0))) := hk.keeps HB6.out hne (by decide)
  have HL7 : Hid ((bs ++ txtL x0 ++ txtL x1 ++ txtL x2 ++ txtL x3 ++ [x4, x5].flatMap numL ++ flgL x6 ++ [x7].flatMap numL).length ≤ 707700) := by
    have g1 := HL6.out
    have g2 := nums_len [x7] (fun n hn => by simp only [List.mem_cons, List.not_mem_nil, or_false] at hn; rcases hn with rfl <;> assumption)
    show List.length (bs ++ txtL x0 ++ txtL x1 ++ txtL x2 ++ txtL x3 ++ [x4, x5].flatMap numL ++ flgL x6 ++ [x7].flatMap numL) ≤ _
    rw [List.length_append]
    simp only [List.length_cons, List.length_nil] at g2
    omega
  clear hw hk y0 z0
  have y0 : W7.cell? ⟨wb, 0, none⟩ = some (.pointer (some ⟨b, 0, none⟩)) := cellsAt HB7.out 0
  have z0 : W7.cell? ⟨w.heap.size, 8, none⟩ = some (.bool x8) := cellsAt HX7.out 8
  go_wp2_with fail
  refine (wflag_any B b x8 (bs ++ txtL x0 ++ txtL x1 ++ txtL x2 ++ txtL x3 ++ [x4, x5].flatMap numL ++ flgL x6 ++ [x7].flatMap numL) W7 HW7.out (by have := HL7.out; omega) (Nat.le_trans hBw HK7.out.size) (HT.out.below HK7.out.bel)).mono ?_
  rintro e W8 ⟨rfl, hw, hk⟩
  have HW8 : Hid (IsW B b (bs ++ txtL x0 ++ txtL x1 ++ txtL x2 ++ txtL x3 ++ [x4, x5].flatMap numL ++ flgL x6 ++ [x7].flatMap numL ++ flgL x8) W8) := hw
  have HK8 : Hid (Kp B b w W8) := HK7.out.trans hk
  have HX8 : Hid (W8.heap[w.heap.size]? = some (.cells #[.string x0, .string x1, .string x2, .string x3, .int .i64 x4, .int .i64 x5, .bool x6, .int .i64 x7, .bool x8] 60 (0, 0))) := hk.keeps HX7.out (by omega) (by decide)
  have HB8 : Hid (W8.heap[wb]? = some (.cells #[.pointer (some ⟨b, 0, none⟩)] 81 (0, 0))) := hk.keeps HB7.out hne (by decide)
  have HL8 : Hid ((bs ++ txtL x0 ++ txtL x1 ++ txtL x2 ++ txtL x3 ++ [x4, x5].flatMap numL ++ flgL x6 ++ [x7].flatMap numL ++ flgL x8).length ≤ 708800) := by
    have g1 := HL7.out
    have g2 := flgL_len x8
    show List.length (bs ++ txtL x0 ++ txtL x1 ++ txtL x2 ++ txtL x3 ++ [x4, x5].flatMap numL ++ flgL x6 ++ [x7].flatMap numL ++ flgL x8) ≤ _
    rw [List.length_append]
    omega
  clear hw hk y0 z0
  have HWE : Hid (IsW B b (bs ++ EL) W8) := by
    have h := HW8.out
    rw [HEL.out]
    simp only [List.append_assoc] at h ⊢
    exact h
  go_wp2_with fail
  simp [bodyPost, results, Tryz.results50]
  exact ⟨HWE.out, HK8.out⟩

def Gw.elL (m : Gw.Gwy) : List Value := txtL m.centre ++ [m.addr, m.version].flatMap numL
def Gw.wok (m : Gw.Gwy) : Prop := m.centre.size ≤ 1000 ∧ In63 m.addr ∧ In63 m.version
theorem Gw.elL_len {m : Gw.Gwy} (h : Gw.wok m) : (Gw.elL m).length ≤ 2200 := by
  unfold Gw.elL
  obtain ⟨h0, h1, h2⟩ := h
  have l0 := txtL_len h0
  have l1 := nums_len [m.addr, m.version] (fun n hn => by simp only [List.mem_cons, List.not_mem_nil, or_false] at hn; rcases hn with rfl | rfl <;> assumption)
  simp only [List.length_cons, List.length_nil] at l1
  simp only [List.length_append]
  omega

set_option maxHeartbeats 6400000 in
set_option maxRecDepth 100000 in
theorem Gw.wone_any (B b wb : Nat) (m : Gw.Gwy) (bs : List Value) (w : World) (h : IsW B b bs w) (hlen : bs.length ≤ 700000) (hBw : B ≤ w.heap.size) (hT : Tab B w) (hwb : w.heap[wb]? = some (.cells #[.pointer (some ⟨b, 0, none⟩)] 81 (0, 0))) (hne : wb ≠ b) (hm : Gw.wok m) :
    Calls Tryz.prog 52 #[.agg #[.string m.centre, .int .i64 m.addr, .int .i64 m.version], .pointer (some ⟨wb, 0, none⟩)] w fun e w' => e = .returned (.tuple #[]) ∧ IsW B b (bs ++ Gw.elL m) w' ∧ Kp B b w w' := by
  have HEL : Hid (Gw.elL m = txtL m.centre ++ [m.addr, m.version].flatMap numL) := rfl
  generalize Gw.elL m = EL at *
  obtain ⟨x0, x1, x2⟩ := m
  obtain ⟨h0, h1, h2⟩ := hm
  simp only at h0 h1 h2 HEL ⊢
  have hlb := h.lt
  have hwl : wb < w.heap.size := (Array.getElem?_eq_some_iff.1 hwb).1
  obtain ⟨W0, hW0⟩ : ∃ W0, W0 = w.alloc (.cells #[.string x0, .int .i64 x1, .int .i64 x2] 62) := ⟨_, rfl⟩
  have hb0 : Below w.heap.size w W0 := by rw [hW0]; exact (Below.refl _ _).alloc (Nat.le_refl _) _
  have hk0 : Kp B b w W0 := Kp.of_below hb0 hBw
  have HW0 : Hid (IsW B b bs W0) := h.below hb0
  have HK0 : Hid (Kp B b w W0) := hk0
  have HX0 : Hid (W0.heap[w.heap.size]? = some (.cells #[.string x0, .int .i64 x1, .int .i64 x2] 62 (0, 0))) := by rw [hW0]; exact heap_alloc_new w _
  have HB0 : Hid (W0.heap[wb]? = some (.cells #[.pointer (some ⟨b, 0, none⟩)] 81 (0, 0))) := (hb0.block _ hwl).trans hwb
  have HL0 : Hid (bs.length ≤ 700000) := hlen
  have HT : Hid (Tab B w) := hT
  clear h hb0 hk0 hwb hT hlen
  go_enter Tryz.func52, Tryz.ntmps52
  go_upto_region 1 with fail
  rw [← hW0]
  clear hW0
  have y0 : W0.cell? ⟨wb, 0, none⟩ = some (.pointer (some ⟨b, 0, none⟩)) := cellsAt HB0.out 0
  have z0 : W0.cell? ⟨w.heap.size, 0, none⟩ = some (.string x0) := cellsAt HX0.out 0
  go_wp2_with fail
  refine (wtext_any B b x0 (bs) W0 HW0.out (by have := HL0.out; omega) (Nat.le_trans hBw HK0.out.size) (HT.out.below HK0.out.bel)).mono ?_
  rintro e W1 ⟨rfl, hw, hk⟩
  have HW1 : Hid (IsW B b (bs ++ txtL x0) W1) := hw
  have HK1 : Hid (Kp B b w W1) := HK0.out.trans hk
  have HX1 : Hid (W1.heap[w.heap.size]? = some (.cells #[.string x0, .int .i64 x1, .int .i64 x2] 62 (0, 0))) := hk.keeps HX0.out (by omega) (by decide)
  have HB1 : Hid (W1.heap[wb]? = some (.cells #[.pointer (some ⟨b, 0, none⟩)] 81 (0, 0))) := hk.keeps HB0.out hne (by decide)
  have HL1 : Hid ((bs ++ txtL x0).length ≤ 701100) := by
    have g1 := HL0.out
    have g2 := txtL_len h0
    show List.length (bs ++ txtL x0) ≤ _
    rw [List.length_append]
    omega
  clear hw hk y0 z0
  have y0 : W1.cell? ⟨wb, 0, none⟩ = some (.pointer (some ⟨b, 0, none⟩)) := cellsAt HB1.out 0
  have z0 : W1.cell? ⟨w.heap.size, 1, none⟩ = some (.int .i64 x1) := cellsAt HX1.out 1
  have z1 : W1.cell? ⟨w.heap.size, 2, none⟩ = some (.int .i64 x2) := cellsAt HX1.out 2
  go_wp2_with fail
  refine (wnums_at B b [x1, x2] (bs ++ txtL x0) W1 HW1.out (by have := HL1.out; simp only [List.length_cons, List.length_nil]; omega) (Nat.le_trans hBw HK1.out.size) (HT.out.below HK1.out.bel) (fun n hn => by simp only [List.mem_cons, List.not_mem_nil, or_false] at hn; rcases hn with rfl | rfl <;> assumption)).mono ?_
  rintro e W2 ⟨rfl, hw, hk⟩
  have HW2 : Hid (IsW B b (bs ++ txtL x0 ++ [x1, x2].flatMap numL) W2) := hw
  have HK2 : Hid (Kp B b w W2) := HK1.out.trans hk
  have HX2 : Hid (W2.heap[w.heap.size]? = some (.cells #[.string x0, .int .i64 x1, .int .i64 x2] 62 (0, 0))) := hk.keeps HX1.out (by omega) (by decide)
  have HB2 : Hid (W2.heap[wb]? = some (.cells #[.pointer (some ⟨b, 0, none⟩)] 81 (0, 0))) := hk.keeps HB1.out hne (by decide)
  have HL2 : Hid ((bs ++ txtL x0 ++ [x1, x2].flatMap numL).length ≤ 702200) := by
    have g1 := HL1.out
    have g2 := nums_len [x1, x2] (fun n hn => by simp only [List.mem_cons, List.not_mem_nil, or_false] at hn; rcases hn with rfl | rfl <;> assumption)
    show List.length (bs ++ txtL x0 ++ [x1, x2].flatMap numL) ≤ _
    rw [List.length_append]
    simp only [List.length_cons, List.length_nil] at g2
    omega
  clear hw hk y0 z0 z1
  have HWE : Hid (IsW B b (bs ++ EL) W2) := by
    have h := HW2.out
    rw [HEL.out]
    simp only [List.append_assoc] at h ⊢
    exact h
  go_wp2_with fail
  simp [bodyPost, results, Tryz.results52]
  exact ⟨HWE.out, HK2.out⟩

def Wh.elL (m : Wh.Whe) : List Value := txtL m.node ++ [m.x, m.y, m.z, m.h, m.s].flatMap numL
def Wh.wok (m : Wh.Whe) : Prop := m.node.size ≤ 1000 ∧ In63 m.x ∧ In63 m.y ∧ In63 m.z ∧ In63 m.h ∧ In63 m.s
theorem Wh.elL_len {m : Wh.Whe} (h : Wh.wok m) : (Wh.elL m).length ≤ 2200 := by
  unfold Wh.elL
  obtain ⟨h0, h1, h2, h3, h4, h5⟩ := h
  have l0 := txtL_len h0
  have l1 := nums_len [m.x, m.y, m.z, m.h, m.s] (fun n hn => by simp only [List.mem_cons, List.not_mem_nil, or_false] at hn; rcases hn with rfl | rfl | rfl | rfl | rfl <;> assumption)
  simp only [List.length_cons, List.length_nil] at l1
  simp only [List.length_append]
  omega

set_option maxHeartbeats 6400000 in
set_option maxRecDepth 100000 in
theorem Wh.wone_any (B b wb : Nat) (m : Wh.Whe) (bs : List Value) (w : World) (h : IsW B b bs w) (hlen : bs.length ≤ 700000) (hBw : B ≤ w.heap.size) (hT : Tab B w) (hwb : w.heap[wb]? = some (.cells #[.pointer (some ⟨b, 0, none⟩)] 81 (0, 0))) (hne : wb ≠ b) (hm : Wh.wok m) :
    Calls Tryz.prog 54 #[.agg #[.string m.node, .int .i64 m.x, .int .i64 m.y, .int .i64 m.z, .int .i64 m.h, .int .i64 m.s], .pointer (some ⟨wb, 0, none⟩)] w fun e w' => e = .returned (.tuple #[]) ∧ IsW B b (bs ++ Wh.elL m) w' ∧ Kp B b w w' := by
  have HEL : Hid (Wh.elL m = txtL m.node ++ [m.x, m.y, m.z, m.h, m.s].flatMap numL) := rfl
  generalize Wh.elL m = EL at *
  obtain ⟨x0, x1, x2, x3, x4, x5⟩ := m
  obtain ⟨h0, h1, h2, h3, h4, h5⟩ := hm
  simp only at h0 h1 h2 h3 h4 h5 HEL ⊢
  have hlb := h.lt
  have hwl : wb < w.heap.size := (Array.getElem?_eq_some_iff.1 hwb).1
  obtain ⟨W0, hW0⟩ : ∃ W0, W0 = w.alloc (.cells #[.string x0, .int .i64 x1, .int .i64 x2, .int .i64 x3, .int .i64 x4, .int .i64 x5] 66) := ⟨_, rfl⟩
  have hb0 : Below w.heap.size w W0 := by rw [hW0]; exact (Below.refl _ _).alloc (Nat.le_refl _) _
  have hk0 : Kp B b w W0 := Kp.of_below hb0 hBw
  have HW0 : Hid (IsW B b bs W0) := h.below hb0
  have HK0 : Hid (Kp B b w W0) := hk0
  have HX0 : Hid (W0.heap[w.heap.size]? = some (.cells #[.string x0, .int .i64 x1, .int .i64 x2, .int .i64 x3, .int .i64 x4, .int .i64 x5] 66 (0, 0))) := by rw [hW0]; exact heap_alloc_new w _
  have HB0 : Hid (W0.heap[wb]? = some (.cells #[.pointer (some ⟨b, 0, none⟩)] 81 (0, 0))) := (hb0.block _ hwl).trans hwb
  have HL0 : Hid (bs.length ≤ 700000) := hlen
  have HT : Hid (Tab B w) := hT
  clear h hb0 hk0 hwb hT hlen
  go_enter Tryz.func54, Tryz.ntmps54
  go_upto_region 1 with fail
  rw [← hW0]
  clear hW0
  have y0 : W0.cell? ⟨wb, 0, none⟩ = some (.pointer (some ⟨b, 0, none⟩)) := cellsAt HB0.out 0
  have z0 : W0.cell? ⟨w.heap.size, 0, none⟩ = some (.string x0) := cellsAt HX0.out 0
  go_wp2_with fail
  refine (wtext_any B b x0 (bs) W0 HW0.out (by have := HL0.out; omega) (Nat.le_trans hBw HK0.out.size) (HT.out.below HK0.out.bel)).mono ?_
  rintro e W1 ⟨rfl, hw, hk⟩
  have HW1 : Hid (IsW B b (bs ++ txtL x0) W1) := hw
  have HK1 : Hid (Kp B b w W1) := HK0.out.trans hk
  have HX1 : Hid (W1.heap[w.heap.size]? = some (.cells #[.string x0, .int .i64 x1, .int .i64 x2, .int .i64 x3, .int .i64 x4, .int .i64 x5] 66 (0, 0))) := hk.keeps HX0.out (by omega) (by decide)
  have HB1 : Hid (W1.heap[wb]? = some (.cells #[.pointer (some ⟨b, 0, none⟩)] 81 (0, 0))) := hk.keeps HB0.out hne (by decide)
  have HL1 : Hid ((bs ++ txtL x0).length ≤ 701100) := by
    have g1 := HL0.out
    have g2 := txtL_len h0
    show List.length (bs ++ txtL x0) ≤ _
    rw [List.length_append]
    omega
  clear hw hk y0 z0
  have y0 : W1.cell? ⟨wb, 0, none⟩ = some (.pointer (some ⟨b, 0, none⟩)) := cellsAt HB1.out 0
  have z0 : W1.cell? ⟨w.heap.size, 1, none⟩ = some (.int .i64 x1) := cellsAt HX1.out 1
  have z1 : W1.cell? ⟨w.heap.size, 2, none⟩ = some (.int .i64 x2) := cellsAt HX1.out 2
  have z2 : W1.cell? ⟨w.heap.size, 3, none⟩ = some (.int .i64 x3) := cellsAt HX1.out 3
  have z3 : W1.cell? ⟨w.heap.size, 4, none⟩ = some (.int .i64 x4) := cellsAt HX1.out 4
  have z4 : W1.cell? ⟨w.heap.size, 5, none⟩ = some (.int .i64 x5) := cellsAt HX1.out 5
  go_wp2_with fail
  refine (wnums_at B b [x1, x2, x3, x4, x5] (bs ++ txtL x0) W1 HW1.out (by have := HL1.out; simp only [List.length_cons, List.length_nil]; omega) (Nat.le_trans hBw HK1.out.size) (HT.out.below HK1.out.bel) (fun n hn => by simp only [List.mem_cons, List.not_mem_nil, or_false] at hn; rcases hn with rfl | rfl | rfl | rfl | rfl <;> assumption)).mono ?_
  rintro e W2 ⟨rfl, hw, hk⟩
  have HW2 : Hid (IsW B b (bs ++ txtL x0 ++ [x1, x2, x3, x4, x5].flatMap numL) W2) := hw
  have HK2 : Hid (Kp B b w W2) := HK1.out.trans hk
  have HX2 : Hid (W2.heap[w.heap.size]? = some (.cells #[.string x0, .int .i64 x1, .int .i64 x2, .int .i64 x3, .int .i64 x4, .int .i64 x5] 66 (0, 0))) := hk.keeps HX1.out (by omega) (by decide)
  have HB2 : Hid (W2.heap[wb]? = some (.cells #[.pointer (some ⟨b, 0, none⟩)] 81 (0, 0))) := hk.keeps HB1.out hne (by decide)
  have HL2 : Hid ((bs ++ txtL x0 ++ [x1, x2, x3, x4, x5].flatMap numL).length ≤ 702200) := by
    have g1 := HL1.out
    have g2 := nums_len [x1, x2, x3, x4, x5] (fun n hn => by simp only [List.mem_cons, List.not_mem_nil, or_false] at hn; rcases hn with rfl | rfl | rfl | rfl | rfl <;> assumption)
    show List.length (bs ++ txtL x0 ++ [x1, x2, x3, x4, x5].flatMap numL) ≤ _
    rw [List.length_append]
    simp only [List.length_cons, List.length_nil] at g2
    omega
  clear hw hk y0 z0 z1 z2 z3 z4
  have HWE : Hid (IsW B b (bs ++ EL) W2) := by
    have h := HW2.out
    rw [HEL.out]
    simp only [List.append_assoc] at h ⊢
    exact h
  go_wp2_with fail
  simp [bodyPost, results, Tryz.results54]
  exact ⟨HWE.out, HK2.out⟩

end Go.Proofs.YtdfkpehggecbaaaGreatDoor

