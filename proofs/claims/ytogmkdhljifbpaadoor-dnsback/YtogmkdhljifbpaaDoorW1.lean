/- LV, F1, FB, FC, FD, FE -/
import Derived.Test.YtogmkdhljifbpaaDoorProg
import Derived.WalkKit
import Derived.WalkSpells
import Derived.WalkLawsBesides
import Derived.Deep.QuietTactic
import Derived.BigQuiet
import Derived.Lib.Bytealg
import Derived.Shelf.RegionOpenPlain
import Derived.Lib.AppendZerosOnto
import Derived.Lib.Overlaps
import Derived.Laws.CopyRow
import Derived.Laws.Externs
import Derived.Laws.NewBlocks
import Derived.Deep.RegionWith
import Derived.Defers
import Derived.Recover
import Derived.Laws.Pointers
import Derived.Deep.RegionHeld3
import Derived.StillTactics
import Derived.Lib.ConvBytes
import Derived.Laws.IdiomStrings
/- Leaves: labels, numbers within bounds, texts and their order; what the builtin copy does. -/
namespace Go.Proofs.YtogmkdhljifbpaaDoor
open Go.RowKit

def within (n a b : Int) : Bool := decide (a ≤ n) && decide (n ≤ b)

def lbB (n : Int) : Bool := (decide (97 ≤ n) && decide (n ≤ 122)) || (decide (48 ≤ n) && decide (n ≤ 57)) || decide (n = 45) || decide (n = 95)

/-- A LABEL of chapter 1. -/
def labB (s : ByteArray) : Bool := decide (1 ≤ s.size) && decide (s.size ≤ 30) && s.data.toList.all (fun c => lbB c.toNat)

theorem ret_bool {a b : Bool} (h : a = b) : Ending.returned (.bool a) = .returned (.bool b) := by rw [h]
theorem ret_int {k : IntKind} {a b : Int} (h : a = b) : Ending.returned (.int k a) = .returned (.int k b) := by rw [h]
theorem take_snoc (s : ByteArray) (k : Nat) (h : k < s.size) : s.data.toList.take (k + 1) = s.data.toList.take k ++ [s[k]] := by
  rw [List.take_succ_eq_append_getElem (by simpa using h)]; rfl
theorem take_all (s : ByteArray) (k : Nat) (h : s.size ≤ k) : s.data.toList.take k = s.data.toList :=
  List.take_of_length_le (by simpa using h)
theorem labs_step (s : ByteArray) (k : Nat) (h : k < s.size) (hk : (s.data.toList.take k).all (fun c => lbB c.toNat) = true) (hb : lbB (s[k].toNat : Int) = true) :
    (s.data.toList.take (k + 1)).all (fun c => lbB c.toNat) = true := by
  rw [take_snoc s k h, List.all_append, hk]; simp [hb]
theorem labs_not (s : ByteArray) (k : Nat) (h : k < s.size) (hb : lbB (s[k].toNat : Int) = false) : labB s = false := by
  have : s.data.toList.all (fun c => lbB c.toNat) = false := by
    rw [List.all_eq_false]
    refine ⟨s[k], ?_, by simp [hb]⟩
    exact List.getElem_mem (l := s.data.toList) (n := k) (by simpa using h)
  simp [labB, this]

set_option maxHeartbeats 400000 in
theorem within_any (n a b : Int) (w : World) :
    Calls Tryd.prog 41 #[.int .i64 n, .int .i64 a, .int .i64 b] w fun e w' => e = .returned (.bool (within n a b)) ∧ w' = w := by
  go_enter Tryd.func41, Tryd.ntmps41
  go_wp2
  all_goals
    go_ret
    exact ⟨ret_bool (by unfold within; rw [Bool.eq_iff_iff]; simp; try omega), rfl⟩

set_option maxHeartbeats 400000 in
theorem between_any (n a b : Int) (w : World) :
    Calls Tryd.prog 32 #[.int .i64 n, .int .i64 a, .int .i64 b] w fun e w' => e = .returned (.bool (within n a b)) ∧ w' = w := by
  go_enter Tryd.func32, Tryd.ntmps32
  go_wp2
  all_goals
    go_ret
    exact ⟨ret_bool (by unfold within; rw [Bool.eq_iff_iff]; simp; try omega), rfl⟩

set_option maxHeartbeats 400000 in
theorem address_any (n : Int) (w : World) :
    Calls Tryd.prog 65 #[.int .i64 n] w fun e w' => e = .returned (.bool (within n 0 4294967295)) ∧ w' = w := by
  go_enter Tryd.func65, Tryd.ntmps65
  go_wp2_with (go_at_call 41; refine (within_any _ _ _ _).mono ?_; rintro e w' ⟨rfl, rfl⟩)
  go_ret
  exact ⟨rfl, rfl⟩

set_option maxHeartbeats 400000 in
theorem isAddress_any (n : Int) (w : World) :
    Calls Tryd.prog 55 #[.int .i64 n] w fun e w' => e = .returned (.bool (within n 0 4294967295)) ∧ w' = w := by
  go_enter Tryd.func55, Tryd.ntmps55
  go_wp2_with (go_at_call 32; refine (between_any _ _ _ _).mono ?_; rintro e w' ⟨rfl, rfl⟩)
  go_ret
  exact ⟨rfl, rfl⟩

set_option maxHeartbeats 800000 in
theorem labelByte_any (n : Int) (w : World) :
    Calls Tryd.prog 43 #[.int .u8 n] w fun e w' => e = .returned (.bool (lbB n)) ∧ w' = w := by
  go_enter Tryd.func43, Tryd.ntmps43
  go_wp2
  all_goals
    go_ret
    exact ⟨ret_bool (by unfold lbB; rw [Bool.eq_iff_iff]; simp; try omega), rfl⟩

set_option maxHeartbeats 800000 in
theorem label_any (s : ByteArray) (w : World) (hs : s.size ≤ maxLen) :
    Calls Tryd.prog 23 #[.string s] w fun e w' => e = .returned (.bool (labB s)) ∧ w' = w := by
  unfold maxLen at hs
  by_cases hz : within (s.size : Int) 1 30 = true
  · have hz' : 1 ≤ s.size ∧ s.size ≤ 30 := by simp [within] at hz; omega
    go_enter Tryd.func23, Tryd.ntmps23
    go_wp2_with (go_at_call 41; refine (within_any _ _ _ _).mono ?_; rintro e w' ⟨rfl, rfl⟩; rw [hz])
    go_loop [10] (fun i => ∃ k : Nat, k ≤ s.size ∧ i = .int .i64 k ∧ (s.data.toList.take k).all (fun c => lbB c.toNat) = true) (fun i => s.size - (intOf i).toNat)
    case atStart => exact ⟨0, Nat.zero_le _, rfl, rfl⟩
    case round =>
      obtain ⟨k, hk, rfl, hall⟩ := hrel
      have HA : Hid ((s.data.toList.take k).all (fun c => lbB c.toNat) = true) := hall
      clear hall
      by_cases hlt : k < s.size
      · by_cases hb : lbB (s[k].toNat : Int) = true
        · go_wp2_with (go_at_call 43; refine (labelByte_any _ _).mono ?_; rintro e w' ⟨rfl, rfl⟩; rw [hb])
          go_round
          case rel => exact ⟨k + 1, by omega, by go_num, labs_step s k hlt HA.out hb⟩
          case measure => simp [intOf]; omega
        · have hb' : lbB (s[k].toNat : Int) = false := by simpa using hb
          go_wp2_with (go_at_call 43; refine (labelByte_any _ _).mono ?_; rintro e w' ⟨rfl, rfl⟩; rw [hb'])
          go_ret
          exact ⟨ret_bool (labs_not s k hlt hb').symm, rfl⟩
      · go_wp2
        go_ret
        have h2 := HA.out
        rw [take_all s k (by omega)] at h2
        exact ⟨ret_bool (by simp [labB, h2, hz'.1, hz'.2]), rfl⟩
  · have hz' : within (s.size : Int) 1 30 = false := by simpa using hz
    go_enter Tryd.func23, Tryd.ntmps23
    go_wp2_with (go_at_call 41; refine (within_any _ _ _ _).mono ?_; rintro e w' ⟨rfl, rfl⟩; rw [hz'])
    go_ret
    refine ⟨ret_bool ?_, rfl⟩
    symm
    simp only [within, Bool.and_eq_false_iff, decide_eq_false_iff_not] at hz'
    simp only [labB, Bool.and_eq_false_iff, decide_eq_false_iff_not]
    rcases hz' with h | h
    · exact .inl (.inl (by omega))
    · exact .inl (.inr (by omega))

theorem lbB_iff (n : Int) : lbB n = true ↔ (97 ≤ n ∧ n ≤ 122) ∨ (48 ≤ n ∧ n ≤ 57) ∨ n = 45 ∨ n = 95 := by
  unfold lbB; simp [or_assoc]
theorem lbB_not (n : Int) : lbB n = false ↔ ¬ ((97 ≤ n ∧ n ≤ 122) ∨ (48 ≤ n ∧ n ≤ 57) ∨ n = 45 ∨ n = 95) := by
  rw [← lbB_iff]; simp

set_option maxHeartbeats 1600000 in
theorem isLabel_any (s : ByteArray) (w : World) (hs : s.size ≤ maxLen) :
    Calls Tryd.prog 27 #[.string s] w fun e w' => e = .returned (.bool (labB s)) ∧ w' = w := by
  unfold maxLen at hs
  go_enter Tryd.func27, Tryd.ntmps27
  go_wp2
  go_loop [3] (fun i => ∃ k : Nat, k ≤ s.size ∧ i = .int .i64 k ∧ (s.data.toList.take k).all (fun c => lbB c.toNat) = true) (fun i => s.size - (intOf i).toNat)
  case atStart => exact ⟨0, Nat.zero_le _, rfl, rfl⟩
  case round =>
    obtain ⟨k, hk, rfl, hall⟩ := hrel
    have HA : Hid ((s.data.toList.take k).all (fun c => lbB c.toNat) = true) := hall
    clear hall
    by_cases hlt : k < s.size
    · have hstep := labs_step s k hlt HA.out
      have hnot := labs_not s k hlt
      have H1 : Hid (lbB (s[k].toNat : Int) = true → (s.data.toList.take (k + 1)).all (fun c => lbB c.toNat) = true) := hstep
      have H2 : Hid (lbB (s[k].toNat : Int) = false → labB s = false) := hnot
      clear hstep hnot
      go_wp2
      all_goals first
        | (go_ret
           exact ⟨ret_bool (H2.out ((lbB_not _).2 (by simp at *; omega))).symm, rfl⟩)
        | (refine ⟨⟨k + 1, by omega, by go_num, H1.out ((lbB_iff _).2 ?_)⟩, by simp [intOf]; omega⟩
           simp at *
           omega)
    · have h2 := HA.out
      rw [take_all s k (by omega)] at h2
      have H3 : Hid (s.data.toList.all (fun c => lbB c.toNat) = true) := h2
      clear h2
      go_wp2
      all_goals
        go_ret
        refine ⟨ret_bool ?_, rfl⟩
        unfold labB
        rw [H3.out, Bool.eq_iff_iff]
        simp
        try omega

theorem bcell {W w1 : World} (hb : Below W.heap.size W w1) : (∀ b o, b < W.heap.size → w1.cell? ⟨b, o, none⟩ = W.cell? ⟨b, o, none⟩) ∧ (∀ b o, b < W.heap.size → w1.frozen? ⟨b, o, none⟩ = W.frozen? ⟨b, o, none⟩) :=
  ⟨fun b o h => hb.cell (p := ⟨b, o, none⟩) h, fun b o h => hb.frozen (p := ⟨b, o, none⟩) h⟩

def less (a b : ByteArray) : Bool := Op.bytesLess a.toList b.toList

theorem bl_irrefl : ∀ a : List UInt8, Op.bytesLess a a = false
  | [] => rfl
  | x :: r => by simp [Op.bytesLess, bl_irrefl r]

theorem bl_total : ∀ a b : List UInt8, (!(Op.bytesLess a b)) = (Op.bytesLess b a || b == a)
  | [], [] => rfl
  | [], _ :: _ => rfl
  | _ :: _, [] => rfl
  | x :: r, y :: t => by
    have := bl_total r t
    by_cases h1 : x < y
    · have h2 : ¬ y < x := by rw [UInt8.lt_iff_toNat_lt] at *; omega
      have h3 : ¬ y = x := by rintro rfl; rw [UInt8.lt_iff_toNat_lt] at *; omega
      simp [Op.bytesLess, h1, h2, h3]
    · by_cases h2 : y < x
      · have h3 : ¬ y = x := by rintro rfl; rw [UInt8.lt_iff_toNat_lt] at *; omega
        have h4 : ¬ x = y := fun h => h3 h.symm
        simp [Op.bytesLess, h1, h2, h4]
      · have h3 : y = x := by
          apply UInt8.toNat_inj.1
          rw [UInt8.lt_iff_toNat_lt] at *; omega
        subst h3
        simp [Op.bytesLess]
        simpa using this

def cmpI (a b : ByteArray) : Int := Lib.compareBytes a.data.toList b.data.toList

theorem cb_lt : ∀ a b : List UInt8, Lib.compareBytes a b < 0 ↔ Op.bytesLess a b = true
  | [], [] => by simp [Lib.compareBytes, Op.bytesLess]
  | [], _ :: _ => by simp [Lib.compareBytes, Op.bytesLess]
  | _ :: _, [] => by simp [Lib.compareBytes, Op.bytesLess]
  | x :: r, y :: t => by
    have ih := cb_lt r t
    by_cases h1 : x < y
    · simp [Lib.compareBytes, Op.bytesLess, h1]
    · by_cases h2 : y < x
      · have h3 : ¬ x = y := by rintro rfl; exact h1 h2
        simp [Lib.compareBytes, Op.bytesLess, h1, h2, h3]
      · have h3 : x = y := by
          apply UInt8.toNat_inj.1
          rw [UInt8.lt_iff_toNat_lt] at *; omega
        subst h3
        simpa [Lib.compareBytes, Op.bytesLess] using ih

theorem cb_eq : ∀ a b : List UInt8, Lib.compareBytes a b = 0 ↔ a = b
  | [], [] => by simp [Lib.compareBytes]
  | [], _ :: _ => by simp [Lib.compareBytes]
  | _ :: _, [] => by simp [Lib.compareBytes]
  | x :: r, y :: t => by
    have ih := cb_eq r t
    by_cases h1 : x < y
    · have h3 : ¬ x = y := by rintro rfl; rw [UInt8.lt_iff_toNat_lt] at *; omega
      simp [Lib.compareBytes, h1, h3]
    · by_cases h2 : y < x
      · have h3 : ¬ x = y := by rintro rfl; exact h1 h2
        simp [Lib.compareBytes, h1, h2, h3]
      · have h3 : x = y := by
          apply UInt8.toNat_inj.1
          rw [UInt8.lt_iff_toNat_lt] at *; omega
        subst h3
        simpa [Lib.compareBytes] using ih

theorem bl_trans : ∀ a b c : List UInt8, Op.bytesLess a b = true → Op.bytesLess b c = true → Op.bytesLess a c = true
  | [], [], _, h, _ => by simp [Op.bytesLess] at h
  | [], _ :: _, [], _, h => by simp [Op.bytesLess] at h
  | [], _ :: _, _ :: _, _, _ => by simp [Op.bytesLess]
  | _ :: _, [], _, h, _ => by simp [Op.bytesLess] at h
  | _ :: _, _ :: _, [], _, h => by simp [Op.bytesLess] at h
  | x :: r, y :: t, z :: u, h1, h2 => by
    have ih := bl_trans r t u
    simp only [Op.bytesLess, Bool.or_eq_true, Bool.and_eq_true, decide_eq_true_eq, beq_iff_eq] at h1 h2 ⊢
    rcases h1 with h1 | ⟨rfl, h1⟩
    · rcases h2 with h2 | ⟨rfl, h2⟩
      · left; rw [UInt8.lt_iff_toNat_lt] at *; omega
      · left; exact h1
    · rcases h2 with h2 | ⟨rfl, h2⟩
      · left; exact h2
      · right; exact ⟨rfl, ih h1 h2⟩

theorem ba_ext {a b : ByteArray} (h : a.data.toList = b.data.toList) : a = b := by
  obtain ⟨⟨la⟩⟩ := a; obtain ⟨⟨lb⟩⟩ := b; simp at h; subst h; rfl

theorem cmpI_lt (a b : ByteArray) : cmpI a b < 0 ↔ less a b = true := by
  unfold cmpI less; rw [Lib.toList_data, Lib.toList_data]; exact cb_lt _ _
theorem cmpI_eq (a b : ByteArray) : cmpI a b = 0 ↔ a = b := by
  unfold cmpI; rw [cb_eq]; exact ⟨ba_ext, fun h => by rw [h]⟩
theorem less_trans {a b c : ByteArray} (h1 : less a b = true) (h2 : less b c = true) : less a c = true := bl_trans _ _ _ h1 h2
theorem less_irrefl (a : ByteArray) : less a a = false := bl_irrefl _
theorem less_total (a b : ByteArray) : less a b = true ∨ a = b ∨ less b a = true := by
  have h := bl_total a.toList b.toList
  unfold less
  cases h1 : Op.bytesLess a.toList b.toList
  · rw [h1] at h
    cases h2 : Op.bytesLess b.toList a.toList
    · rw [h2] at h
      right; left
      have : b.toList = a.toList := by simpa using h.symm
      rw [Lib.toList_data, Lib.toList_data] at this
      exact (ba_ext this).symm
    · right; right; rfl
  · left; rfl
theorem less_asymm {a b : ByteArray} (h1 : less a b = true) : less b a = false := by
  cases h : less b a
  · rfl
  · have := less_trans h1 h; rw [less_irrefl] at this; cases this
theorem cmpI_gt (a b : ByteArray) : 0 < cmpI a b ↔ less b a = true := by
  have h1 := cmpI_lt a b
  have h2 := cmpI_eq a b
  rcases less_total a b with h | rfl | h
  · have := h1.2 h
    rw [less_asymm h]
    simp; omega
  · rw [less_irrefl]; have := h2.2 rfl; simp; omega
  · rw [h]
    have h3 : ¬ cmpI a b < 0 := fun hh => by rw [h1, less_asymm h] at hh; cases hh
    have h4 : ¬ cmpI a b = 0 := fun hh => by rw [h2] at hh; subst hh; rw [less_irrefl] at h; cases h
    simp; omega

theorem run_copy_k {P : Program} (w : World) (dT sT ty elem : TypeId) (g o dLen dCap : Nat) (a : Addr) (sLen sCap k : Nat) (cur : Array Value) (t : TypeId) (cs : List Value)
    (hu : P.underlying dT = some (.slice elem)) (hs : (P.info? elem).map (·.size) = some k)
    (hg : w.heap[g]? = some (.cells cur t (0, 0))) (hn : cs.length = Nat.min sLen dLen * k)
    (hsrc : ∀ j v, cs[j]? = some v → w.cell? (a.add j) = some v) (hfit : o + cs.length ≤ cur.size) (h1 : ∀ v ∈ cs, v.oneCell' = true) :
    (Builtin.copy_ #[dT, sT] ty #[.slice (some ⟨g, o, none⟩) dLen dCap, .slice (some a) sLen sCap]).run P w =
      .ok (goInt (Nat.min sLen dLen)) (w.setRow g (cur.toList.take o ++ cs ++ cur.toList.drop (o + cs.length)).toArray) := by
  have hl := run_loadCells_list (P := P) w a cs hsrc
  have hst := run_storeCells_at P g o t cs 0 cur w hg (by simpa using hfit) h1
  cases hq : P.info? elem with
  | none => simp [hq] at hs
  | some i =>
    have hi : i.size = k := by simpa [hq] using hs
    simp [Builtin.copy_, run_underlying hu, Builtin.lenOf, Builtin.firstCells, sizeOf, typeInfo, hq, hi, ← hn, hl, hst]

theorem wpList_copy_runM {P : Program} (w : World) {ops : Array Oper} {rest : List Oper} {o : Oper} {a : Act} {Q : Exit → Act → World → Prop} (hgd : o.guard = none) (d s : Operand) (t t' : TypeId)
    (ho : o.op = .call { callee := .builtin .copy, args := #[d, s], argTypes := #[t, t'] }) (v u : Value) (hd : a.eval d = v) (hs : a.eval s = u) {v' : Value} {w' : World}
    (hr : (Builtin.copy_ #[t, t'] o.type #[v, u]).run P w = .ok v' w') (h : wpList P ops Q rest (a.put o.dst v') w') : wpList P ops Q (o :: rest) a w := by
  refine wpList_plain hgd fun _ hK => ?_
  unfold Oper.wp execOp
  simp only [ho, resolve, invoke, builtin, Sem.run_bind, Sem.run_pure, Result.andThen_ok, List.map_toArray, List.map_cons, List.map_nil, hd, hs, hr]
  exact hK _ _ h

theorem step_copy_runM {P : Program} {ops : Array Oper} {o : Oper} {a : Act} {w : World} {K : Act → World → Prop} {Q : Exit → Act → World → Prop} {E : Prop}
    (hg : o.guard = none) (d x : Operand) (dT sT : TypeId) (hop : o.op = Op.call { callee := Callee.builtin Builtin.copy, args := #[d, x], argTypes := #[dT, sT] })
    (v u : Value) (hd : a.eval d = v) (hx : a.eval x = u) {v' : Value} {w' : World} (hr : (Builtin.copy_ #[dT, sT] o.type #[v, u]).run P w = .ok v' w') (hK : K (a.put o.dst v') w') :
    if Region.wanted o (yielded ops a.tmps) = true then Oper.wp P o a w K Q else E := by
  have hw : Region.wanted o (yielded ops a.tmps) = true := by simp [Region.wanted, hg]
  rw [if_pos hw]
  unfold Oper.wp
  simp [execOp, hop, resolve, invoke, builtin, hd, hx, hr, Result.andThen]
  exact hK

theorem cellsAt {w : World} {g : Nat} {cur : Array Value} {t : TypeId} {fr : Nat × Nat} (hg : w.heap[g]? = some (.cells cur t fr)) (o : Nat) : w.cell? ⟨g, o, none⟩ = cur[o]? := by
  simp [World.cell?, hg]

theorem beq_name {a b : ByteArray} (h : a ≠ b) : (a.toList == b.toList) = false ∧ ¬ a.toList = b.toList := by
  have h2 : ¬ a.toList = b.toList := fun e => h (ba_ext (by rw [Lib.toList_data, Lib.toList_data] at e; exact e))
  exact ⟨by simpa using h2, h2⟩

theorem cell_topL {W : World} {cs : Array Value} {t : TypeId} {g k : Nat} (hg : g = W.heap.size) : (W.alloc (.cells cs t)).cell? ⟨g, k, none⟩ = cs[k]? := by subst hg; simp
theorem grown_any {w w' : World} (h : w.grownBy w' none) (row : Option Nat) : w.grownBy w' row := ⟨h.os, h.tape, h.output, h.size, fun k hk _ => h.block k hk (by simp)⟩

end Go.Proofs.YtogmkdhljifbpaaDoor

/- How work gives up: Need, Attempt. -/
namespace Go.Proofs.YtogmkdhljifbpaaDoor
open Go.RowKit

set_option maxHeartbeats 400000 in
theorem need_ok (e : Int) (w : World) :
    Calls Tryd.prog 49 #[.bool true, .int .i64 e] w fun x w' => x = .returned (.tuple #[]) ∧ w' = w := by
  go_enter Tryd.func49, Tryd.ntmps49
  go_wp2_with fail
  simp [bodyPost, results, Tryd.results49]

set_option maxHeartbeats 400000 in
theorem need_no (e : Int) (w : World) :
    Calls Tryd.prog 49 #[.bool false, .int .i64 e] w fun x w' => x = .panicked [{ v := .iface 71 (.agg #[.int .i64 e]), recovered := false }] ∧ w' = w := by
  go_enter Tryd.func49, Tryd.ntmps49
  go_wp2_with fail
  exact ⟨rfl, rfl, rfl⟩

set_option maxHeartbeats 800000 in
set_option maxRecDepth 100000 in
theorem catch_fault (g : Nat) (x e : Int) (older : List PanicEntry) (w : World) (hg : g < w.heap.size) (hc : w.cell? ⟨g, 0, none⟩ = some (.int .i64 x)) (hz : w.frozen? ⟨g, 0, none⟩ = false) :
    CallsD Tryd.prog 48 #[.pointer (some ⟨g, 0, none⟩)] (.panicking ({ v := .iface 71 (.agg #[.int .i64 e]), recovered := false } :: older)) w fun r u' w' =>
      r = .returned (.tuple #[]) ∧ u' = .panicking ({ v := .iface 71 (.agg #[.int .i64 e]), recovered := true } :: older) ∧ w'.cell? ⟨g, 0, none⟩ = some (.int .i64 e) ∧ Below g w w' := by
  have e0 : g ≠ w.heap.size := by omega
  have hta : ∀ W : World, Sem.run Tryd.prog (Instr.typeAssert (.iface 71 (.agg #[.int .i64 e])) 20 71 true) W = .ok (.tuple #[.agg #[.int .i64 e], .bool true]) W := fun _ => by kernel_rfl
  have hs1 : (w.setCell ⟨g, 0, none⟩ (.int .i64 1)).cell? ⟨g, 0, none⟩ = some (.int .i64 1) := by simp [go_sem, hc]
  have hs2 : ((w.setCell ⟨g, 0, none⟩ (.int .i64 1)).setCell ⟨g, 0, none⟩ (.int .i64 e)).cell? ⟨g, 0, none⟩ = some (.int .i64 e) := by simp [go_sem, hc]
  have HE : Hid (∀ o, (((w.setCell ⟨g, 0, none⟩ (.int .i64 1)).setCell ⟨g, 0, none⟩ (.int .i64 e)).alloc o).cell? ⟨g, 0, none⟩ = some (.int .i64 e)) := fun o => by
    rw [World.cell?_alloc_past (w := (w.setCell ⟨g, 0, none⟩ (.int .i64 1)).setCell ⟨g, 0, none⟩ (.int .i64 e)) o g 0 (by simpa using hg)]
    exact hs2
  have HB : Hid (∀ o, Below g w (((w.setCell ⟨g, 0, none⟩ (.int .i64 1)).setCell ⟨g, 0, none⟩ (.int .i64 e)).alloc o)) := fun o =>
    (((Below.refl g w).setCell (p := ⟨g, 0, none⟩) (Nat.le_refl _) _).setCell (p := ⟨g, 0, none⟩) (Nat.le_refl _) _).alloc (by simp; omega) _
  clear hs1 hs2
  refine callsD_of_wpS Tryd.func48 rfl fun c₀ cs hu => ?_
  apply wpS_seq
  apply wpS_region
  simp [wpOpsS, go_sem, recoverD, hu, Tryd.ntmps48, Exit.thenS, Array.replicate]
  refine wpS_of_wp ?_
  go_wp2_with fail
  have h1 := HE.out (.cells #[.int .i64 e] 71)
  have h2 := HB.out (.cells #[.int .i64 e] 71)
  cases c₀
  simp [bodyPostS, results, Tryd.results48]
  exact ⟨h1, h2⟩

theorem catch_idle (p : Addr) (w : World) :
    CallsD Tryd.prog 48 #[.pointer (some p)] .returning w fun e u' w' => e = .returned (.tuple #[]) ∧ u' = .returning ∧ w' = w := by
  refine callsD_of_wpS Tryd.func48 rfl fun c₀ cs hu => ?_
  apply wpS_seq
  apply wpS_region
  simp [wpOpsS, go_sem, recoverD, hu, Tryd.ntmps48, Exit.thenS, Array.replicate]
  refine wpS_of_wp ?_
  go_wp2_with fail
  cases c₀
  simp_all [bodyPostS, results, Tryd.results48]

set_option maxHeartbeats 800000 in
set_option maxRecDepth 100000 in
/-- The work is done: all is well. -/
theorem attempt_ok (f : Nat) (caps : Array Value) (w : World) (R : World → Prop) (ef : ∀ args W, (callFunc f args).run Tryd.prog W = .ok (.enter f args) W)
    (hw : Calls Tryd.prog f caps (w.alloc (.cells #[.int .i64 0] 23)) fun r w' => r = .returned (.tuple #[]) ∧ R w' ∧ w'.cell? ⟨w.heap.size, 0, none⟩ = some (.int .i64 0) ∧ w'.frozen? ⟨w.heap.size, 0, none⟩ = false ∧ w.heap.size < w'.heap.size) :
    Calls Tryd.prog 28 #[.func (.func f) #[] caps] w fun r w' => r = .returned (.int .i64 0) ∧ ∃ w1, R w1 ∧ w.heap.size < w1.heap.size ∧ w' = w1.setCell ⟨w.heap.size, 0, none⟩ (.int .i64 0) := by
  have hmf : ∀ (fn : Fn) (first cap : Array Value) (w : World), (Instr.makeFunc fn first cap).run Tryd.prog w = .ok (.func fn first cap) w := fun _ _ _ _ => rfl
  have HW : Hid (Calls Tryd.prog f caps (w.alloc (.cells #[.int .i64 0] 23)) fun r w' => r = .returned (.tuple #[]) ∧ Hid (R w') ∧ w'.cell? ⟨w.heap.size, 0, none⟩ = some (.int .i64 0) ∧ w'.frozen? ⟨w.heap.size, 0, none⟩ = false ∧ w.heap.size < w'.heap.size) := hw
  clear hw
  go_enter_defers Tryd.func28, Tryd.ntmps28
  go_wp2_with fail
  refine HW.out.mono ?_
  rintro e w1 ⟨rfl, HR, h1, h2, h3⟩
  go_wp2_with fail
  refine leaves_cons (f := 48) (args := #[.pointer (some ⟨w.heap.size, 0, none⟩)]) (by simp) (by simp [go_sem]) ?_
  refine (catch_idle ⟨w.heap.size, 0, none⟩ _).mono ?_
  rintro e u' w'' ⟨rfl, rfl, rfl⟩
  simp [Leaves, settle, results, Tryd.results28, go_sem, h1]
  exact ⟨w1, HR.out, h3, rfl⟩

set_option maxHeartbeats 800000 in
set_option maxRecDepth 100000 in
/-- The work gives up: why. -/
theorem attempt_no (f : Nat) (caps : Array Value) (e : Int) (w : World) (R : World → Prop) (ef : ∀ args W, (callFunc f args).run Tryd.prog W = .ok (.enter f args) W)
    (hw : Calls Tryd.prog f caps (w.alloc (.cells #[.int .i64 0] 23)) fun r w' => r = .panicked [{ v := .iface 71 (.agg #[.int .i64 e]), recovered := false }] ∧ R w' ∧ w'.cell? ⟨w.heap.size, 0, none⟩ = some (.int .i64 0) ∧ w'.frozen? ⟨w.heap.size, 0, none⟩ = false ∧ w.heap.size < w'.heap.size) :
    Calls Tryd.prog 28 #[.func (.func f) #[] caps] w fun r w' => r = .returned (.int .i64 e) ∧ ∃ w1, R w1 ∧ w.heap.size < w1.heap.size ∧ Below w.heap.size w1 w' := by
  have hmf : ∀ (fn : Fn) (first cap : Array Value) (w : World), (Instr.makeFunc fn first cap).run Tryd.prog w = .ok (.func fn first cap) w := fun _ _ _ _ => rfl
  have HW : Hid (Calls Tryd.prog f caps (w.alloc (.cells #[.int .i64 0] 23)) fun r w' => r = .panicked [{ v := .iface 71 (.agg #[.int .i64 e]), recovered := false }] ∧ Hid (R w') ∧ w'.cell? ⟨w.heap.size, 0, none⟩ = some (.int .i64 0) ∧ w'.frozen? ⟨w.heap.size, 0, none⟩ = false ∧ w.heap.size < w'.heap.size) := hw
  clear hw
  go_enter_defers Tryd.func28, Tryd.ntmps28
  go_wp2_with fail
  refine HW.out.mono ?_
  rintro r w1 ⟨rfl, HR, h1, h2, h3⟩
  refine leaves_cons (f := 48) (args := #[.pointer (some ⟨w.heap.size, 0, none⟩)]) (by simp) (by simp [go_sem]) ?_
  refine (catch_fault w.heap.size 0 e [] w1 h3 h1 h2).mono ?_
  rintro r u' w'' ⟨rfl, rfl, h4, h5⟩
  simp [Leaves, settle, results, Tryd.results28, go_sem, h4]
  exact ⟨w1, HR.out, h3, h5⟩

end Go.Proofs.YtogmkdhljifbpaaDoor

/- The reader: take, peek. -/
namespace Go.Proofs.YtogmkdhljifbpaaDoor
open Go.RowKit

set_option maxHeartbeats 1600000 in
set_option maxRecDepth 100000 in
theorem take_ok (g a n : Nat) (t : ByteArray) (w : World) (c0 : w.cell? ⟨g, 0, none⟩ = some (.string t)) (c1 : w.cell? ⟨g, 1, none⟩ = some (.int .i64 a)) (hz : w.frozen? ⟨g, 1, none⟩ = false) (hs : t.size ≤ 1000) (han : a + n ≤ t.size) :
    Calls Tryd.prog 69 #[.pointer (some ⟨g, 0, none⟩), .int .i64 n] w fun e w' => e = .returned (.string (t.extract a (a + n))) ∧ ∃ m, w' = (w.setCell ⟨g, 1, none⟩ (.int .i64 ((a : Int) + (n : Int)))).drew.drewN m := by
  have h1 : IntKind.i64.wrap ((t.size : Int) - (a : Int)) = (t.size : Int) - (a : Int) := by rw [IntKind.wrap_i64]; omega
  have h2 : decide ((n : Int) ≤ (t.size : Int) - (a : Int)) = true := by simp; omega
  have h3 : IntKind.i64.wrap ((a : Int) + (n : Int)) = ((a + n : Nat) : Int) := by rw [IntKind.wrap_i64]; omega
  have h4 : IntKind.i64.wrap (((a + n : Nat) : Int) - (n : Int)) = (a : Int) := by rw [IntKind.wrap_i64]; omega
  go_enter Tryd.func69, Tryd.ntmps69
  go_wp2_with fail
  go_region_held3 (fun w' => w'.cell? ⟨g, 0, none⟩ = some (.string t) ∧ w'.cell? ⟨g, 1, none⟩ = some (.int .i64 a)) (go_keep) (first | (go_at_call 49; refine (need_ok _ _).mono ?_; rintro e w5 ⟨rfl, rfl⟩) | fail)
  go_wp2_with fail
  have hi0 : (0 : Int) ≤ (a : Int) := by omega
  have hi1 : (a : Int) ≤ ((a + n : Nat) : Int) := by omega
  have hi2 : ((a + n : Nat) : Int) ≤ (t.size : Int) := by omega
  have hi3 : ((a : Int)).toNat = a := by omega
  have hi4 : (((a + n : Nat) : Int)).toNat = a + n := by omega
  go_quiet (fail)
  go_wp2_with fail
  go_ret
  exact ⟨rfl, _, rfl⟩

end Go.Proofs.YtogmkdhljifbpaaDoor

/- The reader: peek, numbers. -/
namespace Go.Proofs.YtogmkdhljifbpaaDoor
open Go.RowKit

set_option maxHeartbeats 1600000 in
set_option maxRecDepth 100000 in
theorem peek_ok (g a : Nat) (t : ByteArray) (w : World) (c0 : w.cell? ⟨g, 0, none⟩ = some (.string t)) (c1 : w.cell? ⟨g, 1, none⟩ = some (.int .i64 a)) (ha : a < t.size) :
    Calls Tryd.prog 70 #[.pointer (some ⟨g, 0, none⟩)] w fun e w' => e = .returned (.int .u8 (t[a].toNat : Int)) ∧ ∃ m, w' = w.drew.drewN m := by
  have h2 : decide ((a : Int) < (t.size : Int)) = true := by simp; omega
  have hi0 : (0 : Int) ≤ (a : Int) := by omega
  have hi1 : (a : Int) < (t.size : Int) := by omega
  have hi3 : ((a : Int)).toNat = a := by omega
  go_enter Tryd.func70, Tryd.ntmps70
  go_wp2_with fail
  go_region_held3 (fun w' => w'.cell? ⟨g, 0, none⟩ = some (.string t) ∧ w'.cell? ⟨g, 1, none⟩ = some (.int .i64 a)) (go_keep) (first | (go_at_call 49; refine (need_ok _ _).mono ?_; rintro e w5 ⟨rfl, rfl⟩) | fail)
  go_wp2_with fail
  go_quiet (fail)
  go_wp2_with fail
  go_ret
  exact ⟨rfl, _, rfl⟩

end Go.Proofs.YtogmkdhljifbpaaDoor

/- The reader: numbers. -/
namespace Go.Proofs.YtogmkdhljifbpaaDoor
open Go.RowKit

/-- The number that k bytes from a on say, the high ones first. -/
def rnum (t : ByteArray) (a : Nat) : Nat → Nat
  | 0 => 0
  | k + 1 => rnum t a k * 256 + (t.data[a + k]?.getD 0).toNat

theorem rnum_lt (t : ByteArray) (a : Nat) : ∀ k, rnum t a k < 256 ^ k
  | 0 => by simp [rnum]
  | k + 1 => by
    have h := rnum_lt t a k
    have h2 := (t.data[a + k]?.getD 0).toNat_lt
    simp only [rnum, Nat.pow_succ]
    omega

theorem or_byte (x b : Nat) (hx : x < 4294967296) (hb : b < 256) : bits .or .i64 ((x : Int) * 256) (wrap64 (b : Int)) = ((x * 256 + b : Nat) : Int) := by
  have h1 : ((x : Int) * 256) = ((x * 256 : Nat) : Int) := by omega
  have h2 : wrap64 (b : Int) = (b : Int) := by unfold wrap64; omega
  have h3 : x * 256 ||| b = x * 256 + b := by
    rw [show x * 256 = 2 ^ 8 * x by omega, ← Nat.two_pow_add_eq_or_of_lt (i := 8) hb]
  rw [h1, h2]
  show IntKind.i64.wrap (((BitVec.ofInt 64 ((x * 256 : Nat) : Int)) ||| (BitVec.ofInt 64 (b : Int))).toNat : Int) = _
  rw [BitVec.toNat_or, BitVec.ofInt_natCast, BitVec.ofInt_natCast, BitVec.toNat_ofNat, BitVec.toNat_ofNat, Nat.mod_eq_of_lt (by omega), Nat.mod_eq_of_lt (by omega), h3, IntKind.wrap_i64]
  omega

set_option maxRecDepth 100000 in
theorem run_bytesW (w : World) (s : ByteArray) : w.drew.alloc (.cells (bytesRow s (grownCap w s.size 0 5)) 5 ((bytesRow s (grownCap w s.size 0 5)).size, (bytesRow s (grownCap w s.size 0 5)).size + 1)) = Lib.bytesWorld w 5 s := by
  have h1 := Lib.run_convert_string_bytes (P := Tryd.prog) w 9 77 5 s (u := .string) Tryd.underlying9 Tryd.underlying77 Tryd.underlying5
  have h2 := run_bytes_of_string (P := Tryd.prog) w 9 77 5 s Tryd.underlying9 Tryd.underlying77 Tryd.underlying5
  rw [h1] at h2
  injection h2 with _ h
  exact h.symm

set_option maxHeartbeats 1600000 in
set_option maxRecDepth 100000 in
theorem rnumber_ok (g a n : Nat) (t : ByteArray) (w : World) (c0 : w.cell? ⟨g, 0, none⟩ = some (.string t)) (c1 : w.cell? ⟨g, 1, none⟩ = some (.int .i64 a)) (hz : w.frozen? ⟨g, 1, none⟩ = false) (hs : t.size ≤ 1000) (han : a + n ≤ t.size) (hn : n ≤ 4) :
    Calls Tryd.prog 56 #[.pointer (some ⟨g, 0, none⟩), .int .i64 n] w fun e w' => e = .returned (.int .i64 (rnum t a n)) ∧ (w.setCell ⟨g, 1, none⟩ (.int .i64 ((a : Int) + (n : Int)))).Extends w' := by
  have HT : Hid (Calls Tryd.prog 69 #[.pointer (some ⟨g, 0, none⟩), .int .i64 n] w fun e w' => e = .returned (.string (t.extract a (a + n))) ∧ ∃ m, w' = (w.setCell ⟨g, 1, none⟩ (.int .i64 ((a : Int) + (n : Int)))).drew.drewN m) := take_ok g a n t w c0 c1 hz hs han
  have hsz : (t.extract a (a + n)).size = n := by simp; omega
  have hcv := fun w s => Lib.run_convert_string_bytes (P := Tryd.prog) w 9 77 5 s (u := .string) Tryd.underlying9 Tryd.underlying77 Tryd.underlying5
  have hB := fun w j hj => Lib.bytesWorld_cell w 5 (t.extract a (a + n)) j hj
  go_enter Tryd.func56, Tryd.ntmps56
  go_wp2_with fail
  refine HT.out.mono ?_
  rintro e w1 ⟨rfl, m, rfl⟩
  go_wp2_with fail
  obtain ⟨W0, hW0⟩ : ∃ W0, W0 = (w.setCell ⟨g, 1, none⟩ (.int .i64 ((a : Int) + (n : Int)))).drewN (1 + m) := ⟨_, rfl⟩
  rw [← hW0]
  have hB' : ∀ j, j < n → (Lib.bytesWorld W0 5 (t.extract a (a + n))).cell? ⟨W0.heap.size, j, none⟩ = some (.int .u8 ((t.extract a (a + n)).data.toList.getD j 0).toNat) := fun j hj => hB W0 j (by omega)
  have hX : W0.Extends (Lib.bytesWorld W0 5 (t.extract a (a + n))) := by
    rw [← run_bytesW W0 (t.extract a (a + n))]
    exact (World.Extends.refl W0).drew.alloc _
  have hX0 : (w.setCell ⟨g, 1, none⟩ (.int .i64 ((a : Int) + (n : Int)))).Extends W0 := by
    subst hW0
    generalize 1 + m = q
    exact ⟨rfl, rfl, rfl, Nat.le_refl _, fun _ _ => rfl, fun _ _ => rfl, fun _ _ => rfl⟩
  have hXX := hX0.trans hX
  obtain ⟨W1, hW1⟩ : ∃ W1, W1 = Lib.bytesWorld W0 5 (t.extract a (a + n)) := ⟨_, rfl⟩
  have hsW : W0.heap.size = w.heap.size := by rw [hW0]; simp
  rw [hsW] at hB'
  rw [← hW1] at hB' hXX ⊢
  clear hB hcv hX hX0 hW1 hW0
  go_loop [5, 13] (fun vn vi => ∃ (k : Nat) (x : Nat), vn = .int .i64 x ∧ vi = .int .i64 k ∧ k ≤ n ∧ Hid (x = rnum t a k))
    (fun _ vi => n - (intOf vi).toNat)
  case atStart => exact ⟨0, 0, rfl, rfl, by omega, rfl⟩
  case round =>
    obtain ⟨k, x, rfl, rfl, hk, hx⟩ := hrel
    by_cases hkn : k < n
    · have hc : decide ((k : Int) < (n : Int)) = true := by simp; omega
      have hcell := hB' k hkn
      have hi0 : (0 : Int) ≤ (k : Int) := by omega
      have hi1 : (k : Int) < (n : Int) := by omega
      have hi2 : ((k : Int)).toNat = k := by omega
      have hxl : x < 4294967296 := by
        have h := rnum_lt t a k
        have h3 : (256 : Nat) ^ k ≤ 256 ^ 3 := Nat.pow_le_pow_right (by omega) (by omega)
        rw [← hx.out] at h
        omega
      have hor := or_byte x (t.data[a + k]?.getD 0).toNat hxl (UInt8.toNat_lt _)
      have hH : Hid (x * 256 + (t.data[a + k]?.getD 0).toNat = rnum t a (k + 1)) := by
        show _ = _
        rw [hx.out]
        rfl
      go_wp2_with fail
      refine ⟨⟨k + 1, _, by simp, by simp, by omega, hH⟩, by simp [intOf]; omega⟩
    · have hc : decide ((k : Int) < (n : Int)) = false := by simp; omega
      have hkn2 : k = n := by omega
      have hH : Hid (x = rnum t a n) := by rw [← hkn2]; exact hx
      go_wp2_with fail
      simp [bodyPost, results, Tryd.results56]
      exact ⟨by rw [hH.out], hXX⟩

end Go.Proofs.YtogmkdhljifbpaaDoor

/- The reader: what it holds (IsR), expect, counted. -/
namespace Go.Proofs.YtogmkdhljifbpaaDoor
open Go.RowKit

/-- AtW g lies a reader of t that is at a. -/
structure IsR (g : Nat) (t : ByteArray) (a : Nat) (w : World) : Prop where
  c0 : w.cell? ⟨g, 0, none⟩ = some (.string t)
  c1 : w.cell? ⟨g, 1, none⟩ = some (.int .i64 a)
  hz : w.frozen? ⟨g, 1, none⟩ = false
  hg : g < w.heap.size

theorem IsR.move {g a b : Nat} {t : ByteArray} {w w' : World} (h : IsR g t a w) (hx : (w.setCell ⟨g, 1, none⟩ (.int .i64 (b : Int))).Extends w') : IsR g t b w' where
  c0 := by
    refine hx.cell_of ?_
    have := h.c0
    exact (World.cell?_setCell_other _ _ _ _ (by simp)).trans this
  c1 := hx.cell_of (World.cell?_setCell_same _ _ _ h.c1)
  hz := by rw [hx.frozen _ (by simp; exact h.hg)]; simpa using h.hz
  hg := by have := hx.size; simp at this; have := h.hg; omega

set_option maxHeartbeats 1600000 in
set_option maxRecDepth 100000 in
theorem expect_ok (g a n : Nat) (t : ByteArray) (w : World) (h : IsR g t a w) (hs : t.size ≤ 1000) (han : a + n ≤ t.size) (hn : n ≤ 4) :
    Calls Tryd.prog 58 #[.pointer (some ⟨g, 0, none⟩), .int .i64 n, .int .i64 (rnum t a n)] w fun e w' => e = .returned (.tuple #[]) ∧ (w.setCell ⟨g, 1, none⟩ (.int .i64 ((a + n : Nat) : Int))).Extends w' := by
  have HT : Hid (Calls Tryd.prog 56 #[.pointer (some ⟨g, 0, none⟩), .int .i64 n] w fun e w' => e = .returned (.int .i64 (rnum t a n)) ∧ (w.setCell ⟨g, 1, none⟩ (.int .i64 ((a : Int) + (n : Int)))).Extends w') := rnumber_ok g a n t w h.c0 h.c1 h.hz hs han hn
  go_enter Tryd.func58, Tryd.ntmps58
  go_wp2_with fail
  refine HT.out.mono ?_
  rintro e w1 ⟨rfl, hx⟩
  have hX : Hid ((w.setCell ⟨g, 1, none⟩ (.int .i64 ((a + n : Nat) : Int))).Extends w1) := by
    rw [Int.natCast_add]
    exact hx
  clear hx
  go_wp2_with fail
  refine (need_ok _ _).mono ?_
  rintro e w5 ⟨rfl, rfl⟩
  go_wp2_with fail
  simp [bodyPost, results, Tryd.results58]
  simpa using hX.out

set_option maxHeartbeats 1600000 in
set_option maxRecDepth 100000 in
theorem counted_ok (g a : Nat) (t : ByteArray) (w : World) (h : IsR g t a w) (hs : t.size ≤ 1000) (han : a + 1 + rnum t a 1 ≤ t.size) :
    Calls Tryd.prog 73 #[.pointer (some ⟨g, 0, none⟩)] w fun e w' => e = .returned (.string (t.extract (a + 1) (a + 1 + rnum t a 1))) ∧ ∃ w1, (w.setCell ⟨g, 1, none⟩ (.int .i64 ((a + 1 : Nat) : Int))).Extends w1 ∧ (w1.setCell ⟨g, 1, none⟩ (.int .i64 ((a + 1 + rnum t a 1 : Nat) : Int))).Extends w' := by
  have HT : Hid (Calls Tryd.prog 56 #[.pointer (some ⟨g, 0, none⟩), .int .i64 1] w fun e w' => e = .returned (.int .i64 (rnum t a 1)) ∧ (w.setCell ⟨g, 1, none⟩ (.int .i64 ((a : Int) + ((1 : Nat) : Int)))).Extends w') := rnumber_ok g a 1 t w h.c0 h.c1 h.hz hs (by omega) (by omega)
  go_enter Tryd.func73, Tryd.ntmps73
  go_wp2_with fail
  refine HT.out.mono ?_
  rintro e w1 ⟨rfl, hx⟩
  have hX : Hid ((w.setCell ⟨g, 1, none⟩ (.int .i64 ((a + 1 : Nat) : Int))).Extends w1) := by
    rw [Int.natCast_add]
    exact hx
  clear hx
  have h1 := h.move hX.out
  have HT2 : Hid (Calls Tryd.prog 69 #[.pointer (some ⟨g, 0, none⟩), .int .i64 (rnum t a 1 : Nat)] w1 fun e w' => e = .returned (.string (t.extract (a + 1) (a + 1 + rnum t a 1))) ∧ ∃ m, w' = (w1.setCell ⟨g, 1, none⟩ (.int .i64 (((a + 1 : Nat) : Int) + ((rnum t a 1 : Nat) : Int)))).drew.drewN m) := take_ok g (a + 1) (rnum t a 1) t w1 h1.c0 h1.c1 h1.hz hs han
  go_wp2_with fail
  refine HT2.out.mono ?_
  rintro e w2 ⟨rfl, m, rfl⟩
  go_wp2_with fail
  simp [bodyPost, results, Tryd.results73]
  refine ⟨w1, by simpa using hX.out, ?_⟩
  exact ⟨rfl, rfl, rfl, Nat.le_refl _, fun _ _ => rfl, fun _ _ => rfl, fun _ _ => rfl⟩

end Go.Proofs.YtogmkdhljifbpaaDoor

