/- LV, RL, MK1, RK -/
import Derived.Test.YtdfkpehggecbaaaGreatDoorProg
import Derived.WalkKit
import Derived.WalkSpells
import Derived.WalkLawsBesides
import Derived.Deep.QuietTactic
import Derived.BigQuiet
import Derived.Lib.Bytealg
import Derived.Shelf.RegionOpenPlain
import Derived.Lib.AppendZerosOnto
import Derived.Lib.Overlaps
import Derived.Laws.CopyRow
import Derived.Laws.Externs
import Derived.Laws.NewBlocks
import Derived.Deep.RegionWith
/- Leaves: labels, numbers within bounds, texts and their order; what the builtin copy does. -/
namespace Go.Proofs.YtdfkpehggecbaaaGreatDoor
open Go.RowKit

def within (n a b : Int) : Bool := decide (a ≤ n) && decide (n ≤ b)

def lbB (n : Int) : Bool := (decide (97 ≤ n) && decide (n ≤ 122)) || (decide (48 ≤ n) && decide (n ≤ 57)) || decide (n = 45) || decide (n = 95)

/-- A LABEL of chapter 1. -/
def labB (s : ByteArray) : Bool := decide (1 ≤ s.size) && decide (s.size ≤ 30) && s.data.toList.all (fun c => lbB c.toNat)

theorem ret_bool {a b : Bool} (h : a = b) : Ending.returned (.bool a) = .returned (.bool b) := by rw [h]
theorem ret_int {k : IntKind} {a b : Int} (h : a = b) : Ending.returned (.int k a) = .returned (.int k b) := by rw [h]
theorem take_snoc (s : ByteArray) (k : Nat) (h : k < s.size) : s.data.toList.take (k + 1) = s.data.toList.take k ++ [s[k]] := by
  rw [List.take_succ_eq_append_getElem (by simpa using h)]; rfl
theorem take_all (s : ByteArray) (k : Nat) (h : s.size ≤ k) : s.data.toList.take k = s.data.toList :=
  List.take_of_length_le (by simpa using h)
theorem labs_step (s : ByteArray) (k : Nat) (h : k < s.size) (hk : (s.data.toList.take k).all (fun c => lbB c.toNat) = true) (hb : lbB (s[k].toNat : Int) = true) :
    (s.data.toList.take (k + 1)).all (fun c => lbB c.toNat) = true := by
  rw [take_snoc s k h, List.all_append, hk]; simp [hb]
theorem labs_not (s : ByteArray) (k : Nat) (h : k < s.size) (hb : lbB (s[k].toNat : Int) = false) : labB s = false := by
  have : s.data.toList.all (fun c => lbB c.toNat) = false := by
    rw [List.all_eq_false]
    refine ⟨s[k], ?_, by simp [hb]⟩
    exact List.getElem_mem (l := s.data.toList) (n := k) (by simpa using h)
  simp [labB, this]

set_option maxHeartbeats 400000 in
theorem within_any (n a b : Int) (w : World) :
    Calls Tryz.prog 60 #[.int .i64 n, .int .i64 a, .int .i64 b] w fun e w' => e = .returned (.bool (within n a b)) ∧ w' = w := by
  go_enter Tryz.func60, Tryz.ntmps60
  go_wp2
  all_goals
    go_ret
    exact ⟨ret_bool (by unfold within; rw [Bool.eq_iff_iff]; simp; try omega), rfl⟩

set_option maxHeartbeats 400000 in
theorem between_any (n a b : Int) (w : World) :
    Calls Tryz.prog 58 #[.int .i64 n, .int .i64 a, .int .i64 b] w fun e w' => e = .returned (.bool (within n a b)) ∧ w' = w := by
  go_enter Tryz.func58, Tryz.ntmps58
  go_wp2
  all_goals
    go_ret
    exact ⟨ret_bool (by unfold within; rw [Bool.eq_iff_iff]; simp; try omega), rfl⟩

set_option maxHeartbeats 400000 in
theorem address_any (n : Int) (w : World) :
    Calls Tryz.prog 91 #[.int .i64 n] w fun e w' => e = .returned (.bool (within n 0 4294967295)) ∧ w' = w := by
  go_enter Tryz.func91, Tryz.ntmps91
  go_wp2_with (go_at_call 60; refine (within_any _ _ _ _).mono ?_; rintro e w' ⟨rfl, rfl⟩)
  go_ret
  exact ⟨rfl, rfl⟩

set_option maxHeartbeats 400000 in
theorem isAddress_any (n : Int) (w : World) :
    Calls Tryz.prog 57 #[.int .i64 n] w fun e w' => e = .returned (.bool (within n 0 4294967295)) ∧ w' = w := by
  go_enter Tryz.func57, Tryz.ntmps57
  go_wp2_with (go_at_call 58; refine (between_any _ _ _ _).mono ?_; rintro e w' ⟨rfl, rfl⟩)
  go_ret
  exact ⟨rfl, rfl⟩

set_option maxHeartbeats 800000 in
theorem labelByte_any (n : Int) (w : World) :
    Calls Tryz.prog 61 #[.int .u8 n] w fun e w' => e = .returned (.bool (lbB n)) ∧ w' = w := by
  go_enter Tryz.func61, Tryz.ntmps61
  go_wp2
  all_goals
    go_ret
    exact ⟨ret_bool (by unfold lbB; rw [Bool.eq_iff_iff]; simp; try omega), rfl⟩

set_option maxHeartbeats 800000 in
theorem label_any (s : ByteArray) (w : World) (hs : s.size ≤ maxLen) :
    Calls Tryz.prog 26 #[.string s] w fun e w' => e = .returned (.bool (labB s)) ∧ w' = w := by
  unfold maxLen at hs
  by_cases hz : within (s.size : Int) 1 30 = true
  · have hz' : 1 ≤ s.size ∧ s.size ≤ 30 := by simp [within] at hz; omega
    go_enter Tryz.func26, Tryz.ntmps26
    go_wp2_with (go_at_call 60; refine (within_any _ _ _ _).mono ?_; rintro e w' ⟨rfl, rfl⟩; rw [hz])
    go_loop [10] (fun i => ∃ k : Nat, k ≤ s.size ∧ i = .int .i64 k ∧ (s.data.toList.take k).all (fun c => lbB c.toNat) = true) (fun i => s.size - (intOf i).toNat)
    case atStart => exact ⟨0, Nat.zero_le _, rfl, rfl⟩
    case round =>
      obtain ⟨k, hk, rfl, hall⟩ := hrel
      have HA : Hid ((s.data.toList.take k).all (fun c => lbB c.toNat) = true) := hall
      clear hall
      by_cases hlt : k < s.size
      · by_cases hb : lbB (s[k].toNat : Int) = true
        · go_wp2_with (go_at_call 61; refine (labelByte_any _ _).mono ?_; rintro e w' ⟨rfl, rfl⟩; rw [hb])
          go_round
          case rel => exact ⟨k + 1, by omega, by go_num, labs_step s k hlt HA.out hb⟩
          case measure => simp [intOf]; omega
        · have hb' : lbB (s[k].toNat : Int) = false := by simpa using hb
          go_wp2_with (go_at_call 61; refine (labelByte_any _ _).mono ?_; rintro e w' ⟨rfl, rfl⟩; rw [hb'])
          go_ret
          exact ⟨ret_bool (labs_not s k hlt hb').symm, rfl⟩
      · go_wp2
        go_ret
        have h2 := HA.out
        rw [take_all s k (by omega)] at h2
        exact ⟨ret_bool (by simp [labB, h2, hz'.1, hz'.2]), rfl⟩
  · have hz' : within (s.size : Int) 1 30 = false := by simpa using hz
    go_enter Tryz.func26, Tryz.ntmps26
    go_wp2_with (go_at_call 60; refine (within_any _ _ _ _).mono ?_; rintro e w' ⟨rfl, rfl⟩; rw [hz'])
    go_ret
    refine ⟨ret_bool ?_, rfl⟩
    symm
    simp only [within, Bool.and_eq_false_iff, decide_eq_false_iff_not] at hz'
    simp only [labB, Bool.and_eq_false_iff, decide_eq_false_iff_not]
    rcases hz' with h | h
    · exact .inl (.inl (by omega))
    · exact .inl (.inr (by omega))

theorem lbB_iff (n : Int) : lbB n = true ↔ (97 ≤ n ∧ n ≤ 122) ∨ (48 ≤ n ∧ n ≤ 57) ∨ n = 45 ∨ n = 95 := by
  unfold lbB; simp [or_assoc]
theorem lbB_not (n : Int) : lbB n = false ↔ ¬ ((97 ≤ n ∧ n ≤ 122) ∨ (48 ≤ n ∧ n ≤ 57) ∨ n = 45 ∨ n = 95) := by
  rw [← lbB_iff]; simp

set_option maxHeartbeats 1600000 in
theorem isLabel_any (s : ByteArray) (w : World) (hs : s.size ≤ maxLen) :
    Calls Tryz.prog 17 #[.string s] w fun e w' => e = .returned (.bool (labB s)) ∧ w' = w := by
  unfold maxLen at hs
  go_enter Tryz.func17, Tryz.ntmps17
  go_wp2
  go_loop [3] (fun i => ∃ k : Nat, k ≤ s.size ∧ i = .int .i64 k ∧ (s.data.toList.take k).all (fun c => lbB c.toNat) = true) (fun i => s.size - (intOf i).toNat)
  case atStart => exact ⟨0, Nat.zero_le _, rfl, rfl⟩
  case round =>
    obtain ⟨k, hk, rfl, hall⟩ := hrel
    have HA : Hid ((s.data.toList.take k).all (fun c => lbB c.toNat) = true) := hall
    clear hall
    by_cases hlt : k < s.size
    · have hstep := labs_step s k hlt HA.out
      have hnot := labs_not s k hlt
      have H1 : Hid (lbB (s[k].toNat : Int) = true → (s.data.toList.take (k + 1)).all (fun c => lbB c.toNat) = true) := hstep
      have H2 : Hid (lbB (s[k].toNat : Int) = false → labB s = false) := hnot
      clear hstep hnot
      go_wp2
      all_goals first
        | (go_ret
           exact ⟨ret_bool (H2.out ((lbB_not _).2 (by simp at *; omega))).symm, rfl⟩)
        | (refine ⟨⟨k + 1, by omega, by go_num, H1.out ((lbB_iff _).2 ?_)⟩, by simp [intOf]; omega⟩
           simp at *
           omega)
    · have h2 := HA.out
      rw [take_all s k (by omega)] at h2
      have H3 : Hid (s.data.toList.all (fun c => lbB c.toNat) = true) := h2
      clear h2
      go_wp2
      all_goals
        go_ret
        refine ⟨ret_bool ?_, rfl⟩
        unfold labB
        rw [H3.out, Bool.eq_iff_iff]
        simp
        try omega

theorem bcell {W w1 : World} (hb : Below W.heap.size W w1) : (∀ b o, b < W.heap.size → w1.cell? ⟨b, o, none⟩ = W.cell? ⟨b, o, none⟩) ∧ (∀ b o, b < W.heap.size → w1.frozen? ⟨b, o, none⟩ = W.frozen? ⟨b, o, none⟩) :=
  ⟨fun b o h => hb.cell (p := ⟨b, o, none⟩) h, fun b o h => hb.frozen (p := ⟨b, o, none⟩) h⟩

def less (a b : ByteArray) : Bool := Op.bytesLess a.toList b.toList

theorem bl_irrefl : ∀ a : List UInt8, Op.bytesLess a a = false
  | [] => rfl
  | x :: r => by simp [Op.bytesLess, bl_irrefl r]

theorem bl_total : ∀ a b : List UInt8, (!(Op.bytesLess a b)) = (Op.bytesLess b a || b == a)
  | [], [] => rfl
  | [], _ :: _ => rfl
  | _ :: _, [] => rfl
  | x :: r, y :: t => by
    have := bl_total r t
    by_cases h1 : x < y
    · have h2 : ¬ y < x := by rw [UInt8.lt_iff_toNat_lt] at *; omega
      have h3 : ¬ y = x := by rintro rfl; rw [UInt8.lt_iff_toNat_lt] at *; omega
      simp [Op.bytesLess, h1, h2, h3]
    · by_cases h2 : y < x
      · have h3 : ¬ y = x := by rintro rfl; rw [UInt8.lt_iff_toNat_lt] at *; omega
        have h4 : ¬ x = y := fun h => h3 h.symm
        simp [Op.bytesLess, h1, h2, h4]
      · have h3 : y = x := by
          apply UInt8.toNat_inj.1
          rw [UInt8.lt_iff_toNat_lt] at *; omega
        subst h3
        simp [Op.bytesLess]
        simpa using this

def cmpI (a b : ByteArray) : Int := Lib.compareBytes a.data.toList b.data.toList

theorem cmpstring_run (a b : ByteArray) (w : World) : (callFunc 103 #[.string a, .string b]).run Tryz.prog w = .ok (.value (.int .i64 (cmpI a b))) w := by
  rw [run_callFunc_extern Tryz.func103 (by kernel_rfl) (by kernel_rfl) (by kernel_rfl) (e := Extern.BytealgCompare.compare) (by kernel_rfl), Lib.run_compareString]
  rfl

set_option maxHeartbeats 400000 in
theorem compare_any (a b : ByteArray) (w : World) :
    Calls Tryz.prog 73 #[.string a, .string b] w fun e w' => e = .returned (.int .i64 (cmpI a b)) ∧ w' = w := by
  have hc := cmpstring_run
  go_enter Tryz.func73, Tryz.ntmps73
  go_wp2
  go_ret
  exact ⟨rfl, rfl⟩

theorem cb_lt : ∀ a b : List UInt8, Lib.compareBytes a b < 0 ↔ Op.bytesLess a b = true
  | [], [] => by simp [Lib.compareBytes, Op.bytesLess]
  | [], _ :: _ => by simp [Lib.compareBytes, Op.bytesLess]
  | _ :: _, [] => by simp [Lib.compareBytes, Op.bytesLess]
  | x :: r, y :: t => by
    have ih := cb_lt r t
    by_cases h1 : x < y
    · simp [Lib.compareBytes, Op.bytesLess, h1]
    · by_cases h2 : y < x
      · have h3 : ¬ x = y := by rintro rfl; exact h1 h2
        simp [Lib.compareBytes, Op.bytesLess, h1, h2, h3]
      · have h3 : x = y := by
          apply UInt8.toNat_inj.1
          rw [UInt8.lt_iff_toNat_lt] at *; omega
        subst h3
        simpa [Lib.compareBytes, Op.bytesLess] using ih

theorem cb_eq : ∀ a b : List UInt8, Lib.compareBytes a b = 0 ↔ a = b
  | [], [] => by simp [Lib.compareBytes]
  | [], _ :: _ => by simp [Lib.compareBytes]
  | _ :: _, [] => by simp [Lib.compareBytes]
  | x :: r, y :: t => by
    have ih := cb_eq r t
    by_cases h1 : x < y
    · have h3 : ¬ x = y := by rintro rfl; rw [UInt8.lt_iff_toNat_lt] at *; omega
      simp [Lib.compareBytes, h1, h3]
    · by_cases h2 : y < x
      · have h3 : ¬ x = y := by rintro rfl; exact h1 h2
        simp [Lib.compareBytes, h1, h2, h3]
      · have h3 : x = y := by
          apply UInt8.toNat_inj.1
          rw [UInt8.lt_iff_toNat_lt] at *; omega
        subst h3
        simpa [Lib.compareBytes] using ih

theorem bl_trans : ∀ a b c : List UInt8, Op.bytesLess a b = true → Op.bytesLess b c = true → Op.bytesLess a c = true
  | [], [], _, h, _ => by simp [Op.bytesLess] at h
  | [], _ :: _, [], _, h => by simp [Op.bytesLess] at h
  | [], _ :: _, _ :: _, _, _ => by simp [Op.bytesLess]
  | _ :: _, [], _, h, _ => by simp [Op.bytesLess] at h
  | _ :: _, _ :: _, [], _, h => by simp [Op.bytesLess] at h
  | x :: r, y :: t, z :: u, h1, h2 => by
    have ih := bl_trans r t u
    simp only [Op.bytesLess, Bool.or_eq_true, Bool.and_eq_true, decide_eq_true_eq, beq_iff_eq] at h1 h2 ⊢
    rcases h1 with h1 | ⟨rfl, h1⟩
    · rcases h2 with h2 | ⟨rfl, h2⟩
      · left; rw [UInt8.lt_iff_toNat_lt] at *; omega
      · left; exact h1
    · rcases h2 with h2 | ⟨rfl, h2⟩
      · left; exact h2
      · right; exact ⟨rfl, ih h1 h2⟩

theorem ba_ext {a b : ByteArray} (h : a.data.toList = b.data.toList) : a = b := by
  obtain ⟨⟨la⟩⟩ := a; obtain ⟨⟨lb⟩⟩ := b; simp at h; subst h; rfl

theorem cmpI_lt (a b : ByteArray) : cmpI a b < 0 ↔ less a b = true := by
  unfold cmpI less; rw [Lib.toList_data, Lib.toList_data]; exact cb_lt _ _
theorem cmpI_eq (a b : ByteArray) : cmpI a b = 0 ↔ a = b := by
  unfold cmpI; rw [cb_eq]; exact ⟨ba_ext, fun h => by rw [h]⟩
theorem less_trans {a b c : ByteArray} (h1 : less a b = true) (h2 : less b c = true) : less a c = true := bl_trans _ _ _ h1 h2
theorem less_irrefl (a : ByteArray) : less a a = false := bl_irrefl _
theorem less_total (a b : ByteArray) : less a b = true ∨ a = b ∨ less b a = true := by
  have h := bl_total a.toList b.toList
  unfold less
  cases h1 : Op.bytesLess a.toList b.toList
  · rw [h1] at h
    cases h2 : Op.bytesLess b.toList a.toList
    · rw [h2] at h
      right; left
      have : b.toList = a.toList := by simpa using h.symm
      rw [Lib.toList_data, Lib.toList_data] at this
      exact (ba_ext this).symm
    · right; right; rfl
  · left; rfl
theorem less_asymm {a b : ByteArray} (h1 : less a b = true) : less b a = false := by
  cases h : less b a
  · rfl
  · have := less_trans h1 h; rw [less_irrefl] at this; cases this
theorem cmpI_gt (a b : ByteArray) : 0 < cmpI a b ↔ less b a = true := by
  have h1 := cmpI_lt a b
  have h2 := cmpI_eq a b
  rcases less_total a b with h | rfl | h
  · have := h1.2 h
    rw [less_asymm h]
    simp; omega
  · rw [less_irrefl]; have := h2.2 rfl; simp; omega
  · rw [h]
    have h3 : ¬ cmpI a b < 0 := fun hh => by rw [h1, less_asymm h] at hh; cases hh
    have h4 : ¬ cmpI a b = 0 := fun hh => by rw [h2] at hh; subst hh; rw [less_irrefl] at h; cases h
    simp; omega

theorem run_copy_k {P : Program} (w : World) (dT sT ty elem : TypeId) (g o dLen dCap : Nat) (a : Addr) (sLen sCap k : Nat) (cur : Array Value) (t : TypeId) (cs : List Value)
    (hu : P.underlying dT = some (.slice elem)) (hs : (P.info? elem).map (·.size) = some k)
    (hg : w.heap[g]? = some (.cells cur t (0, 0))) (hn : cs.length = Nat.min sLen dLen * k)
    (hsrc : ∀ j v, cs[j]? = some v → w.cell? (a.add j) = some v) (hfit : o + cs.length ≤ cur.size) (h1 : ∀ v ∈ cs, v.oneCell' = true) :
    (Builtin.copy_ #[dT, sT] ty #[.slice (some ⟨g, o, none⟩) dLen dCap, .slice (some a) sLen sCap]).run P w =
      .ok (goInt (Nat.min sLen dLen)) (w.setRow g (cur.toList.take o ++ cs ++ cur.toList.drop (o + cs.length)).toArray) := by
  have hl := run_loadCells_list (P := P) w a cs hsrc
  have hst := run_storeCells_at P g o t cs 0 cur w hg (by simpa using hfit) h1
  cases hq : P.info? elem with
  | none => simp [hq] at hs
  | some i =>
    have hi : i.size = k := by simpa [hq] using hs
    simp [Builtin.copy_, run_underlying hu, Builtin.lenOf, Builtin.firstCells, sizeOf, typeInfo, hq, hi, ← hn, hl, hst]

theorem wpList_copy_runM {P : Program} (w : World) {ops : Array Oper} {rest : List Oper} {o : Oper} {a : Act} {Q : Exit → Act → World → Prop} (hgd : o.guard = none) (d s : Operand) (t t' : TypeId)
    (ho : o.op = .call { callee := .builtin .copy, args := #[d, s], argTypes := #[t, t'] }) (v u : Value) (hd : a.eval d = v) (hs : a.eval s = u) {v' : Value} {w' : World}
    (hr : (Builtin.copy_ #[t, t'] o.type #[v, u]).run P w = .ok v' w') (h : wpList P ops Q rest (a.put o.dst v') w') : wpList P ops Q (o :: rest) a w := by
  refine wpList_plain hgd fun _ hK => ?_
  unfold Oper.wp execOp
  simp only [ho, resolve, invoke, builtin, Sem.run_bind, Sem.run_pure, Result.andThen_ok, List.map_toArray, List.map_cons, List.map_nil, hd, hs, hr]
  exact hK _ _ h

theorem step_copy_runM {P : Program} {ops : Array Oper} {o : Oper} {a : Act} {w : World} {K : Act → World → Prop} {Q : Exit → Act → World → Prop} {E : Prop}
    (hg : o.guard = none) (d x : Operand) (dT sT : TypeId) (hop : o.op = Op.call { callee := Callee.builtin Builtin.copy, args := #[d, x], argTypes := #[dT, sT] })
    (v u : Value) (hd : a.eval d = v) (hx : a.eval x = u) {v' : Value} {w' : World} (hr : (Builtin.copy_ #[dT, sT] o.type #[v, u]).run P w = .ok v' w') (hK : K (a.put o.dst v') w') :
    if Region.wanted o (yielded ops a.tmps) = true then Oper.wp P o a w K Q else E := by
  have hw : Region.wanted o (yielded ops a.tmps) = true := by simp [Region.wanted, hg]
  rw [if_pos hw]
  unfold Oper.wp
  simp [execOp, hop, resolve, invoke, builtin, hd, hx, hr, Result.andThen]
  exact hK

theorem cellsAt {w : World} {g : Nat} {cur : Array Value} {t : TypeId} {fr : Nat × Nat} (hg : w.heap[g]? = some (.cells cur t fr)) (o : Nat) : w.cell? ⟨g, o, none⟩ = cur[o]? := by
  simp [World.cell?, hg]

theorem beq_name {a b : ByteArray} (h : a ≠ b) : (a.toList == b.toList) = false ∧ ¬ a.toList = b.toList := by
  have h2 : ¬ a.toList = b.toList := fun e => h (ba_ext (by rw [Lib.toList_data, Lib.toList_data] at e; exact e))
  exact ⟨by simpa using h2, h2⟩

theorem cell_topL {W : World} {cs : Array Value} {t : TypeId} {g k : Nat} (hg : g = W.heap.size) : (W.alloc (.cells cs t)).cell? ⟨g, k, none⟩ = cs[k]? := by subst hg; simp
theorem grown_any {w w' : World} (h : w.grownBy w' none) (row : Option Nat) : w.grownBy w' row := ⟨h.os, h.tape, h.output, h.size, fun k hk _ => h.block k hk (by simp)⟩

end Go.Proofs.YtdfkpehggecbaaaGreatDoor

/- Lists that rise by a key, one of each key, and of which the newer ones stay when they are joined: plain lists of whatever elements. -/
namespace Go.Proofs.YtdfkpehggecbaaaGreatDoor
namespace RL

section
variable {α : Type}

/-- An order that compares keys alone. -/
structure Keyed (o : α → α → Int) : Prop where
  refl : ∀ a, o a a = 0
  gt : ∀ a b, 0 < o a b ↔ o b a < 0
  trans : ∀ a b c, o a b < 0 → o b c < 0 → o a c < 0
  left : ∀ a b c, o a b = 0 → o a c = o b c
  right : ∀ a b c, o a b = 0 → o c a = o c b

/-- Which of two of one key is newer. -/
structure Newest (o : α → α → Int) (nw : α → α → Bool) : Prop where
  irrefl : ∀ a, nw a a = false
  trans : ∀ a b c, nw a b = true → nw b c = true → nw a c = true
  total : ∀ a b, o a b = 0 → nw a b = false → nw b a = false → a = b

theorem Keyed.symm {o : α → α → Int} (h : Keyed o) {a b : α} (e : o a b = 0) : o b a = 0 := by
  have h1 := h.gt a b
  have h2 := h.gt b a
  rcases Int.lt_trichotomy (o b a) 0 with hl | he | hg
  · have := h1.2 hl; omega
  · exact he
  · have := h2.1 hg; omega
theorem Keyed.eqt {o : α → α → Int} (h : Keyed o) {a b c : α} (e : o a b = 0) (f : o b c = 0) : o a c = 0 := by rw [h.left a b c e]; exact f

variable (o : α → α → Int) (nw : α → α → Bool) (d : α)

/-- Each one is less than those behind it. -/
abbrev Rise (ms : List α) : Prop := ms.Pairwise fun a b => o a b < 0

def risesB : List α → Bool
  | [] => true
  | [_] => true
  | a :: b :: r => decide (o a b < 0) && risesB (b :: r)

theorem rise_of (hk : Keyed o) : ∀ ms : List α, risesB o ms = true → Rise o ms
  | [], _ => .nil
  | [x], _ => by simp [Rise]
  | a :: b :: r, h => by
    rw [risesB, Bool.and_eq_true, decide_eq_true_eq] at h
    have ih := rise_of hk (b :: r) h.2
    refine List.pairwise_cons.2 ⟨fun c hc => ?_, ih⟩
    rcases List.mem_cons.1 hc with rfl | hc
    · exact h.1
    · exact hk.trans _ _ _ h.1 (List.rel_of_pairwise_cons ih hc)

theorem rises_of : ∀ ms : List α, Rise o ms → risesB o ms = true
  | [], _ => rfl
  | [x], _ => rfl
  | a :: b :: r, h => by
    rw [risesB, Bool.and_eq_true, decide_eq_true_eq]
    exact ⟨List.rel_of_pairwise_cons h (by simp), rises_of (b :: r) (List.Pairwise.of_cons h)⟩

theorem rises_all : ∀ ms : List α, (∀ j, j + 1 < ms.length → o (ms.getD j d) (ms.getD (j + 1) d) < 0) → risesB o ms = true
  | [], _ => rfl
  | [x], _ => rfl
  | a :: b :: r, h => by
    rw [risesB, Bool.and_eq_true, decide_eq_true_eq]
    refine ⟨by have := h 0 (by simp); simpa using this, rises_all (b :: r) fun j hj => ?_⟩
    have := h (j + 1) (by simpa using hj)
    simpa using this

theorem rises_get : ∀ ms : List α, risesB o ms = true → ∀ j, j + 1 < ms.length → o (ms.getD j d) (ms.getD (j + 1) d) < 0
  | [], _, j, hj => by simp at hj
  | [x], _, j, hj => by simp at hj
  | a :: b :: r, h, 0, _ => by
    rw [risesB, Bool.and_eq_true, decide_eq_true_eq] at h
    simpa using h.1
  | a :: b :: r, h, j + 1, hj => by
    rw [risesB, Bool.and_eq_true, decide_eq_true_eq] at h
    have := rises_get (b :: r) h.2 j (by simpa using hj)
    simpa using this

theorem getD_el {ms : List α} {i : Nat} (h : i < ms.length) : ms.getD i d = ms[i] := by simp [List.getD, List.getElem?_eq_getElem h]

theorem rise_lt {ms : List α} (h : Rise o ms) {i j : Nat} (hij : i < j) (hj : j < ms.length) : o (ms.getD i d) (ms.getD j d) < 0 := by
  rw [getD_el d (show i < ms.length by omega), getD_el d hj]
  exact List.pairwise_iff_getElem.1 h i j (by omega) hj hij

theorem rise_mono (hk : Keyed o) {ms : List α} (h : Rise o ms) (t : α) : ∀ i j, i ≤ j → j < ms.length → o (ms.getD j d) t < 0 → o (ms.getD i d) t < 0 := by
  intro i j hij hj hlt
  rcases Nat.lt_or_eq_of_le hij with hlt' | rfl
  · exact hk.trans _ _ _ (rise_lt o d h hlt' hj) hlt
  · exact hlt

/-- Where the one with the key of t is, or would be. -/
structure At (ms : List α) (t : α) (p : Nat) (f : Bool) : Prop where
  le : p ≤ ms.length
  lo : ∀ j, j < p → o (ms.getD j d) t < 0
  hi : ∀ j, p ≤ j → j < ms.length → 0 ≤ o (ms.getD j d) t
  is : f = true ↔ p < ms.length ∧ o (ms.getD p d) t = 0

theorem at_any (hk : Keyed o) (ms : List α) (hr : Rise o ms) (t : α) : ∃ p f, At o d ms t p f := by
  induction ms with
  | nil => exact ⟨0, false, by simp, fun j h => by omega, fun j h h2 => by simp at h2, by simp⟩
  | cons x r ih =>
    have hx := List.pairwise_cons.1 hr
    by_cases hlt : o x t < 0
    · obtain ⟨p, f, h⟩ := ih hx.2
      refine ⟨p + 1, f, by have := h.le; simpa using this, fun j hj => ?_, fun j hj hl => ?_, by have := h.is; simpa using this⟩
      · cases j with
        | zero => simpa using hlt
        | succ j => have := h.lo j (by omega); simpa using this
      · cases j with
        | zero => omega
        | succ j => have := h.hi j (by omega) (by simpa using hl); simpa using this
    · refine ⟨0, decide (o x t = 0), by simp, fun j hj => by omega, fun j _ hl => ?_, by simp⟩
      apply Int.not_lt.1
      intro hq
      have := rise_mono o d hk hr t 0 j (by omega) hl hq
      simp at this
      omega

theorem at_uniq {ms : List α} {t : α} {p q : Nat} {f e : Bool} (h : At o d ms t p f) (k : At o d ms t q e) : p = q ∧ f = e := by
  have hpq : p = q := by
    rcases Nat.lt_trichotomy p q with hlt | rfl | hlt
    · have h1 := k.lo p hlt
      have h2 := h.hi p (Nat.le_refl _) (by have := k.le; omega)
      omega
    · rfl
    · have h1 := h.lo q hlt
      have h2 := k.hi q (Nat.le_refl _) (by have := h.le; omega)
      omega
  subst hpq
  refine ⟨rfl, ?_⟩
  rw [Bool.eq_iff_iff, h.is, k.is]

theorem at_of {ms : List α} (hk : Keyed o) (hr : Rise o ms) {t : α} {k : Nat} (hl : k < ms.length) (he : o (ms.getD k d) t = 0) : At o d ms t k true := by
  refine ⟨by omega, fun j hj => ?_, fun j hj hjl => ?_, ⟨fun _ => ⟨hl, he⟩, fun _ => rfl⟩⟩
  · rw [← hk.right _ _ (ms.getD j d) he]
    exact rise_lt o d hr hj hl
  · rcases Nat.lt_or_eq_of_le hj with h | rfl
    · rw [← hk.right _ _ (ms.getD j d) he]
      have := (hk.gt (ms.getD j d) (ms.getD k d)).2 (rise_lt o d hr h hjl)
      omega
    · omega

theorem at_hi_ne {ms : List α} (hk : Keyed o) {t : α} {p : Nat} {f : Bool} (ha : At o d ms t p f) (hr : Rise o ms) (k : Nat) (hpk : p < k) (hl : k < ms.length) : 0 < o (ms.getD k d) t := by
  have h1 := rise_lt o d hr hpk hl
  have h2 := ha.hi p (Nat.le_refl _) (by omega)
  have h3 := ha.hi k (by omega) hl
  rcases Int.lt_or_eq_of_le h3 with h | h
  · exact h
  · have : o (ms.getD p d) t < 0 := by rw [← hk.right _ _ _ h.symm]; exact h1
    omega

/-- What is there behind one more. -/
def hear : List α → α → List α
  | [], m => [m]
  | x :: r, m => if o x m < 0 then x :: hear r m else if o x m = 0 then (if nw m x = true then m :: r else x :: r) else m :: x :: r

theorem hear_at : ∀ (ms : List α) (m : α) (p : Nat) (f : Bool), At o d ms m p f →
    hear o nw ms m = if f = true then (if nw m (ms.getD p d) = true then ms.set p m else ms) else ms.take p ++ m :: ms.drop p
  | [], m, p, f, h => by
    have hp : p = 0 := by have := h.le; simpa using this
    subst hp
    have hf : f = false := by
      cases f
      · rfl
      · have := h.is.1 rfl; simp at this
    subst hf
    simp [hear]
  | x :: r, m, 0, f, h => by
    have h0 := h.hi 0 (Nat.le_refl _) (by simp)
    simp only [List.getD_cons_zero] at h0
    rw [hear, if_neg (by omega)]
    cases f
    · have hne : ¬ o x m = 0 := fun e => by have := h.is.2 ⟨by simp, by simpa using e⟩; cases this
      rw [if_neg hne]; simp
    · have he := (h.is.1 rfl).2
      simp only [List.getD_cons_zero] at he
      rw [if_pos he]
      simp only [List.getD_cons_zero, List.set_cons_zero, if_pos]
  | x :: r, m, p + 1, f, h => by
    have h0 := h.lo 0 (by omega)
    simp only [List.getD_cons_zero] at h0
    have hr : At o d r m p f := ⟨by have := h.le; simpa using this, fun j hj => by have := h.lo (j + 1) (by omega); simpa using this,
      fun j hj hl => by have := h.hi (j + 1) (by omega) (by simpa using hl); simpa using this, by have := h.is; simpa using this⟩
    rw [hear, if_pos h0, hear_at r m p f hr]
    cases f
    · simp
    · simp only [if_pos, List.getD_cons_succ, List.set_cons_succ]
      split <;> rfl

theorem hear_mem : ∀ (ms : List α) (m x : α), x ∈ hear o nw ms m → x = m ∨ x ∈ ms
  | [], m, x, h => by simp [hear] at h; exact .inl h
  | y :: r, m, x, h => by
    rw [hear] at h
    split at h
    · rcases List.mem_cons.1 h with rfl | h
      · exact .inr (by simp)
      · rcases hear_mem r m x h with h | h
        · exact .inl h
        · exact .inr (by simp [h])
    · split at h
      · split at h
        · rcases List.mem_cons.1 h with h | h
          · exact .inl h
          · exact .inr (by simp [h])
        · exact .inr h
      · rcases List.mem_cons.1 h with h | h
        · exact .inl h
        · exact .inr h

theorem hear_rise (hk : Keyed o) : ∀ (ms : List α) (m : α), Rise o ms → Rise o (hear o nw ms m)
  | [], m, _ => by simp [hear]
  | x :: r, m, h => by
    have hx := List.pairwise_cons.1 h
    rw [hear]
    split
    · rename_i hlt
      refine List.pairwise_cons.2 ⟨fun y hy => ?_, hear_rise hk r m hx.2⟩
      rcases hear_mem o nw r m y hy with rfl | hy
      · exact hlt
      · exact hx.1 y hy
    · rename_i hlt
      split
      · rename_i he
        split
        · exact List.pairwise_cons.2 ⟨fun y hy => by rw [← hk.left x m y he]; exact hx.1 y hy, hx.2⟩
        · exact h
      · rename_i he
        have hg : o m x < 0 := (hk.gt x m).1 (by omega)
        refine List.pairwise_cons.2 ⟨fun y hy => ?_, h⟩
        rcases List.mem_cons.1 hy with rfl | hy
        · exact hg
        · exact hk.trans _ _ _ hg (hx.1 y hy)

theorem hear_len : ∀ (ms : List α) (m : α), ms.length ≤ (hear o nw ms m).length ∧ (hear o nw ms m).length ≤ ms.length + 1
  | [], m => by simp [hear]
  | x :: r, m => by
    have := hear_len r m
    rw [hear]
    split
    · simp; omega
    · split
      · split <;> simp
      · simp

/-- All of a second list, one by one. -/
def join (a b : List α) : List α := b.foldl (hear o nw) a

theorem join_rise (hk : Keyed o) : ∀ (b a : List α), Rise o a → Rise o (join o nw a b)
  | [], _, h => h
  | m :: r, a, h => join_rise hk r (hear o nw a m) (hear_rise o nw hk a m h)
theorem join_len : ∀ (b a : List α), (join o nw a b).length ≤ a.length + b.length
  | [], _ => by simp [join]
  | m :: r, a => by
    have h1 := join_len r (hear o nw a m)
    have h2 := hear_len o nw a m
    simp only [join, List.foldl_cons, List.length_cons] at *
    omega
theorem join_mem : ∀ (b a : List α) (x : α), x ∈ join o nw a b → x ∈ a ∨ x ∈ b
  | [], _, _, h => .inl h
  | m :: r, a, x, h => by
    rcases join_mem r (hear o nw a m) x h with h | h
    · rcases hear_mem o nw a m x h with rfl | h
      · exact .inr (by simp)
      · exact .inl h
    · exact .inr (by simp [h])
theorem join_take (a b : List α) (j : Nat) (hj : j < b.length) : join o nw a (b.take (j + 1)) = hear o nw (join o nw a (b.take j)) (b.getD j d) := by
  rw [getD_el d hj, List.take_succ_eq_append_getElem hj, join, List.foldl_append, join]
  rfl
theorem hear_last : ∀ (a : List α) (m : α), (∀ x ∈ a, o x m < 0) → hear o nw a m = a ++ [m]
  | [], _, _ => rfl
  | x :: r, m, h => by
    rw [hear, if_pos (h x (by simp)), hear_last r m (fun y hy => h y (by simp [hy]))]
    rfl
theorem join_app : ∀ (b a : List α), Rise o (a ++ b) → join o nw a b = a ++ b
  | [], a, _ => by simp [join]
  | m :: r, a, h => by
    have h1 : hear o nw a m = a ++ [m] := hear_last o nw a m fun x hx => (List.pairwise_append.1 h).2.2 x hx m (by simp)
    have h2 := join_app r (a ++ [m]) (by simpa using h)
    simp only [join, List.foldl_cons, h1] at h2 ⊢
    rw [h2]; simp
theorem join_nil (b : List α) (h : Rise o b) : join o nw [] b = b := join_app o nw b [] h

/-- The newer one of two of one key. -/
def mx (x y : α) : α := if nw y x = true then y else x

theorem mx_comm (hn : Newest o nw) {x y : α} (he : o x y = 0) : mx nw x y = mx nw y x := by
  unfold mx
  cases h1 : nw y x <;> cases h2 : nw x y
  · simp [hn.total x y he h2 h1]
  · simp
  · simp
  · exfalso
    have := hn.trans _ _ _ h1 h2
    rw [hn.irrefl] at this
    cases this
theorem mx_assoc (hn : Newest o nw) {x y z : α} (h12 : o x y = 0) (h23 : o y z = 0) : mx nw (mx nw x y) z = mx nw x (mx nw y z) := by
  unfold mx
  cases h1 : nw y x <;> cases h2 : nw z y <;> cases h3 : nw z x <;> simp [h1, h2, h3]
  · exfalso
    cases h4 : nw x y
    · have := hn.total x y h12 h4 h1; subst this; rw [h3] at h2; cases h2
    · have := hn.trans _ _ _ h3 h4; rw [h2] at this; cases this
  · exfalso
    have := hn.trans _ _ _ h2 h1; rw [h3] at this; cases this
theorem mx_self (x : α) : mx nw x x = x := by unfold mx; split <;> rfl
theorem mx_key {x y n : α} (hx : o x n = 0) (hy : o y n = 0) : o (mx nw x y) n = 0 := by unfold mx; split <;> assumption

/-- The one with the key of n. -/
def get (ms : List α) (n : α) : Option α := ms.find? fun x => decide (o x n = 0)

theorem get_nil (n : α) : get o [] n = none := rfl
theorem get_cons_eq (x : α) (r : List α) {n : α} (h : o x n = 0) : get o (x :: r) n = some x := by simp [get, h]
theorem get_cons_ne (x : α) (r : List α) {n : α} (h : ¬ o x n = 0) : get o (x :: r) n = get o r n := by simp [get, h]
theorem get_key {ms : List α} {n x : α} (h : get o ms n = some x) : o x n = 0 := by
  have := List.find?_some h
  simpa using this
theorem get_mem {ms : List α} {n x : α} (h : get o ms n = some x) : x ∈ ms := List.mem_of_find?_eq_some h
theorem get_none {ms : List α} {n : α} (h : ∀ x ∈ ms, ¬ o x n = 0) : get o ms n = none := by
  unfold get
  rw [List.find?_eq_none]
  intro x hx
  simpa using h x hx
theorem rise_head (hk : Keyed o) {x : α} {r : List α} (h : Rise o (x :: r)) : ∀ y ∈ r, ¬ o y x = 0 := by
  intro y hy e
  have := List.rel_of_pairwise_cons h hy
  have h2 := hk.symm e
  omega

theorem rise_ext (hk : Keyed o) : ∀ {a b : List α}, Rise o a → Rise o b → (∀ n, get o a n = get o b n) → a = b
  | [], [], _, _, _ => rfl
  | [], y :: s, _, _, h => by
    have := h y
    rw [get_nil, get_cons_eq o y s (hk.refl y)] at this
    cases this
  | x :: r, [], _, _, h => by
    have := h x
    rw [get_nil, get_cons_eq o x r (hk.refl x)] at this
    cases this
  | x :: r, y :: s, ha, hb, h => by
    have hname : o x y = 0 := by
      rcases Int.lt_trichotomy (o x y) 0 with hl | he | hl
      · have h1 := h x
        rw [get_cons_eq o x r (hk.refl x), get_none] at h1
        · cases h1
        · intro z hz e
          have e2 := hk.symm e
          rcases List.mem_cons.1 hz with rfl | hz
          · omega
          · have h2 := hk.trans _ _ _ hl (List.rel_of_pairwise_cons hb hz)
            omega
      · exact he
      · have hl := (hk.gt x y).1 hl
        have h1 := h y
        rw [get_cons_eq o y s (hk.refl y), get_none] at h1
        · cases h1
        · intro z hz e
          have e2 := hk.symm e
          rcases List.mem_cons.1 hz with rfl | hz
          · omega
          · have h2 := hk.trans _ _ _ hl (List.rel_of_pairwise_cons ha hz)
            omega
    have hxy : x = y := by
      have h1 := h x
      rw [get_cons_eq o x r (hk.refl x), get_cons_eq o y s (hk.symm hname)] at h1
      exact Option.some.inj h1
    subst hxy
    have hrs : r = s := rise_ext hk (List.Pairwise.of_cons ha) (List.Pairwise.of_cons hb) fun n => by
      by_cases hn : o x n = 0
      · rw [get_none o (fun z hz e => rise_head o hk ha z hz (hk.eqt e (hk.symm hn))), get_none o (fun z hz e => rise_head o hk hb z hz (hk.eqt e (hk.symm hn)))]
      · have h1 := h n
        rw [get_cons_ne o x r hn, get_cons_ne o x s hn] at h1
        exact h1
    rw [hrs]

def comb : Option α → Option α → Option α
  | none, y => y
  | some x, none => some x
  | some x, some y => some (mx nw x y)

theorem comb_none (x : Option α) : comb nw x none = x := by cases x <;> rfl
theorem comb_comm (hk : Keyed o) (hn : Newest o nw) {x y : Option α} {n : α} (hx : ∀ z, x = some z → o z n = 0) (hy : ∀ z, y = some z → o z n = 0) : comb nw x y = comb nw y x := by
  cases x with
  | none => rw [comb_none]; rfl
  | some x => cases y with
    | none => rfl
    | some y => simp only [comb]; rw [mx_comm o nw hn (hk.eqt (hx x rfl) (hk.symm (hy y rfl)))]
theorem comb_assoc (hk : Keyed o) (hn : Newest o nw) {x y z : Option α} {n : α} (hx : ∀ u, x = some u → o u n = 0) (hy : ∀ u, y = some u → o u n = 0) (hz : ∀ u, z = some u → o u n = 0) : comb nw (comb nw x y) z = comb nw x (comb nw y z) := by
  cases x with
  | none => rfl
  | some x => cases y with
    | none => rfl
    | some y => cases z with
      | none => rfl
      | some z => simp only [comb]; rw [mx_assoc o nw hn (hk.eqt (hx x rfl) (hk.symm (hy y rfl))) (hk.eqt (hy y rfl) (hk.symm (hz z rfl)))]

theorem get_hear (hk : Keyed o) : ∀ (ms : List α) (m : α), Rise o ms → ∀ n, get o (hear o nw ms m) n = if o m n = 0 then comb nw (get o ms n) (some m) else get o ms n
  | [], m, _, n => by
    by_cases h : o m n = 0
    · rw [if_pos h, hear, get_cons_eq o m [] h]; rfl
    · rw [if_neg h, hear, get_cons_ne o m [] h]
  | x :: r, m, hr, n => by
    have ih := get_hear hk r m (List.Pairwise.of_cons hr) n
    rw [hear]
    by_cases hlt : o x m < 0
    · rw [if_pos hlt]
      by_cases hx : o x n = 0
      · rw [get_cons_eq o x _ hx, get_cons_eq o x r hx, if_neg (fun e => by have := hk.eqt hx (hk.symm e); omega)]
      · rw [get_cons_ne o x _ hx, get_cons_ne o x r hx, ih]
    · rw [if_neg hlt]
      by_cases he : o x m = 0
      · rw [if_pos he]
        by_cases hm : o m n = 0
        · rw [if_pos hm, get_cons_eq o x r (hk.eqt he hm)]
          by_cases hnew : nw m x = true
          · rw [if_pos hnew, get_cons_eq o m r hm]; simp [comb, mx, hnew]
          · rw [if_neg hnew, get_cons_eq o x r (hk.eqt he hm)]; simp [comb, mx, hnew]
        · have hx : ¬ o x n = 0 := fun e => hm (hk.eqt (hk.symm he) e)
          rw [if_neg hm, get_cons_ne o x r hx]
          by_cases hnew : nw m x = true
          · rw [if_pos hnew, get_cons_ne o m r hm]
          · rw [if_neg hnew, get_cons_ne o x r hx]
      · rw [if_neg he]
        by_cases hm : o m n = 0
        · rw [if_pos hm, get_cons_eq o m _ hm, get_none]
          · rfl
          · have hg : o m x < 0 := (hk.gt x m).1 (by omega)
            intro z hz e
            have h2 := hk.eqt hm (hk.symm e)
            rcases List.mem_cons.1 hz with rfl | hz
            · omega
            · have := hk.trans _ _ _ hg (List.rel_of_pairwise_cons hr hz)
              omega
        · rw [if_neg hm, get_cons_ne o m _ hm]

theorem get_join (hk : Keyed o) : ∀ (b a : List α), Rise o a → Rise o b → ∀ n, get o (join o nw a b) n = comb nw (get o a n) (get o b n)
  | [], a, _, _, n => by rw [get_nil, comb_none]; rfl
  | m :: r, a, ha, hb, n => by
    have ih := get_join hk r (hear o nw a m) (hear_rise o nw hk a m ha) (List.Pairwise.of_cons hb) n
    show get o (join o nw (hear o nw a m) r) n = _
    rw [ih, get_hear o nw hk a m ha n]
    by_cases hm : o m n = 0
    · rw [if_pos hm, get_cons_eq o m r hm, get_none o (ms := r) (fun z hz e => rise_head o hk hb z hz (hk.eqt e (hk.symm hm))), comb_none]
    · rw [if_neg hm, get_cons_ne o m r hm]

theorem join_comm (hk : Keyed o) (hn : Newest o nw) {a b : List α} (ha : Rise o a) (hb : Rise o b) : join o nw a b = join o nw b a :=
  rise_ext o hk (join_rise o nw hk b a ha) (join_rise o nw hk a b hb) fun n => by
    rw [get_join o nw hk b a ha hb, get_join o nw hk a b hb ha]
    exact comb_comm o nw hk hn (n := n) (fun z h => get_key o h) (fun z h => get_key o h)
theorem join_assoc (hk : Keyed o) (hn : Newest o nw) {a b c : List α} (ha : Rise o a) (hb : Rise o b) (hc : Rise o c) : join o nw (join o nw a b) c = join o nw a (join o nw b c) :=
  rise_ext o hk (join_rise o nw hk c _ (join_rise o nw hk b a ha)) (join_rise o nw hk _ a ha) fun n => by
    rw [get_join o nw hk c _ (join_rise o nw hk b a ha) hc, get_join o nw hk b a ha hb, get_join o nw hk _ a ha (join_rise o nw hk c b hb), get_join o nw hk c b hb hc]
    exact comb_assoc o nw hk hn (n := n) (fun z h => get_key o h) (fun z h => get_key o h) (fun z h => get_key o h)
theorem join_absorb (hk : Keyed o) (hn : Newest o nw) {a b : List α} (ha : Rise o a) (hb : Rise o b) : join o nw (join o nw a b) a = join o nw a b :=
  rise_ext o hk (join_rise o nw hk a _ (join_rise o nw hk b a ha)) (join_rise o nw hk b a ha) fun n => by
    rw [get_join o nw hk a _ (join_rise o nw hk b a ha) ha, get_join o nw hk b a ha hb]
    rw [comb_comm o nw hk hn (n := n) (x := get o a n) (fun z h => get_key o h) (fun z h => get_key o h)]
    rw [comb_assoc o nw hk hn (n := n) (fun z h => get_key o h) (fun z h => get_key o h) (fun z h => get_key o h)]
    congr 1
    cases h : get o a n with
    | none => rfl
    | some x => simp [comb, mx_self]

/-- What has been put behind k of the elements: m at p, those from q on behind it. -/
def outL (ms : List α) (m : α) (p q k : Nat) : List α := if k ≤ p then ms.take k else ms.take p ++ m :: (ms.take k).drop q

theorem outL_lo {ms : List α} {m : α} {p q k : Nat} (h : k < p) (hk : k < ms.length) : outL ms m p q (k + 1) = outL ms m p q k ++ [ms.getD k d] := by
  rw [outL, outL, if_pos (by omega), if_pos (by omega), List.take_succ_eq_append_getElem hk, getD_el d hk]
theorem outL_eq {ms : List α} {m : α} {p : Nat} : outL ms m p (p + 1) (p + 1) = outL ms m p (p + 1) p ++ [m] := by
  rw [outL, outL, if_neg (by omega), if_pos (by omega), List.drop_of_length_le (by simp; omega)]
theorem outL_ne {ms : List α} {m : α} {p : Nat} (hp : p < ms.length) : outL ms m p p (p + 1) = (outL ms m p p p ++ [m]) ++ [ms.getD p d] := by
  rw [outL, outL, if_neg (by omega), if_pos (by omega), List.take_succ_eq_append_getElem hp, List.drop_append_of_le_length (by simp; omega), List.drop_of_length_le (by simp; omega), getD_el d hp]
  simp
theorem outL_hi {ms : List α} {m : α} {p q k : Nat} (h : p < k) (hq : q ≤ k) (hk : k < ms.length) : outL ms m p q (k + 1) = outL ms m p q k ++ [ms.getD k d] := by
  rw [outL, outL, if_neg (by omega), if_neg (by omega), List.take_succ_eq_append_getElem hk, List.drop_append_of_le_length (by simp; omega), getD_el d hk]
  simp
theorem outL_len {ms : List α} {m : α} {p q k : Nat} : (outL ms m p q k).length ≤ 1 + ms.length + ms.length := by
  unfold outL; split <;> simp <;> omega

/-- m in the place of the one of its key. -/
def put (ms : List α) (m : α) (p : Nat) (f : Bool) : List α := ms.take p ++ m :: ms.drop (if f = true then p + 1 else p)
theorem put_out {ms : List α} {m : α} {p : Nat} {f : Bool} (hp : p < ms.length) : outL ms m p (if f = true then p + 1 else p) ms.length = put ms m p f := by
  rw [outL, if_neg (by omega), List.take_length, put]
theorem put_last {ms : List α} {m : α} {p q : Nat} (hp : p = ms.length) : outL ms m p q ms.length ++ [m] = put ms m p false := by
  subst hp
  rw [outL, if_pos (Nat.le_refl _), put]
  simp
theorem hear_put {ms : List α} {m : α} {p : Nat} {f : Bool} (h : At o d ms m p f) (hn : f = true → nw m (ms.getD p d) = true) : hear o nw ms m = put ms m p f := by
  rw [hear_at o nw d ms m p f h, put]
  cases f
  · simp
  · rw [if_pos rfl, if_pos (hn rfl), if_pos rfl, List.set_eq_take_append_cons_drop, if_pos (h.is.1 rfl).1]
theorem put_len {ms : List α} {m : α} {p : Nat} {f : Bool} (h : At o d ms m p f) : (put ms m p f).length = if f = true then ms.length else ms.length + 1 := by
  have h1 := h.le
  cases f
  · simp [put]; omega
  · have := (h.is.1 rfl).1
    simp [put]; omega

end
end RL
end Go.Proofs.YtdfkpehggecbaaaGreatDoor

/- Lists of members in memory. -/
namespace Go.Proofs.YtdfkpehggecbaaaGreatDoor

open Go.RowKit

structure Mem where
  name : ByteArray
  state : Int
  life : Int
  addr : Int
  server : Bool

def dm : Mem := ⟨ByteArray.empty, 0, 0, 0, false⟩

def Row (w : World) (b off : Nat) (ms : List Mem) : Prop := ∀ j, j < ms.length →
  w.cell? ⟨b, off + j * 5, none⟩ = some (.string (ms.getD j dm).name) ∧ w.cell? ⟨b, off + j * 5 + 1, none⟩ = some (.int .i64 (ms.getD j dm).state) ∧ w.cell? ⟨b, off + j * 5 + 2, none⟩ = some (.int .i64 (ms.getD j dm).life) ∧ w.cell? ⟨b, off + j * 5 + 3, none⟩ = some (.int .i64 (ms.getD j dm).addr) ∧ w.cell? ⟨b, off + j * 5 + 4, none⟩ = some (.bool (ms.getD j dm).server)

/-- A slice's value, and what it holds in a world. -/
def Sl (w : World) (v : Value) (ms : List Mem) : Prop :=
  ∃ (a : Option Addr) (cap : Nat), v = .slice a ms.length cap ∧ (∀ j, (ms.getD j dm).name.size ≤ maxLen) ∧
    (ms = [] ∨ ∃ b off, a = some ⟨b, off, none⟩ ∧ b < w.heap.size ∧ Row w b off ms)

def Mem.cs (m : Mem) : List Value := [.string m.name, .int .i64 m.state, .int .i64 m.life, .int .i64 m.addr, .bool m.server]
def fl (ms : List Mem) : List Value := ms.flatMap Mem.cs

theorem cs_len (m : Mem) : m.cs.length = 5 := rfl
theorem fl_cons (m : Mem) (r : List Mem) : fl (m :: r) = m.cs ++ fl r := by simp [fl]
theorem fl_append (a b : List Mem) : fl (a ++ b) = fl a ++ fl b := by simp [fl]
theorem fl_len : ∀ ms : List Mem, (fl ms).length = ms.length * 5
  | [] => rfl
  | m :: r => by rw [fl_cons, List.length_append, fl_len r, cs_len, List.length_cons]; omega
theorem fl_take : ∀ (ms : List Mem) (i : Nat), (fl ms).take (i * 5) = fl (ms.take i)
  | [], i => by simp [fl]
  | m :: r, 0 => by simp [fl]
  | m :: r, i + 1 => by
    rw [fl_cons, List.take_succ_cons, fl_cons, show (i + 1) * 5 = m.cs.length + i * 5 by rw [cs_len]; omega, List.take_length_add_append, fl_take r i]
theorem fl_drop : ∀ (ms : List Mem) (i : Nat), (fl ms).drop (i * 5) = fl (ms.drop i)
  | [], i => by simp [fl]
  | m :: r, 0 => by simp
  | m :: r, i + 1 => by
    rw [fl_cons, List.drop_succ_cons, show (i + 1) * 5 = m.cs.length + i * 5 by rw [cs_len]; omega, List.drop_length_add_append, fl_drop r i]
theorem cs_one (m : Mem) : ∀ v ∈ m.cs, v.oneCell' = true := by
  intro v hv; simp [Mem.cs] at hv; rcases hv with rfl | rfl | rfl | rfl | rfl <;> rfl
theorem fl_one (ms : List Mem) : ∀ v ∈ fl ms, v.oneCell' = true := by
  intro v hv
  obtain ⟨m, _, h⟩ := List.mem_flatMap.1 hv
  exact cs_one m v h
theorem fl_get (ms : List Mem) (j : Nat) (hj : j < ms.length) (t : Nat) (ht : t < 5) : (fl ms)[j * 5 + t]? = (ms.getD j dm).cs[t]? := by
  induction ms generalizing j with
  | nil => simp at hj
  | cons m r ih =>
    rw [fl_cons]
    cases j with
    | zero => rw [List.getElem?_append_left (by rw [cs_len]; omega)]; simp
    | succ j =>
      rw [List.getElem?_append_right (by rw [cs_len]; omega), cs_len, show (j + 1) * 5 + t - 5 = j * 5 + t by omega, ih j (by simpa using hj)]
      simp
theorem fl_set (ms : List Mem) (p : Nat) (hp : p < ms.length) (m : Mem) : ((((((fl ms).set (p * 5) (.string m.name)).set (p * 5 + 1) (.int .i64 m.state)).set (p * 5 + 2) (.int .i64 m.life)).set (p * 5 + 3) (.int .i64 m.addr)).set (p * 5 + 4) (.bool m.server)) = fl (ms.set p m) := by
  induction ms generalizing p with
  | nil => simp at hp
  | cons x r ih =>
    cases p with
    | zero => simp [fl, Mem.cs]
    | succ p =>
      have ih' := ih p (by simpa using hp)
      rw [List.set_cons_succ, fl_cons, fl_cons, ← ih']
      simp only [Nat.add_mul, Nat.one_mul]
      have e : ∀ (l : List Value) (k : Nat) (v : Value), (x.cs ++ l).set (k + 5) v = x.cs ++ l.set k v := fun l k v => by
        rw [List.set_append, if_neg (by rw [cs_len]; omega), cs_len, Nat.add_sub_cancel]
      have c : ∀ i : Nat, p * 5 + 5 + i = (p * 5 + i) + 5 := fun i => by omega
      simp only [c]
      rw [e, e, e, e, e]

abbrev Own (base : Nat) (w : World) (v : Value) (ms : List Mem) : Prop := w.ownsRow base 55 5 v ms.length (fl ms)

theorem own_of {base g G : Nat} {w : World} {cur : Array Value} {ms : List Mem} (hb : base ≤ g) (hg : w.heap[g]? = some (.cells cur 55 (0, 0))) (hs : cur.size = G * 5) (hn : ms.length ≤ G) (hG : G ≤ maxLen) (ht : cur.toList.take (ms.length * 5) = fl ms) :
    Own base w (.slice (some ⟨g, 0, none⟩) ms.length G) ms := ⟨fl_len ms, .inr ⟨g, G, cur, rfl, hb, hg, hn, hG, hs, ht⟩⟩

/-- What a call owns is a slice as any. -/
theorem Own.sl {base : Nat} {w : World} {v : Value} {ms : List Mem} (h : Own base w v ms) (hs : ∀ j, (ms.getD j dm).name.size ≤ maxLen) : Sl w v ms := by
  rcases h.2 with ⟨rfl, h0⟩ | ⟨g, c, cur, rfl, hbg, hg, hnc, hcm, hcs, htake⟩
  · exact ⟨none, 0, by rw [h0], hs, .inl (List.eq_nil_of_length_eq_zero h0)⟩
  · refine ⟨_, c, rfl, hs, .inr ⟨g, 0, rfl, (Array.getElem?_eq_some_iff.1 hg).1, fun j hj => ?_⟩⟩
    have hc : ∀ t, t < 5 → w.cell? ⟨g, 0 + j * 5 + t, none⟩ = (ms.getD j dm).cs[t]? := fun t ht => by
      rw [cellsAt hg, ← fl_get ms j hj t ht, ← htake, List.getElem?_take_of_lt (by omega)]; simp
    exact ⟨hc 0 (by omega), hc 1 (by omega), hc 2 (by omega), hc 3 (by omega), hc 4 (by omega)⟩

theorem Own.below {base : Nat} {w w' : World} {v : Value} {ms : List Mem} (h : Own base w v ms) (hb : Below w.heap.size w w') : Own base w' v ms := by
  rcases h.2 with ⟨rfl, h0⟩ | ⟨g, c, cur, rfl, hbg, hg, hnc, hcm, hcs, htake⟩
  · exact ⟨h.1, .inl ⟨rfl, h0⟩⟩
  · have hlt : g < w.heap.size := (Array.getElem?_eq_some_iff.1 hg).1
    exact ⟨h.1, .inr ⟨g, c, cur, rfl, hbg, (hb.block g hlt).trans hg, hnc, hcm, hcs, htake⟩⟩

theorem Own.lt {base : Nat} {w : World} {v : Value} {ms : List Mem} (h : Own base w v ms) (k : Nat) (hk : v.ownBlock = some k) : base ≤ k ∧ k < w.heap.size := World.ownsRow.lt h k hk

theorem below_grown {base : Nat} {w w1 w2 : World} {v : Value} {ms : List Mem} (hb : Below base w w1) (h : Own base w1 v ms) (hg : w1.grownBy w2 v.ownBlock) (hbase : base ≤ w1.heap.size) : Below base w w2 :=
  hb.grown hg hbase (fun k hk => (h.lt k hk).1)

theorem own_cells {base g c : Nat} {w : World} {ms : List Mem} (h : Own base w (.slice (some ⟨g, 0, none⟩) ms.length c) ms) (j : Nat) (hj : j < ms.length) :
    w.cell? ⟨g, j * 5, none⟩ = some (.string (ms.getD j dm).name) ∧ w.cell? ⟨g, j * 5 + 1, none⟩ = some (.int .i64 (ms.getD j dm).state) ∧ w.cell? ⟨g, j * 5 + 2, none⟩ = some (.int .i64 (ms.getD j dm).life) ∧ w.cell? ⟨g, j * 5 + 3, none⟩ = some (.int .i64 (ms.getD j dm).addr) ∧ w.cell? ⟨g, j * 5 + 4, none⟩ = some (.bool (ms.getD j dm).server) := by
  rcases h.2 with ⟨h1, _⟩ | ⟨g', c', cur, h1, hbg, hg, hnc, hcm, hcs, htake⟩
  · cases h1
  · simp only [Value.slice.injEq, Option.some.injEq, Addr.mk.injEq] at h1
    obtain ⟨⟨rfl, _, _⟩, _, _⟩ := h1
    have hc : ∀ t, t < 5 → w.cell? ⟨g, j * 5 + t, none⟩ = (ms.getD j dm).cs[t]? := fun t ht => by
      rw [cellsAt hg, ← fl_get ms j hj t ht, ← htake, List.getElem?_take_of_lt (by omega)]; simp
    exact ⟨hc 0 (by omega), hc 1 (by omega), hc 2 (by omega), hc 3 (by omega), hc 4 (by omega)⟩

theorem own_form {base : Nat} {w : World} {v : Value} {ms : List Mem} (h : Own base w v ms) (p : Nat) (hp : p < ms.length) : ∃ g c, v = .slice (some ⟨g, 0, none⟩) ms.length c := by
  rcases h.2 with ⟨_, h0⟩ | ⟨g, c, cur, h1, _⟩
  · omega
  · exact ⟨g, c, h1⟩

theorem own_set {base g c p : Nat} {W : World} {ms : List Mem} (h : Own base W (.slice (some ⟨g, 0, none⟩) ms.length c) ms) (hp : p < ms.length) (m : Mem) :
    Own base (((((W.setCell ⟨g, p * 5, none⟩ (.string m.name)).setCell ⟨g, p * 5 + 1, none⟩ (.int .i64 m.state)).setCell ⟨g, p * 5 + 2, none⟩ (.int .i64 m.life)).setCell ⟨g, p * 5 + 3, none⟩ (.int .i64 m.addr)).setCell ⟨g, p * 5 + 4, none⟩ (.bool m.server)) (.slice (some ⟨g, 0, none⟩) ms.length c) (ms.set p m) := by
  have h1 := World.ownsRow.stored h (p * 5) (.string m.name)
  have h2 := World.ownsRow.stored h1.1 (p * 5 + 1) (.int .i64 m.state)
  have h3 := World.ownsRow.stored h2.1 (p * 5 + 2) (.int .i64 m.life)
  have h4 := World.ownsRow.stored h3.1 (p * 5 + 3) (.int .i64 m.addr)
  have h5 := World.ownsRow.stored h4.1 (p * 5 + 4) (.bool m.server)
  have e := h5.1
  rw [fl_set ms p hp m] at e
  show World.ownsRow _ _ _ _ _ (ms.set p m).length _
  rw [List.length_set]
  exact e

theorem Sl.below {w w' : World} {v : Value} {ms : List Mem} (h : Sl w v ms) (hb : Below w.heap.size w w') : Sl w' v ms := by
  obtain ⟨a, cap, rfl, hs, h⟩ := h
  refine ⟨a, cap, rfl, hs, ?_⟩
  rcases h with h | ⟨b, off, rfl, hlt, hr⟩
  · exact .inl h
  · refine .inr ⟨b, off, rfl, Nat.lt_of_lt_of_le hlt hb.size, fun j hj => ?_⟩
    obtain ⟨hc, _⟩ := bcell hb
    obtain ⟨c0, c1, c2, c3, c4⟩ := hr j hj
    exact ⟨(hc _ _ hlt).trans c0, (hc _ _ hlt).trans c1, (hc _ _ hlt).trans c2, (hc _ _ hlt).trans c3, (hc _ _ hlt).trans c4⟩

theorem Row.later {w w' : World} {b off : Nat} {ms : List Mem} (hr : Row w b off ms) (hb : Below w.heap.size w w') (hlt : b < w.heap.size) : Row w' b off ms := fun j hj => by
  obtain ⟨hc, _⟩ := bcell hb
  obtain ⟨c0, c1, c2, c3, c4⟩ := hr j hj
  exact ⟨(hc _ _ hlt).trans c0, (hc _ _ hlt).trans c1, (hc _ _ hlt).trans c2, (hc _ _ hlt).trans c3, (hc _ _ hlt).trans c4⟩

theorem Own.mono {base base' : Nat} {w : World} {v : Value} {ms : List Mem} (h : Own base w v ms) (hb : base' ≤ base) : Own base' w v ms := by
  rcases h.2 with ⟨rfl, h0⟩ | ⟨g, c, cur, rfl, hbg, hg, hnc, hcm, hcs, htake⟩
  · exact ⟨h.1, .inl ⟨rfl, h0⟩⟩
  · exact ⟨h.1, .inr ⟨g, c, cur, rfl, Nat.le_trans hb hbg, hg, hnc, hcm, hcs, htake⟩⟩

theorem own_nil (base : Nat) (w : World) : Own base w (.slice none 0 0) [] := World.ownsRow_nil w base 55 5

theorem ns_mem {ms : List Mem} (h : ∀ j, (ms.getD j dm).name.size ≤ maxLen) : ∀ m ∈ ms, (m).name.size ≤ maxLen := by
  intro m hm
  obtain ⟨j, hj, rfl⟩ := List.getElem_of_mem hm
  have := h j
  simpa [List.getD, List.getElem?_eq_getElem hj] using this
theorem ns_get {ms : List Mem} (h : ∀ m ∈ ms, (m).name.size ≤ maxLen) : ∀ j, (ms.getD j dm).name.size ≤ maxLen := by
  intro j
  by_cases hj : j < ms.length
  · have := h ms[j] (List.getElem_mem hj)
    simpa [List.getD, List.getElem?_eq_getElem hj] using this
  · simp [List.getD, List.getElem?_eq_none (Nat.le_of_not_lt hj), dm]

theorem own_names {base : Nat} {w : World} {v : Value} {ms : List Mem} (h : Own base w v ms) (hs : ∀ m ∈ ms, (m).name.size ≤ maxLen) : Sl w v ms := h.sl (ns_get hs)

theorem sl_one (w : World) (b cap : Nat) (m : Mem) (hm : (m).name.size ≤ maxLen) (hg : w.heap[b]? = some (.cells #[.string m.name, .int .i64 m.state, .int .i64 m.life, .int .i64 m.addr, .bool m.server] 55 (0, 0))) : Sl w (.slice (some ⟨b, 0, none⟩) 1 cap) [m] := by
  refine ⟨_, cap, rfl, ns_get (fun x hx => by simp at hx; subst hx; exact hm), .inr ⟨b, 0, rfl, (Array.getElem?_eq_some_iff.1 hg).1, fun j hj => ?_⟩⟩
  have : j = 0 := by simpa using hj
  subst this
  exact ⟨cellsAt hg (0 + 0 * 5), cellsAt hg (0 + 0 * 5 + 1), cellsAt hg (0 + 0 * 5 + 2), cellsAt hg (0 + 0 * 5 + 3), cellsAt hg (0 + 0 * 5 + 4)⟩

theorem own_snoc {base : Nat} {w : World} {v : Value} {L : List Mem} {m : Mem} (h : w.ownsRow base 55 5 v (L.length + 1) (fl L ++ m.cs)) : Own base w v (L ++ [m]) := by
  have e : fl (L ++ [m]) = fl L ++ m.cs := by rw [fl_append, fl_cons]; simp [fl]
  show w.ownsRow base 55 5 v (L ++ [m]).length (fl (L ++ [m]))
  rw [e, List.length_append]
  exact h


end Go.Proofs.YtdfkpehggecbaaaGreatDoor

/- Orders by texts, numbers and truths, and one behind the other. -/
namespace Go.Proofs.YtdfkpehggecbaaaGreatDoor
open Go.RowKit

theorem cmpI_self (a : ByteArray) : cmpI a a = 0 := (cmpI_eq a a).2 rfl
theorem cmpI_flip (a b : ByteArray) : 0 < cmpI a b ↔ cmpI b a < 0 := by rw [cmpI_gt, cmpI_lt]
theorem cmpI_trans (a b c : ByteArray) (h1 : cmpI a b < 0) (h2 : cmpI b c < 0) : cmpI a c < 0 := by
  rw [cmpI_lt] at *; exact less_trans h1 h2

namespace RL
section
variable {α : Type}
theorem keyed_txt (f : α → ByteArray) : Keyed fun a b => cmpI (f a) (f b) where
  refl a := cmpI_self _
  gt a b := cmpI_flip _ _
  trans a b c h1 h2 := cmpI_trans _ _ _ h1 h2
  left a b c h := by rw [(cmpI_eq _ _).1 h]
  right a b c h := by rw [(cmpI_eq _ _).1 h]
theorem keyed_int (f : α → Int) : Keyed fun a b => f a - f b where
  refl a := by omega
  gt a b := by constructor <;> intro h <;> omega
  trans a b c h1 h2 := by omega
  left a b c h := by omega
  right a b c h := by omega
def bI (b : Bool) : Int := if b = true then 1 else 0
theorem bI_inj {a b : Bool} (h : bI a - bI b = 0) : a = b := by cases a <;> cases b <;> simp [bI] at h ⊢
/-- First by the one, then by the other. -/
def lex (o p : α → α → Int) (a b : α) : Int := if o a b = 0 then p a b else o a b
theorem keyed_lex {o p : α → α → Int} (h : Keyed o) (k : Keyed p) : Keyed (lex o p) where
  refl a := by rw [lex, if_pos (h.refl a), k.refl a]
  gt a b := by
    unfold lex
    by_cases e : o a b = 0
    · rw [if_pos e, if_pos (h.symm e)]; exact k.gt a b
    · rw [if_neg e, if_neg (fun e2 => e (h.symm e2))]; exact h.gt a b
  trans a b c h1 h2 := by
    unfold lex at *
    by_cases e : o a b = 0
    · rw [if_pos e] at h1
      by_cases e2 : o b c = 0
      · rw [if_pos e2] at h2
        rw [if_pos (h.eqt e e2)]; exact k.trans _ _ _ h1 h2
      · rw [if_neg e2] at h2
        rw [if_neg (fun e3 => e2 (h.eqt (h.symm e) e3)), h.left a b c e]; exact h2
    · rw [if_neg e] at h1
      by_cases e2 : o b c = 0
      · rw [if_neg (fun e3 => e (h.eqt e3 (h.symm e2))), ← h.right b c a e2]; exact h1
      · rw [if_neg e2] at h2
        have h3 := h.trans _ _ _ h1 h2
        rw [if_neg (by omega)]; exact h3
  left a b c e := by
    unfold lex at *
    by_cases e1 : o a b = 0
    · rw [if_pos e1] at e
      rw [h.left a b c e1, k.left a b c e]
    · rw [if_neg e1] at e; exact absurd e e1
  right a b c e := by
    unfold lex at *
    by_cases e1 : o a b = 0
    · rw [if_pos e1] at e
      rw [h.right a b c e1, k.right a b c e]
    · rw [if_neg e1] at e; exact absurd e e1
theorem lex_zero {o p : α → α → Int} {a b : α} (h : lex o p a b = 0) : o a b = 0 ∧ p a b = 0 := by
  unfold lex at h
  by_cases e : o a b = 0
  · rw [if_pos e] at h; exact ⟨e, h⟩
  · rw [if_neg e] at h; exact absurd h e
theorem newest_of {o p : α → α → Int} (k : Keyed p) (hz : ∀ a b, o a b = 0 → p a b = 0 → a = b) : Newest o fun a b => decide (0 < p a b) where
  irrefl a := by simp [k.refl a]
  trans a b c h1 h2 := by
    rw [decide_eq_true_eq] at *
    rw [k.gt] at *
    exact k.trans _ _ _ h2 h1
  total a b e h1 h2 := by
    rw [decide_eq_false_iff_not] at *
    refine hz a b e ?_
    have := k.gt b a
    omega
end
end RL
end Go.Proofs.YtdfkpehggecbaaaGreatDoor

