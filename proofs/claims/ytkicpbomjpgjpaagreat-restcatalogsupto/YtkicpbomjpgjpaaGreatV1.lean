/- CI, LV, RL -/
import Derived.WalkKit
import Derived.Test.YtkicpbomjpgjpaaGreatProg
import Derived.WalkSpells
import Derived.WalkLawsBesides
import Derived.Deep.QuietTactic
import Derived.BigQuiet
import Derived.Lib.Bytealg
import Derived.Shelf.RegionOpenPlain
import Derived.Lib.AppendZerosOnto
import Derived.Lib.Overlaps
import Derived.Laws.CopyRow
import Derived.Laws.Externs
import Derived.Laws.NewBlocks
import Derived.Deep.RegionWith
/- Pieces of a function's text. -/
namespace Go.Proofs.YtkicpbomjpgjpaaGreat
open Go.RowKit

/-- The region of that number in a text; the block of that number. -/
def regIn (n : Nat) : Code → Option Code
  | .region m ops d => if m = n then some (.region m ops d) else none
  | .loop c => regIn n c
  | .seq a b => match regIn n a with
    | some c => some c
    | none => regIn n b
  | .block _ c => regIn n c
  | .cond _ a b => match regIn n a with
    | some c => some c
    | none => regIn n b
  | _ => none
def blkIn (n : Nat) : Code → Option Code
  | .loop c => blkIn n c
  | .seq a b => match blkIn n a with
    | some c => some c
    | none => blkIn n b
  | .block m c => if m = n then some (.block m c) else blkIn n c
  | .cond _ a b => match blkIn n a with
    | some c => some c
    | none => blkIn n b
  | _ => none

end Go.Proofs.YtkicpbomjpgjpaaGreat

/- Leaves: labels, numbers within bounds, texts and their order; what the builtin copy does. -/
namespace Go.Proofs.YtkicpbomjpgjpaaGreat
open Go.RowKit

def within (n a b : Int) : Bool := decide (a ≤ n) && decide (n ≤ b)

def lbB (n : Int) : Bool := (decide (97 ≤ n) && decide (n ≤ 122)) || (decide (48 ≤ n) && decide (n ≤ 57)) || decide (n = 45) || decide (n = 95)

/-- A LABEL of chapter 1. -/
def labB (s : ByteArray) : Bool := decide (1 ≤ s.size) && decide (s.size ≤ 30) && s.data.toList.all (fun c => lbB c.toNat)

theorem ret_bool {a b : Bool} (h : a = b) : Ending.returned (.bool a) = .returned (.bool b) := by rw [h]
theorem ret_int {k : IntKind} {a b : Int} (h : a = b) : Ending.returned (.int k a) = .returned (.int k b) := by rw [h]
theorem take_snoc (s : ByteArray) (k : Nat) (h : k < s.size) : s.data.toList.take (k + 1) = s.data.toList.take k ++ [s[k]] := by
  rw [List.take_succ_eq_append_getElem (by simpa using h)]; rfl
theorem take_all (s : ByteArray) (k : Nat) (h : s.size ≤ k) : s.data.toList.take k = s.data.toList :=
  List.take_of_length_le (by simpa using h)
theorem labs_step (s : ByteArray) (k : Nat) (h : k < s.size) (hk : (s.data.toList.take k).all (fun c => lbB c.toNat) = true) (hb : lbB (s[k].toNat : Int) = true) :
    (s.data.toList.take (k + 1)).all (fun c => lbB c.toNat) = true := by
  rw [take_snoc s k h, List.all_append, hk]; simp [hb]
theorem labs_not (s : ByteArray) (k : Nat) (h : k < s.size) (hb : lbB (s[k].toNat : Int) = false) : labB s = false := by
  have : s.data.toList.all (fun c => lbB c.toNat) = false := by
    rw [List.all_eq_false]
    refine ⟨s[k], ?_, by simp [hb]⟩
    exact List.getElem_mem (l := s.data.toList) (n := k) (by simpa using h)
  simp [labB, this]

set_option maxHeartbeats 400000 in
theorem within_any (n a b : Int) (w : World) :
    Calls Tryz.prog 62 #[.int .i64 n, .int .i64 a, .int .i64 b] w fun e w' => e = .returned (.bool (within n a b)) ∧ w' = w := by
  go_enter Tryz.func62, Tryz.ntmps62
  go_wp2
  all_goals
    go_ret
    exact ⟨ret_bool (by unfold within; rw [Bool.eq_iff_iff]; simp; try omega), rfl⟩

set_option maxHeartbeats 400000 in
theorem between_any (n a b : Int) (w : World) :
    Calls Tryz.prog 49 #[.int .i64 n, .int .i64 a, .int .i64 b] w fun e w' => e = .returned (.bool (within n a b)) ∧ w' = w := by
  go_enter Tryz.func49, Tryz.ntmps49
  go_wp2
  all_goals
    go_ret
    exact ⟨ret_bool (by unfold within; rw [Bool.eq_iff_iff]; simp; try omega), rfl⟩

set_option maxHeartbeats 400000 in
theorem address_any (n : Int) (w : World) :
    Calls Tryz.prog 80 #[.int .i64 n] w fun e w' => e = .returned (.bool (within n 0 4294967295)) ∧ w' = w := by
  go_enter Tryz.func80, Tryz.ntmps80
  go_wp2_with (go_at_call 62; refine (within_any _ _ _ _).mono ?_; rintro e w' ⟨rfl, rfl⟩)
  go_ret
  exact ⟨rfl, rfl⟩

set_option maxHeartbeats 400000 in
theorem isAddress_any (n : Int) (w : World) :
    Calls Tryz.prog 48 #[.int .i64 n] w fun e w' => e = .returned (.bool (within n 0 4294967295)) ∧ w' = w := by
  go_enter Tryz.func48, Tryz.ntmps48
  go_wp2_with (go_at_call 49; refine (between_any _ _ _ _).mono ?_; rintro e w' ⟨rfl, rfl⟩)
  go_ret
  exact ⟨rfl, rfl⟩

set_option maxHeartbeats 800000 in
theorem labelByte_any (n : Int) (w : World) :
    Calls Tryz.prog 63 #[.int .u8 n] w fun e w' => e = .returned (.bool (lbB n)) ∧ w' = w := by
  go_enter Tryz.func63, Tryz.ntmps63
  go_wp2
  all_goals
    go_ret
    exact ⟨ret_bool (by unfold lbB; rw [Bool.eq_iff_iff]; simp; try omega), rfl⟩

set_option maxHeartbeats 800000 in
theorem label_any (s : ByteArray) (w : World) (hs : s.size ≤ maxLen) :
    Calls Tryz.prog 29 #[.string s] w fun e w' => e = .returned (.bool (labB s)) ∧ w' = w := by
  unfold maxLen at hs
  by_cases hz : within (s.size : Int) 1 30 = true
  · have hz' : 1 ≤ s.size ∧ s.size ≤ 30 := by simp [within] at hz; omega
    go_enter Tryz.func29, Tryz.ntmps29
    go_wp2_with (go_at_call 62; refine (within_any _ _ _ _).mono ?_; rintro e w' ⟨rfl, rfl⟩; rw [hz])
    go_loop [10] (fun i => ∃ k : Nat, k ≤ s.size ∧ i = .int .i64 k ∧ (s.data.toList.take k).all (fun c => lbB c.toNat) = true) (fun i => s.size - (intOf i).toNat)
    case atStart => exact ⟨0, Nat.zero_le _, rfl, rfl⟩
    case round =>
      obtain ⟨k, hk, rfl, hall⟩ := hrel
      have HA : Hid ((s.data.toList.take k).all (fun c => lbB c.toNat) = true) := hall
      clear hall
      by_cases hlt : k < s.size
      · by_cases hb : lbB (s[k].toNat : Int) = true
        · go_wp2_with (go_at_call 63; refine (labelByte_any _ _).mono ?_; rintro e w' ⟨rfl, rfl⟩; rw [hb])
          go_round
          case rel => exact ⟨k + 1, by omega, by go_num, labs_step s k hlt HA.out hb⟩
          case measure => simp [intOf]; omega
        · have hb' : lbB (s[k].toNat : Int) = false := by simpa using hb
          go_wp2_with (go_at_call 63; refine (labelByte_any _ _).mono ?_; rintro e w' ⟨rfl, rfl⟩; rw [hb'])
          go_ret
          exact ⟨ret_bool (labs_not s k hlt hb').symm, rfl⟩
      · go_wp2
        go_ret
        have h2 := HA.out
        rw [take_all s k (by omega)] at h2
        exact ⟨ret_bool (by simp [labB, h2, hz'.1, hz'.2]), rfl⟩
  · have hz' : within (s.size : Int) 1 30 = false := by simpa using hz
    go_enter Tryz.func29, Tryz.ntmps29
    go_wp2_with (go_at_call 62; refine (within_any _ _ _ _).mono ?_; rintro e w' ⟨rfl, rfl⟩; rw [hz'])
    go_ret
    refine ⟨ret_bool ?_, rfl⟩
    symm
    simp only [within, Bool.and_eq_false_iff, decide_eq_false_iff_not] at hz'
    simp only [labB, Bool.and_eq_false_iff, decide_eq_false_iff_not]
    rcases hz' with h | h
    · exact .inl (.inl (by omega))
    · exact .inl (.inr (by omega))

theorem lbB_iff (n : Int) : lbB n = true ↔ (97 ≤ n ∧ n ≤ 122) ∨ (48 ≤ n ∧ n ≤ 57) ∨ n = 45 ∨ n = 95 := by
  unfold lbB; simp [or_assoc]
theorem lbB_not (n : Int) : lbB n = false ↔ ¬ ((97 ≤ n ∧ n ≤ 122) ∨ (48 ≤ n ∧ n ≤ 57) ∨ n = 45 ∨ n = 95) := by
  rw [← lbB_iff]; simp

set_option maxHeartbeats 1600000 in
theorem isLabel_any (s : ByteArray) (w : World) (hs : s.size ≤ maxLen) :
    Calls Tryz.prog 47 #[.string s] w fun e w' => e = .returned (.bool (labB s)) ∧ w' = w := by
  unfold maxLen at hs
  go_enter Tryz.func47, Tryz.ntmps47
  go_wp2
  go_loop [3] (fun i => ∃ k : Nat, k ≤ s.size ∧ i = .int .i64 k ∧ (s.data.toList.take k).all (fun c => lbB c.toNat) = true) (fun i => s.size - (intOf i).toNat)
  case atStart => exact ⟨0, Nat.zero_le _, rfl, rfl⟩
  case round =>
    obtain ⟨k, hk, rfl, hall⟩ := hrel
    have HA : Hid ((s.data.toList.take k).all (fun c => lbB c.toNat) = true) := hall
    clear hall
    by_cases hlt : k < s.size
    · have hstep := labs_step s k hlt HA.out
      have hnot := labs_not s k hlt
      have H1 : Hid (lbB (s[k].toNat : Int) = true → (s.data.toList.take (k + 1)).all (fun c => lbB c.toNat) = true) := hstep
      have H2 : Hid (lbB (s[k].toNat : Int) = false → labB s = false) := hnot
      clear hstep hnot
      go_wp2
      all_goals first
        | (go_ret
           exact ⟨ret_bool (H2.out ((lbB_not _).2 (by simp at *; omega))).symm, rfl⟩)
        | (refine ⟨⟨k + 1, by omega, by go_num, H1.out ((lbB_iff _).2 ?_)⟩, by simp [intOf]; omega⟩
           simp at *
           omega)
    · have h2 := HA.out
      rw [take_all s k (by omega)] at h2
      have H3 : Hid (s.data.toList.all (fun c => lbB c.toNat) = true) := h2
      clear h2
      go_wp2
      all_goals
        go_ret
        refine ⟨ret_bool ?_, rfl⟩
        unfold labB
        rw [H3.out, Bool.eq_iff_iff]
        simp
        try omega

theorem bcell {W w1 : World} (hb : Below W.heap.size W w1) : (∀ b o, b < W.heap.size → w1.cell? ⟨b, o, none⟩ = W.cell? ⟨b, o, none⟩) ∧ (∀ b o, b < W.heap.size → w1.frozen? ⟨b, o, none⟩ = W.frozen? ⟨b, o, none⟩) :=
  ⟨fun b o h => hb.cell (p := ⟨b, o, none⟩) h, fun b o h => hb.frozen (p := ⟨b, o, none⟩) h⟩

def less (a b : ByteArray) : Bool := Op.bytesLess a.toList b.toList

theorem bl_irrefl : ∀ a : List UInt8, Op.bytesLess a a = false
  | [] => rfl
  | x :: r => by simp [Op.bytesLess, bl_irrefl r]

theorem bl_total : ∀ a b : List UInt8, (!(Op.bytesLess a b)) = (Op.bytesLess b a || b == a)
  | [], [] => rfl
  | [], _ :: _ => rfl
  | _ :: _, [] => rfl
  | x :: r, y :: t => by
    have := bl_total r t
    by_cases h1 : x < y
    · have h2 : ¬ y < x := by rw [UInt8.lt_iff_toNat_lt] at *; omega
      have h3 : ¬ y = x := by rintro rfl; rw [UInt8.lt_iff_toNat_lt] at *; omega
      simp [Op.bytesLess, h1, h2, h3]
    · by_cases h2 : y < x
      · have h3 : ¬ y = x := by rintro rfl; rw [UInt8.lt_iff_toNat_lt] at *; omega
        have h4 : ¬ x = y := fun h => h3 h.symm
        simp [Op.bytesLess, h1, h2, h4]
      · have h3 : y = x := by
          apply UInt8.toNat_inj.1
          rw [UInt8.lt_iff_toNat_lt] at *; omega
        subst h3
        simp [Op.bytesLess]
        simpa using this

def cmpI (a b : ByteArray) : Int := Lib.compareBytes a.data.toList b.data.toList

theorem cmpstring_run (a b : ByteArray) (w : World) : (callFunc 98 #[.string a, .string b]).run Tryz.prog w = .ok (.value (.int .i64 (cmpI a b))) w := by
  rw [run_callFunc_extern Tryz.func98 (by kernel_rfl) (by kernel_rfl) (by kernel_rfl) (e := Extern.BytealgCompare.compare) (by kernel_rfl), Lib.run_compareString]
  rfl

set_option maxHeartbeats 400000 in
theorem compare_any (a b : ByteArray) (w : World) :
    Calls Tryz.prog 43 #[.string a, .string b] w fun e w' => e = .returned (.int .i64 (cmpI a b)) ∧ w' = w := by
  have hc := cmpstring_run
  go_enter Tryz.func43, Tryz.ntmps43
  go_wp2
  go_ret
  exact ⟨rfl, rfl⟩

theorem cb_lt : ∀ a b : List UInt8, Lib.compareBytes a b < 0 ↔ Op.bytesLess a b = true
  | [], [] => by simp [Lib.compareBytes, Op.bytesLess]
  | [], _ :: _ => by simp [Lib.compareBytes, Op.bytesLess]
  | _ :: _, [] => by simp [Lib.compareBytes, Op.bytesLess]
  | x :: r, y :: t => by
    have ih := cb_lt r t
    by_cases h1 : x < y
    · simp [Lib.compareBytes, Op.bytesLess, h1]
    · by_cases h2 : y < x
      · have h3 : ¬ x = y := by rintro rfl; exact h1 h2
        simp [Lib.compareBytes, Op.bytesLess, h1, h2, h3]
      · have h3 : x = y := by
          apply UInt8.toNat_inj.1
          rw [UInt8.lt_iff_toNat_lt] at *; omega
        subst h3
        simpa [Lib.compareBytes, Op.bytesLess] using ih

theorem cb_eq : ∀ a b : List UInt8, Lib.compareBytes a b = 0 ↔ a = b
  | [], [] => by simp [Lib.compareBytes]
  | [], _ :: _ => by simp [Lib.compareBytes]
  | _ :: _, [] => by simp [Lib.compareBytes]
  | x :: r, y :: t => by
    have ih := cb_eq r t
    by_cases h1 : x < y
    · have h3 : ¬ x = y := by rintro rfl; rw [UInt8.lt_iff_toNat_lt] at *; omega
      simp [Lib.compareBytes, h1, h3]
    · by_cases h2 : y < x
      · have h3 : ¬ x = y := by rintro rfl; exact h1 h2
        simp [Lib.compareBytes, h1, h2, h3]
      · have h3 : x = y := by
          apply UInt8.toNat_inj.1
          rw [UInt8.lt_iff_toNat_lt] at *; omega
        subst h3
        simpa [Lib.compareBytes] using ih

theorem bl_trans : ∀ a b c : List UInt8, Op.bytesLess a b = true → Op.bytesLess b c = true → Op.bytesLess a c = true
  | [], [], _, h, _ => by simp [Op.bytesLess] at h
  | [], _ :: _, [], _, h => by simp [Op.bytesLess] at h
  | [], _ :: _, _ :: _, _, _ => by simp [Op.bytesLess]
  | _ :: _, [], _, h, _ => by simp [Op.bytesLess] at h
  | _ :: _, _ :: _, [], _, h => by simp [Op.bytesLess] at h
  | x :: r, y :: t, z :: u, h1, h2 => by
    have ih := bl_trans r t u
    simp only [Op.bytesLess, Bool.or_eq_true, Bool.and_eq_true, decide_eq_true_eq, beq_iff_eq] at h1 h2 ⊢
    rcases h1 with h1 | ⟨rfl, h1⟩
    · rcases h2 with h2 | ⟨rfl, h2⟩
      · left; rw [UInt8.lt_iff_toNat_lt] at *; omega
      · left; exact h1
    · rcases h2 with h2 | ⟨rfl, h2⟩
      · left; exact h2
      · right; exact ⟨rfl, ih h1 h2⟩

theorem ba_ext {a b : ByteArray} (h : a.data.toList = b.data.toList) : a = b := by
  obtain ⟨⟨la⟩⟩ := a; obtain ⟨⟨lb⟩⟩ := b; simp at h; subst h; rfl

theorem cmpI_lt (a b : ByteArray) : cmpI a b < 0 ↔ less a b = true := by
  unfold cmpI less; rw [Lib.toList_data, Lib.toList_data]; exact cb_lt _ _
theorem cmpI_eq (a b : ByteArray) : cmpI a b = 0 ↔ a = b := by
  unfold cmpI; rw [cb_eq]; exact ⟨ba_ext, fun h => by rw [h]⟩
theorem less_trans {a b c : ByteArray} (h1 : less a b = true) (h2 : less b c = true) : less a c = true := bl_trans _ _ _ h1 h2
theorem less_irrefl (a : ByteArray) : less a a = false := bl_irrefl _
theorem less_total (a b : ByteArray) : less a b = true ∨ a = b ∨ less b a = true := by
  have h := bl_total a.toList b.toList
  unfold less
  cases h1 : Op.bytesLess a.toList b.toList
  · rw [h1] at h
    cases h2 : Op.bytesLess b.toList a.toList
    · rw [h2] at h
      right; left
      have : b.toList = a.toList := by simpa using h.symm
      rw [Lib.toList_data, Lib.toList_data] at this
      exact (ba_ext this).symm
    · right; right; rfl
  · left; rfl
theorem less_asymm {a b : ByteArray} (h1 : less a b = true) : less b a = false := by
  cases h : less b a
  · rfl
  · have := less_trans h1 h; rw [less_irrefl] at this; cases this
theorem cmpI_gt (a b : ByteArray) : 0 < cmpI a b ↔ less b a = true := by
  have h1 := cmpI_lt a b
  have h2 := cmpI_eq a b
  rcases less_total a b with h | rfl | h
  · have := h1.2 h
    rw [less_asymm h]
    simp; omega
  · rw [less_irrefl]; have := h2.2 rfl; simp; omega
  · rw [h]
    have h3 : ¬ cmpI a b < 0 := fun hh => by rw [h1, less_asymm h] at hh; cases hh
    have h4 : ¬ cmpI a b = 0 := fun hh => by rw [h2] at hh; subst hh; rw [less_irrefl] at h; cases h
    simp; omega

theorem run_copy_k {P : Program} (w : World) (dT sT ty elem : TypeId) (g o dLen dCap : Nat) (a : Addr) (sLen sCap k : Nat) (cur : Array Value) (t : TypeId) (cs : List Value)
    (hu : P.underlying dT = some (.slice elem)) (hs : (P.info? elem).map (·.size) = some k)
    (hg : w.heap[g]? = some (.cells cur t (0, 0))) (hn : cs.length = Nat.min sLen dLen * k)
    (hsrc : ∀ j v, cs[j]? = some v → w.cell? (a.add j) = some v) (hfit : o + cs.length ≤ cur.size) (h1 : ∀ v ∈ cs, v.oneCell' = true) :
    (Builtin.copy_ #[dT, sT] ty #[.slice (some ⟨g, o, none⟩) dLen dCap, .slice (some a) sLen sCap]).run P w =
      .ok (goInt (Nat.min sLen dLen)) (w.setRow g (cur.toList.take o ++ cs ++ cur.toList.drop (o + cs.length)).toArray) := by
  have hl := run_loadCells_list (P := P) w a cs hsrc
  have hst := run_storeCells_at P g o t cs 0 cur w hg (by simpa using hfit) h1
  cases hq : P.info? elem with
  | none => simp [hq] at hs
  | some i =>
    have hi : i.size = k := by simpa [hq] using hs
    simp [Builtin.copy_, run_underlying hu, Builtin.lenOf, Builtin.firstCells, sizeOf, typeInfo, hq, hi, ← hn, hl, hst]

theorem wpList_copy_runM {P : Program} (w : World) {ops : Array Oper} {rest : List Oper} {o : Oper} {a : Act} {Q : Exit → Act → World → Prop} (hgd : o.guard = none) (d s : Operand) (t t' : TypeId)
    (ho : o.op = .call { callee := .builtin .copy, args := #[d, s], argTypes := #[t, t'] }) (v u : Value) (hd : a.eval d = v) (hs : a.eval s = u) {v' : Value} {w' : World}
    (hr : (Builtin.copy_ #[t, t'] o.type #[v, u]).run P w = .ok v' w') (h : wpList P ops Q rest (a.put o.dst v') w') : wpList P ops Q (o :: rest) a w := by
  refine wpList_plain hgd fun _ hK => ?_
  unfold Oper.wp execOp
  simp only [ho, resolve, invoke, builtin, Sem.run_bind, Sem.run_pure, Result.andThen_ok, List.map_toArray, List.map_cons, List.map_nil, hd, hs, hr]
  exact hK _ _ h

theorem step_copy_runM {P : Program} {ops : Array Oper} {o : Oper} {a : Act} {w : World} {K : Act → World → Prop} {Q : Exit → Act → World → Prop} {E : Prop}
    (hg : o.guard = none) (d x : Operand) (dT sT : TypeId) (hop : o.op = Op.call { callee := Callee.builtin Builtin.copy, args := #[d, x], argTypes := #[dT, sT] })
    (v u : Value) (hd : a.eval d = v) (hx : a.eval x = u) {v' : Value} {w' : World} (hr : (Builtin.copy_ #[dT, sT] o.type #[v, u]).run P w = .ok v' w') (hK : K (a.put o.dst v') w') :
    if Region.wanted o (yielded ops a.tmps) = true then Oper.wp P o a w K Q else E := by
  have hw : Region.wanted o (yielded ops a.tmps) = true := by simp [Region.wanted, hg]
  rw [if_pos hw]
  unfold Oper.wp
  simp [execOp, hop, resolve, invoke, builtin, hd, hx, hr, Result.andThen]
  exact hK

theorem cellsAt {w : World} {g : Nat} {cur : Array Value} {t : TypeId} {fr : Nat × Nat} (hg : w.heap[g]? = some (.cells cur t fr)) (o : Nat) : w.cell? ⟨g, o, none⟩ = cur[o]? := by
  simp [World.cell?, hg]

theorem beq_name {a b : ByteArray} (h : a ≠ b) : (a.toList == b.toList) = false ∧ ¬ a.toList = b.toList := by
  have h2 : ¬ a.toList = b.toList := fun e => h (ba_ext (by rw [Lib.toList_data, Lib.toList_data] at e; exact e))
  exact ⟨by simpa using h2, h2⟩

theorem cell_topL {W : World} {cs : Array Value} {t : TypeId} {g k : Nat} (hg : g = W.heap.size) : (W.alloc (.cells cs t)).cell? ⟨g, k, none⟩ = cs[k]? := by subst hg; simp
theorem grown_any {w w' : World} (h : w.grownBy w' none) (row : Option Nat) : w.grownBy w' row := ⟨h.os, h.tape, h.output, h.size, fun k hk _ => h.block k hk (by simp)⟩

end Go.Proofs.YtkicpbomjpgjpaaGreat

/- Lists that rise by a key, one of each key, and of which the newer ones stay when they are joined: plain lists of whatever elements. -/
namespace Go.Proofs.YtkicpbomjpgjpaaGreat
namespace RL

section
variable {α : Type}

/-- An order that compares keys alone. -/
structure Keyed (o : α → α → Int) : Prop where
  refl : ∀ a, o a a = 0
  gt : ∀ a b, 0 < o a b ↔ o b a < 0
  trans : ∀ a b c, o a b < 0 → o b c < 0 → o a c < 0
  left : ∀ a b c, o a b = 0 → o a c = o b c
  right : ∀ a b c, o a b = 0 → o c a = o c b

/-- Which of two of one key is newer. -/
structure Newest (o : α → α → Int) (nw : α → α → Bool) : Prop where
  irrefl : ∀ a, nw a a = false
  trans : ∀ a b c, nw a b = true → nw b c = true → nw a c = true
  total : ∀ a b, o a b = 0 → nw a b = false → nw b a = false → a = b

theorem Keyed.symm {o : α → α → Int} (h : Keyed o) {a b : α} (e : o a b = 0) : o b a = 0 := by
  have h1 := h.gt a b
  have h2 := h.gt b a
  rcases Int.lt_trichotomy (o b a) 0 with hl | he | hg
  · have := h1.2 hl; omega
  · exact he
  · have := h2.1 hg; omega
theorem Keyed.eqt {o : α → α → Int} (h : Keyed o) {a b c : α} (e : o a b = 0) (f : o b c = 0) : o a c = 0 := by rw [h.left a b c e]; exact f

variable (o : α → α → Int) (nw : α → α → Bool) (d : α)

/-- Each one is less than those behind it. -/
abbrev Rise (ms : List α) : Prop := ms.Pairwise fun a b => o a b < 0

def risesB : List α → Bool
  | [] => true
  | [_] => true
  | a :: b :: r => decide (o a b < 0) && risesB (b :: r)

theorem rise_of (hk : Keyed o) : ∀ ms : List α, risesB o ms = true → Rise o ms
  | [], _ => .nil
  | [x], _ => by simp [Rise]
  | a :: b :: r, h => by
    rw [risesB, Bool.and_eq_true, decide_eq_true_eq] at h
    have ih := rise_of hk (b :: r) h.2
    refine List.pairwise_cons.2 ⟨fun c hc => ?_, ih⟩
    rcases List.mem_cons.1 hc with rfl | hc
    · exact h.1
    · exact hk.trans _ _ _ h.1 (List.rel_of_pairwise_cons ih hc)

theorem rises_of : ∀ ms : List α, Rise o ms → risesB o ms = true
  | [], _ => rfl
  | [x], _ => rfl
  | a :: b :: r, h => by
    rw [risesB, Bool.and_eq_true, decide_eq_true_eq]
    exact ⟨List.rel_of_pairwise_cons h (by simp), rises_of (b :: r) (List.Pairwise.of_cons h)⟩

theorem rises_all : ∀ ms : List α, (∀ j, j + 1 < ms.length → o (ms.getD j d) (ms.getD (j + 1) d) < 0) → risesB o ms = true
  | [], _ => rfl
  | [x], _ => rfl
  | a :: b :: r, h => by
    rw [risesB, Bool.and_eq_true, decide_eq_true_eq]
    refine ⟨by have := h 0 (by simp); simpa using this, rises_all (b :: r) fun j hj => ?_⟩
    have := h (j + 1) (by simpa using hj)
    simpa using this

theorem rises_get : ∀ ms : List α, risesB o ms = true → ∀ j, j + 1 < ms.length → o (ms.getD j d) (ms.getD (j + 1) d) < 0
  | [], _, j, hj => by simp at hj
  | [x], _, j, hj => by simp at hj
  | a :: b :: r, h, 0, _ => by
    rw [risesB, Bool.and_eq_true, decide_eq_true_eq] at h
    simpa using h.1
  | a :: b :: r, h, j + 1, hj => by
    rw [risesB, Bool.and_eq_true, decide_eq_true_eq] at h
    have := rises_get (b :: r) h.2 j (by simpa using hj)
    simpa using this

theorem getD_el {ms : List α} {i : Nat} (h : i < ms.length) : ms.getD i d = ms[i] := by simp [List.getD, List.getElem?_eq_getElem h]

theorem rise_lt {ms : List α} (h : Rise o ms) {i j : Nat} (hij : i < j) (hj : j < ms.length) : o (ms.getD i d) (ms.getD j d) < 0 := by
  rw [getD_el d (show i < ms.length by omega), getD_el d hj]
  exact List.pairwise_iff_getElem.1 h i j (by omega) hj hij

theorem rise_mono (hk : Keyed o) {ms : List α} (h : Rise o ms) (t : α) : ∀ i j, i ≤ j → j < ms.length → o (ms.getD j d) t < 0 → o (ms.getD i d) t < 0 := by
  intro i j hij hj hlt
  rcases Nat.lt_or_eq_of_le hij with hlt' | rfl
  · exact hk.trans _ _ _ (rise_lt o d h hlt' hj) hlt
  · exact hlt

/-- Where the one with the key of t is, or would be. -/
structure At (ms : List α) (t : α) (p : Nat) (f : Bool) : Prop where
  le : p ≤ ms.length
  lo : ∀ j, j < p → o (ms.getD j d) t < 0
  hi : ∀ j, p ≤ j → j < ms.length → 0 ≤ o (ms.getD j d) t
  is : f = true ↔ p < ms.length ∧ o (ms.getD p d) t = 0

theorem at_any (hk : Keyed o) (ms : List α) (hr : Rise o ms) (t : α) : ∃ p f, At o d ms t p f := by
  induction ms with
  | nil => exact ⟨0, false, by simp, fun j h => by omega, fun j h h2 => by simp at h2, by simp⟩
  | cons x r ih =>
    have hx := List.pairwise_cons.1 hr
    by_cases hlt : o x t < 0
    · obtain ⟨p, f, h⟩ := ih hx.2
      refine ⟨p + 1, f, by have := h.le; simpa using this, fun j hj => ?_, fun j hj hl => ?_, by have := h.is; simpa using this⟩
      · cases j with
        | zero => simpa using hlt
        | succ j => have := h.lo j (by omega); simpa using this
      · cases j with
        | zero => omega
        | succ j => have := h.hi j (by omega) (by simpa using hl); simpa using this
    · refine ⟨0, decide (o x t = 0), by simp, fun j hj => by omega, fun j _ hl => ?_, by simp⟩
      apply Int.not_lt.1
      intro hq
      have := rise_mono o d hk hr t 0 j (by omega) hl hq
      simp at this
      omega

theorem at_uniq {ms : List α} {t : α} {p q : Nat} {f e : Bool} (h : At o d ms t p f) (k : At o d ms t q e) : p = q ∧ f = e := by
  have hpq : p = q := by
    rcases Nat.lt_trichotomy p q with hlt | rfl | hlt
    · have h1 := k.lo p hlt
      have h2 := h.hi p (Nat.le_refl _) (by have := k.le; omega)
      omega
    · rfl
    · have h1 := h.lo q hlt
      have h2 := k.hi q (Nat.le_refl _) (by have := h.le; omega)
      omega
  subst hpq
  refine ⟨rfl, ?_⟩
  rw [Bool.eq_iff_iff, h.is, k.is]

theorem at_of {ms : List α} (hk : Keyed o) (hr : Rise o ms) {t : α} {k : Nat} (hl : k < ms.length) (he : o (ms.getD k d) t = 0) : At o d ms t k true := by
  refine ⟨by omega, fun j hj => ?_, fun j hj hjl => ?_, ⟨fun _ => ⟨hl, he⟩, fun _ => rfl⟩⟩
  · rw [← hk.right _ _ (ms.getD j d) he]
    exact rise_lt o d hr hj hl
  · rcases Nat.lt_or_eq_of_le hj with h | rfl
    · rw [← hk.right _ _ (ms.getD j d) he]
      have := (hk.gt (ms.getD j d) (ms.getD k d)).2 (rise_lt o d hr h hjl)
      omega
    · omega

theorem at_hi_ne {ms : List α} (hk : Keyed o) {t : α} {p : Nat} {f : Bool} (ha : At o d ms t p f) (hr : Rise o ms) (k : Nat) (hpk : p < k) (hl : k < ms.length) : 0 < o (ms.getD k d) t := by
  have h1 := rise_lt o d hr hpk hl
  have h2 := ha.hi p (Nat.le_refl _) (by omega)
  have h3 := ha.hi k (by omega) hl
  rcases Int.lt_or_eq_of_le h3 with h | h
  · exact h
  · have : o (ms.getD p d) t < 0 := by rw [← hk.right _ _ _ h.symm]; exact h1
    omega

/-- What is there behind one more. -/
def hear : List α → α → List α
  | [], m => [m]
  | x :: r, m => if o x m < 0 then x :: hear r m else if o x m = 0 then (if nw m x = true then m :: r else x :: r) else m :: x :: r

theorem hear_at : ∀ (ms : List α) (m : α) (p : Nat) (f : Bool), At o d ms m p f →
    hear o nw ms m = if f = true then (if nw m (ms.getD p d) = true then ms.set p m else ms) else ms.take p ++ m :: ms.drop p
  | [], m, p, f, h => by
    have hp : p = 0 := by have := h.le; simpa using this
    subst hp
    have hf : f = false := by
      cases f
      · rfl
      · have := h.is.1 rfl; simp at this
    subst hf
    simp [hear]
  | x :: r, m, 0, f, h => by
    have h0 := h.hi 0 (Nat.le_refl _) (by simp)
    simp only [List.getD_cons_zero] at h0
    rw [hear, if_neg (by omega)]
    cases f
    · have hne : ¬ o x m = 0 := fun e => by have := h.is.2 ⟨by simp, by simpa using e⟩; cases this
      rw [if_neg hne]; simp
    · have he := (h.is.1 rfl).2
      simp only [List.getD_cons_zero] at he
      rw [if_pos he]
      simp only [List.getD_cons_zero, List.set_cons_zero, if_pos]
  | x :: r, m, p + 1, f, h => by
    have h0 := h.lo 0 (by omega)
    simp only [List.getD_cons_zero] at h0
    have hr : At o d r m p f := ⟨by have := h.le; simpa using this, fun j hj => by have := h.lo (j + 1) (by omega); simpa using this,
      fun j hj hl => by have := h.hi (j + 1) (by omega) (by simpa using hl); simpa using this, by have := h.is; simpa using this⟩
    rw [hear, if_pos h0, hear_at r m p f hr]
    cases f
    · simp
    · simp only [if_pos, List.getD_cons_succ, List.set_cons_succ]
      split <;> rfl

theorem hear_mem : ∀ (ms : List α) (m x : α), x ∈ hear o nw ms m → x = m ∨ x ∈ ms
  | [], m, x, h => by simp [hear] at h; exact .inl h
  | y :: r, m, x, h => by
    rw [hear] at h
    split at h
    · rcases List.mem_cons.1 h with rfl | h
      · exact .inr (by simp)
      · rcases hear_mem r m x h with h | h
        · exact .inl h
        · exact .inr (by simp [h])
    · split at h
      · split at h
        · rcases List.mem_cons.1 h with h | h
          · exact .inl h
          · exact .inr (by simp [h])
        · exact .inr h
      · rcases List.mem_cons.1 h with h | h
        · exact .inl h
        · exact .inr h

theorem hear_rise (hk : Keyed o) : ∀ (ms : List α) (m : α), Rise o ms → Rise o (hear o nw ms m)
  | [], m, _ => by simp [hear]
  | x :: r, m, h => by
    have hx := List.pairwise_cons.1 h
    rw [hear]
    split
    · rename_i hlt
      refine List.pairwise_cons.2 ⟨fun y hy => ?_, hear_rise hk r m hx.2⟩
      rcases hear_mem o nw r m y hy with rfl | hy
      · exact hlt
      · exact hx.1 y hy
    · rename_i hlt
      split
      · rename_i he
        split
        · exact List.pairwise_cons.2 ⟨fun y hy => by rw [← hk.left x m y he]; exact hx.1 y hy, hx.2⟩
        · exact h
      · rename_i he
        have hg : o m x < 0 := (hk.gt x m).1 (by omega)
        refine List.pairwise_cons.2 ⟨fun y hy => ?_, h⟩
        rcases List.mem_cons.1 hy with rfl | hy
        · exact hg
        · exact hk.trans _ _ _ hg (hx.1 y hy)

theorem hear_len : ∀ (ms : List α) (m : α), ms.length ≤ (hear o nw ms m).length ∧ (hear o nw ms m).length ≤ ms.length + 1
  | [], m => by simp [hear]
  | x :: r, m => by
    have := hear_len r m
    rw [hear]
    split
    · simp; omega
    · split
      · split <;> simp
      · simp

/-- All of a second list, one by one. -/
def join (a b : List α) : List α := b.foldl (hear o nw) a

theorem join_rise (hk : Keyed o) : ∀ (b a : List α), Rise o a → Rise o (join o nw a b)
  | [], _, h => h
  | m :: r, a, h => join_rise hk r (hear o nw a m) (hear_rise o nw hk a m h)
theorem join_len : ∀ (b a : List α), (join o nw a b).length ≤ a.length + b.length
  | [], _ => by simp [join]
  | m :: r, a => by
    have h1 := join_len r (hear o nw a m)
    have h2 := hear_len o nw a m
    simp only [join, List.foldl_cons, List.length_cons] at *
    omega
theorem join_mem : ∀ (b a : List α) (x : α), x ∈ join o nw a b → x ∈ a ∨ x ∈ b
  | [], _, _, h => .inl h
  | m :: r, a, x, h => by
    rcases join_mem r (hear o nw a m) x h with h | h
    · rcases hear_mem o nw a m x h with rfl | h
      · exact .inr (by simp)
      · exact .inl h
    · exact .inr (by simp [h])
theorem join_take (a b : List α) (j : Nat) (hj : j < b.length) : join o nw a (b.take (j + 1)) = hear o nw (join o nw a (b.take j)) (b.getD j d) := by
  rw [getD_el d hj, List.take_succ_eq_append_getElem hj, join, List.foldl_append, join]
  rfl
theorem hear_last : ∀ (a : List α) (m : α), (∀ x ∈ a, o x m < 0) → hear o nw a m = a ++ [m]
  | [], _, _ => rfl
  | x :: r, m, h => by
    rw [hear, if_pos (h x (by simp)), hear_last r m (fun y hy => h y (by simp [hy]))]
    rfl
theorem join_app : ∀ (b a : List α), Rise o (a ++ b) → join o nw a b = a ++ b
  | [], a, _ => by simp [join]
  | m :: r, a, h => by
    have h1 : hear o nw a m = a ++ [m] := hear_last o nw a m fun x hx => (List.pairwise_append.1 h).2.2 x hx m (by simp)
    have h2 := join_app r (a ++ [m]) (by simpa using h)
    simp only [join, List.foldl_cons, h1] at h2 ⊢
    rw [h2]; simp
theorem join_nil (b : List α) (h : Rise o b) : join o nw [] b = b := join_app o nw b [] h

/-- The newer one of two of one key. -/
def mx (x y : α) : α := if nw y x = true then y else x

theorem mx_comm (hn : Newest o nw) {x y : α} (he : o x y = 0) : mx nw x y = mx nw y x := by
  unfold mx
  cases h1 : nw y x <;> cases h2 : nw x y
  · simp [hn.total x y he h2 h1]
  · simp
  · simp
  · exfalso
    have := hn.trans _ _ _ h1 h2
    rw [hn.irrefl] at this
    cases this
theorem mx_assoc (hn : Newest o nw) {x y z : α} (h12 : o x y = 0) (h23 : o y z = 0) : mx nw (mx nw x y) z = mx nw x (mx nw y z) := by
  unfold mx
  cases h1 : nw y x <;> cases h2 : nw z y <;> cases h3 : nw z x <;> simp [h1, h2, h3]
  · exfalso
    cases h4 : nw x y
    · have := hn.total x y h12 h4 h1; subst this; rw [h3] at h2; cases h2
    · have := hn.trans _ _ _ h3 h4; rw [h2] at this; cases this
  · exfalso
    have := hn.trans _ _ _ h2 h1; rw [h3] at this; cases this
theorem mx_self (x : α) : mx nw x x = x := by unfold mx; split <;> rfl
theorem mx_key {x y n : α} (hx : o x n = 0) (hy : o y n = 0) : o (mx nw x y) n = 0 := by unfold mx; split <;> assumption

/-- The one with the key of n. -/
def get (ms : List α) (n : α) : Option α := ms.find? fun x => decide (o x n = 0)

theorem get_nil (n : α) : get o [] n = none := rfl
theorem get_cons_eq (x : α) (r : List α) {n : α} (h : o x n = 0) : get o (x :: r) n = some x := by simp [get, h]
theorem get_cons_ne (x : α) (r : List α) {n : α} (h : ¬ o x n = 0) : get o (x :: r) n = get o r n := by simp [get, h]
theorem get_key {ms : List α} {n x : α} (h : get o ms n = some x) : o x n = 0 := by
  have := List.find?_some h
  simpa using this
theorem get_mem {ms : List α} {n x : α} (h : get o ms n = some x) : x ∈ ms := List.mem_of_find?_eq_some h
theorem get_none {ms : List α} {n : α} (h : ∀ x ∈ ms, ¬ o x n = 0) : get o ms n = none := by
  unfold get
  rw [List.find?_eq_none]
  intro x hx
  simpa using h x hx
theorem rise_head (hk : Keyed o) {x : α} {r : List α} (h : Rise o (x :: r)) : ∀ y ∈ r, ¬ o y x = 0 := by
  intro y hy e
  have := List.rel_of_pairwise_cons h hy
  have h2 := hk.symm e
  omega

theorem rise_ext (hk : Keyed o) : ∀ {a b : List α}, Rise o a → Rise o b → (∀ n, get o a n = get o b n) → a = b
  | [], [], _, _, _ => rfl
  | [], y :: s, _, _, h => by
    have := h y
    rw [get_nil, get_cons_eq o y s (hk.refl y)] at this
    cases this
  | x :: r, [], _, _, h => by
    have := h x
    rw [get_nil, get_cons_eq o x r (hk.refl x)] at this
    cases this
  | x :: r, y :: s, ha, hb, h => by
    have hname : o x y = 0 := by
      rcases Int.lt_trichotomy (o x y) 0 with hl | he | hl
      · have h1 := h x
        rw [get_cons_eq o x r (hk.refl x), get_none] at h1
        · cases h1
        · intro z hz e
          have e2 := hk.symm e
          rcases List.mem_cons.1 hz with rfl | hz
          · omega
          · have h2 := hk.trans _ _ _ hl (List.rel_of_pairwise_cons hb hz)
            omega
      · exact he
      · have hl := (hk.gt x y).1 hl
        have h1 := h y
        rw [get_cons_eq o y s (hk.refl y), get_none] at h1
        · cases h1
        · intro z hz e
          have e2 := hk.symm e
          rcases List.mem_cons.1 hz with rfl | hz
          · omega
          · have h2 := hk.trans _ _ _ hl (List.rel_of_pairwise_cons ha hz)
            omega
    have hxy : x = y := by
      have h1 := h x
      rw [get_cons_eq o x r (hk.refl x), get_cons_eq o y s (hk.symm hname)] at h1
      exact Option.some.inj h1
    subst hxy
    have hrs : r = s := rise_ext hk (List.Pairwise.of_cons ha) (List.Pairwise.of_cons hb) fun n => by
      by_cases hn : o x n = 0
      · rw [get_none o (fun z hz e => rise_head o hk ha z hz (hk.eqt e (hk.symm hn))), get_none o (fun z hz e => rise_head o hk hb z hz (hk.eqt e (hk.symm hn)))]
      · have h1 := h n
        rw [get_cons_ne o x r hn, get_cons_ne o x s hn] at h1
        exact h1
    rw [hrs]

def comb : Option α → Option α → Option α
  | none, y => y
  | some x, none => some x
  | some x, some y => some (mx nw x y)

theorem comb_none (x : Option α) : comb nw x none = x := by cases x <;> rfl
theorem comb_comm (hk : Keyed o) (hn : Newest o nw) {x y : Option α} {n : α} (hx : ∀ z, x = some z → o z n = 0) (hy : ∀ z, y = some z → o z n = 0) : comb nw x y = comb nw y x := by
  cases x with
  | none => rw [comb_none]; rfl
  | some x => cases y with
    | none => rfl
    | some y => simp only [comb]; rw [mx_comm o nw hn (hk.eqt (hx x rfl) (hk.symm (hy y rfl)))]
theorem comb_assoc (hk : Keyed o) (hn : Newest o nw) {x y z : Option α} {n : α} (hx : ∀ u, x = some u → o u n = 0) (hy : ∀ u, y = some u → o u n = 0) (hz : ∀ u, z = some u → o u n = 0) : comb nw (comb nw x y) z = comb nw x (comb nw y z) := by
  cases x with
  | none => rfl
  | some x => cases y with
    | none => rfl
    | some y => cases z with
      | none => rfl
      | some z => simp only [comb]; rw [mx_assoc o nw hn (hk.eqt (hx x rfl) (hk.symm (hy y rfl))) (hk.eqt (hy y rfl) (hk.symm (hz z rfl)))]

theorem get_hear (hk : Keyed o) : ∀ (ms : List α) (m : α), Rise o ms → ∀ n, get o (hear o nw ms m) n = if o m n = 0 then comb nw (get o ms n) (some m) else get o ms n
  | [], m, _, n => by
    by_cases h : o m n = 0
    · rw [if_pos h, hear, get_cons_eq o m [] h]; rfl
    · rw [if_neg h, hear, get_cons_ne o m [] h]
  | x :: r, m, hr, n => by
    have ih := get_hear hk r m (List.Pairwise.of_cons hr) n
    rw [hear]
    by_cases hlt : o x m < 0
    · rw [if_pos hlt]
      by_cases hx : o x n = 0
      · rw [get_cons_eq o x _ hx, get_cons_eq o x r hx, if_neg (fun e => by have := hk.eqt hx (hk.symm e); omega)]
      · rw [get_cons_ne o x _ hx, get_cons_ne o x r hx, ih]
    · rw [if_neg hlt]
      by_cases he : o x m = 0
      · rw [if_pos he]
        by_cases hm : o m n = 0
        · rw [if_pos hm, get_cons_eq o x r (hk.eqt he hm)]
          by_cases hnew : nw m x = true
          · rw [if_pos hnew, get_cons_eq o m r hm]; simp [comb, mx, hnew]
          · rw [if_neg hnew, get_cons_eq o x r (hk.eqt he hm)]; simp [comb, mx, hnew]
        · have hx : ¬ o x n = 0 := fun e => hm (hk.eqt (hk.symm he) e)
          rw [if_neg hm, get_cons_ne o x r hx]
          by_cases hnew : nw m x = true
          · rw [if_pos hnew, get_cons_ne o m r hm]
          · rw [if_neg hnew, get_cons_ne o x r hx]
      · rw [if_neg he]
        by_cases hm : o m n = 0
        · rw [if_pos hm, get_cons_eq o m _ hm, get_none]
          · rfl
          · have hg : o m x < 0 := (hk.gt x m).1 (by omega)
            intro z hz e
            have h2 := hk.eqt hm (hk.symm e)
            rcases List.mem_cons.1 hz with rfl | hz
            · omega
            · have := hk.trans _ _ _ hg (List.rel_of_pairwise_cons hr hz)
              omega
        · rw [if_neg hm, get_cons_ne o m _ hm]

theorem get_join (hk : Keyed o) : ∀ (b a : List α), Rise o a → Rise o b → ∀ n, get o (join o nw a b) n = comb nw (get o a n) (get o b n)
  | [], a, _, _, n => by rw [get_nil, comb_none]; rfl
  | m :: r, a, ha, hb, n => by
    have ih := get_join hk r (hear o nw a m) (hear_rise o nw hk a m ha) (List.Pairwise.of_cons hb) n
    show get o (join o nw (hear o nw a m) r) n = _
    rw [ih, get_hear o nw hk a m ha n]
    by_cases hm : o m n = 0
    · rw [if_pos hm, get_cons_eq o m r hm, get_none o (ms := r) (fun z hz e => rise_head o hk hb z hz (hk.eqt e (hk.symm hm))), comb_none]
    · rw [if_neg hm, get_cons_ne o m r hm]

theorem join_comm (hk : Keyed o) (hn : Newest o nw) {a b : List α} (ha : Rise o a) (hb : Rise o b) : join o nw a b = join o nw b a :=
  rise_ext o hk (join_rise o nw hk b a ha) (join_rise o nw hk a b hb) fun n => by
    rw [get_join o nw hk b a ha hb, get_join o nw hk a b hb ha]
    exact comb_comm o nw hk hn (n := n) (fun z h => get_key o h) (fun z h => get_key o h)
theorem join_assoc (hk : Keyed o) (hn : Newest o nw) {a b c : List α} (ha : Rise o a) (hb : Rise o b) (hc : Rise o c) : join o nw (join o nw a b) c = join o nw a (join o nw b c) :=
  rise_ext o hk (join_rise o nw hk c _ (join_rise o nw hk b a ha)) (join_rise o nw hk _ a ha) fun n => by
    rw [get_join o nw hk c _ (join_rise o nw hk b a ha) hc, get_join o nw hk b a ha hb, get_join o nw hk _ a ha (join_rise o nw hk c b hb), get_join o nw hk c b hb hc]
    exact comb_assoc o nw hk hn (n := n) (fun z h => get_key o h) (fun z h => get_key o h) (fun z h => get_key o h)
theorem join_absorb (hk : Keyed o) (hn : Newest o nw) {a b : List α} (ha : Rise o a) (hb : Rise o b) : join o nw (join o nw a b) a = join o nw a b :=
  rise_ext o hk (join_rise o nw hk a _ (join_rise o nw hk b a ha)) (join_rise o nw hk b a ha) fun n => by
    rw [get_join o nw hk a _ (join_rise o nw hk b a ha) ha, get_join o nw hk b a ha hb]
    rw [comb_comm o nw hk hn (n := n) (x := get o a n) (fun z h => get_key o h) (fun z h => get_key o h)]
    rw [comb_assoc o nw hk hn (n := n) (fun z h => get_key o h) (fun z h => get_key o h) (fun z h => get_key o h)]
    congr 1
    cases h : get o a n with
    | none => rfl
    | some x => simp [comb, mx_self]

/-- What has been put behind k of the elements: m at p, those from q on behind it. -/
def outL (ms : List α) (m : α) (p q k : Nat) : List α := if k ≤ p then ms.take k else ms.take p ++ m :: (ms.take k).drop q

theorem outL_lo {ms : List α} {m : α} {p q k : Nat} (h : k < p) (hk : k < ms.length) : outL ms m p q (k + 1) = outL ms m p q k ++ [ms.getD k d] := by
  rw [outL, outL, if_pos (by omega), if_pos (by omega), List.take_succ_eq_append_getElem hk, getD_el d hk]
theorem outL_eq {ms : List α} {m : α} {p : Nat} : outL ms m p (p + 1) (p + 1) = outL ms m p (p + 1) p ++ [m] := by
  rw [outL, outL, if_neg (by omega), if_pos (by omega), List.drop_of_length_le (by simp; omega)]
theorem outL_ne {ms : List α} {m : α} {p : Nat} (hp : p < ms.length) : outL ms m p p (p + 1) = (outL ms m p p p ++ [m]) ++ [ms.getD p d] := by
  rw [outL, outL, if_neg (by omega), if_pos (by omega), List.take_succ_eq_append_getElem hp, List.drop_append_of_le_length (by simp; omega), List.drop_of_length_le (by simp; omega), getD_el d hp]
  simp
theorem outL_hi {ms : List α} {m : α} {p q k : Nat} (h : p < k) (hq : q ≤ k) (hk : k < ms.length) : outL ms m p q (k + 1) = outL ms m p q k ++ [ms.getD k d] := by
  rw [outL, outL, if_neg (by omega), if_neg (by omega), List.take_succ_eq_append_getElem hk, List.drop_append_of_le_length (by simp; omega), getD_el d hk]
  simp
theorem outL_len {ms : List α} {m : α} {p q k : Nat} : (outL ms m p q k).length ≤ 1 + ms.length + ms.length := by
  unfold outL; split <;> simp <;> omega

/-- m in the place of the one of its key. -/
def put (ms : List α) (m : α) (p : Nat) (f : Bool) : List α := ms.take p ++ m :: ms.drop (if f = true then p + 1 else p)
theorem put_out {ms : List α} {m : α} {p : Nat} {f : Bool} (hp : p < ms.length) : outL ms m p (if f = true then p + 1 else p) ms.length = put ms m p f := by
  rw [outL, if_neg (by omega), List.take_length, put]
theorem put_last {ms : List α} {m : α} {p q : Nat} (hp : p = ms.length) : outL ms m p q ms.length ++ [m] = put ms m p false := by
  subst hp
  rw [outL, if_pos (Nat.le_refl _), put]
  simp
theorem hear_put {ms : List α} {m : α} {p : Nat} {f : Bool} (h : At o d ms m p f) (hn : f = true → nw m (ms.getD p d) = true) : hear o nw ms m = put ms m p f := by
  rw [hear_at o nw d ms m p f h, put]
  cases f
  · simp
  · rw [if_pos rfl, if_pos (hn rfl), if_pos rfl, List.set_eq_take_append_cons_drop, if_pos (h.is.1 rfl).1]
theorem put_len {ms : List α} {m : α} {p : Nat} {f : Bool} (h : At o d ms m p f) : (put ms m p f).length = if f = true then ms.length else ms.length + 1 := by
  have h1 := h.le
  cases f
  · simp [put]; omega
  · have := (h.is.1 rfl).1
    simp [put]; omega

end
end RL
end Go.Proofs.YtkicpbomjpgjpaaGreat

