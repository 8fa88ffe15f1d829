/- SKF, SK3 -/
import Derived.Test.YtkicpbomjpgjpaaGreatV2
import Derived.Deep.RegionHeld3
/- services as plain lists: their order, which of two is newer, what Check says, what is known behind one more. -/
namespace Go.Proofs.YtkicpbomjpgjpaaGreat
namespace Sv
open Go.RowKit

/-- E1: rising by node, and of one node by id. -/
def ord : Svc → Svc → Int := RL.lex (fun a b => cmpI a.node b.node) (fun a b => cmpI a.idn b.idn)
theorem keyed : RL.Keyed ord := RL.keyed_lex (RL.keyed_txt Svc.node) (RL.keyed_txt Svc.idn)
/-- E2. -/
def newC : Svc → Svc → Int := RL.lex (fun a b => a.version - b.version) (RL.lex (fun a b => RL.bI a.gone - RL.bI b.gone) (RL.lex (fun a b => cmpI a.name b.name) (RL.lex (fun a b => cmpI a.tag b.tag) (RL.lex (fun a b => a.addr - b.addr) (RL.lex (fun a b => a.port - b.port) (fun a b => RL.bI a.passing - RL.bI b.passing))))))
theorem keyedC : RL.Keyed newC := RL.keyed_lex (RL.keyed_int Svc.version) (RL.keyed_lex (RL.keyed_int fun a : Svc => RL.bI a.gone) (RL.keyed_lex (RL.keyed_txt Svc.name) (RL.keyed_lex (RL.keyed_txt Svc.tag) (RL.keyed_lex (RL.keyed_int Svc.addr) (RL.keyed_lex (RL.keyed_int Svc.port) (RL.keyed_int fun a : Svc => RL.bI a.passing))))))
def newE (a b : Svc) : Bool := decide (0 < newC a b)
theorem newest : RL.Newest ord newE := RL.newest_of keyedC fun a b h1 h2 => by
  obtain ⟨n1, n2⟩ := RL.lex_zero h1
  obtain ⟨h3, h2⟩ := RL.lex_zero h2
  obtain ⟨h4, h2⟩ := RL.lex_zero h2
  obtain ⟨h5, h2⟩ := RL.lex_zero h2
  obtain ⟨h6, h2⟩ := RL.lex_zero h2
  obtain ⟨h7, h2⟩ := RL.lex_zero h2
  obtain ⟨h8, h9⟩ := RL.lex_zero h2
  have e1 : a.node = b.node := (cmpI_eq _ _).1 n1
  have e2 : a.idn = b.idn := (cmpI_eq _ _).1 n2
  have e3 : a.version = b.version := by omega
  have e4 : a.gone = b.gone := RL.bI_inj h4
  have e5 : a.name = b.name := (cmpI_eq _ _).1 h5
  have e6 : a.tag = b.tag := (cmpI_eq _ _).1 h6
  have e7 : a.addr = b.addr := by omega
  have e8 : a.port = b.port := by omega
  have e9 : a.passing = b.passing := RL.bI_inj h9
  obtain ⟨a_node, a_idn, a_name, a_tag, a_addr, a_port, a_passing, a_version, a_gone⟩ := a
  obtain ⟨b_node, b_idn, b_name, b_tag, b_addr, b_port, b_passing, b_version, b_gone⟩ := b
  simp only at e1 e2 e3 e4 e5 e6 e7 e8 e9
  subst e1 e2 e3 e4 e5 e6 e7 e8 e9
  rfl

abbrev Rise (ms : List Svc) : Prop := RL.Rise ord ms
abbrev hearL (ms : List Svc) (m : Svc) : List Svc := RL.hear ord newE ms m
abbrev joinL (a b : List Svc) : List Svc := RL.join ord newE a b
abbrev At (ms : List Svc) (t : Svc) (p : Nat) (f : Bool) : Prop := RL.At ord dm ms t p f
abbrev risesB (ms : List Svc) : Bool := RL.risesB ord ms
theorem rise_mono {ms : List Svc} (h : Rise ms) (t : Svc) : ∀ i j, i ≤ j → j < ms.length → ord (ms.getD j dm) t < 0 → ord (ms.getD i dm) t < 0 := RL.rise_mono ord dm keyed h t
theorem rises_allO (ms : List Svc) (h : ∀ j, j + 1 < ms.length → ord (ms.getD j dm) (ms.getD (j + 1) dm) < 0) : risesB ms = true := RL.rises_all ord dm ms h
theorem rises_getO (ms : List Svc) (h : risesB ms = true) : ∀ j, j + 1 < ms.length → ord (ms.getD j dm) (ms.getD (j + 1) dm) < 0 := RL.rises_get ord dm ms h
theorem at_any (ms : List Svc) (hr : Rise ms) (t : Svc) : ∃ p f, At ms t p f := RL.at_any ord dm keyed ms hr t
theorem at_uniq {ms : List Svc} {t : Svc} {p q : Nat} {f e : Bool} (h : At ms t p f) (k : At ms t q e) : p = q ∧ f = e := RL.at_uniq ord dm h k
theorem hearL_at (ms : List Svc) (m : Svc) (p : Nat) (f : Bool) (h : At ms m p f) :
    hearL ms m = if f = true then (if newE m (ms.getD p dm) = true then ms.set p m else ms) else ms.take p ++ m :: ms.drop p := RL.hear_at ord newE dm ms m p f h
theorem hearL_mem (ms : List Svc) (m x : Svc) (h : x ∈ hearL ms m) : x = m ∨ x ∈ ms := RL.hear_mem ord newE ms m x h
theorem hearL_rise (ms : List Svc) (m : Svc) (h : Rise ms) : Rise (hearL ms m) := RL.hear_rise ord newE keyed ms m h
theorem hearL_len (ms : List Svc) (m : Svc) : ms.length ≤ (hearL ms m).length ∧ (hearL ms m).length ≤ ms.length + 1 := RL.hear_len ord newE ms m
theorem joinL_rise (b a : List Svc) (h : Rise a) : Rise (joinL a b) := RL.join_rise ord newE keyed b a h
theorem joinL_len (b a : List Svc) : (joinL a b).length ≤ a.length + b.length := RL.join_len ord newE b a
theorem joinL_mem (b a : List Svc) (x : Svc) (h : x ∈ joinL a b) : x ∈ a ∨ x ∈ b := RL.join_mem ord newE b a x h
theorem joinL_take (a b : List Svc) (j : Nat) (hj : j < b.length) : joinL a (b.take (j + 1)) = hearL (joinL a (b.take j)) (b.getD j dm) := RL.join_take ord newE dm a b j hj
theorem joinL_nil (b : List Svc) (h : Rise b) : joinL [] b = b := RL.join_nil ord newE b h
theorem ns_hear {ms : List Svc} {m : Svc} (h : ∀ m ∈ ms, m.ok) (hm : m.ok) : ∀ x ∈ hearL ms m, x.ok := by
  intro x hx
  rcases hearL_mem ms m x hx with rfl | hx
  · exact hm
  · exact h x hx
theorem ns_join (b a : List Svc) (ha : ∀ m ∈ a, m.ok) (hb : ∀ m ∈ b, m.ok) : ∀ x ∈ joinL a b, x.ok := by
  intro x hx
  rcases joinL_mem b a x hx with h | h
  · exact ha x h
  · exact hb x h

def tagB (t : ByteArray) : Bool := decide (t = ByteArray.empty) || labB t
/-- E1 of one service. -/
def Svc.e (m : Svc) : Int :=
  if (labB m.node && (labB m.idn && (labB m.name && tagB m.tag))) = true then (if (within m.addr 0 4294967295 && (within m.port 0 65535 && within m.version 1 1000000)) = true then 0 else 3) else 1

def firstE : List Svc → Int
  | [] => 0
  | m :: r => if m.e = 0 then firstE r else m.e
theorem firstE_zero : ∀ (ms : List Svc), (∀ j, j < ms.length → (ms.getD j dm).e = 0) → firstE ms = 0
  | [], _ => rfl
  | m :: r, h => by
    have h0 := h 0 (by simp)
    simp only [List.getD_cons_zero] at h0
    rw [firstE, if_pos h0]
    exact firstE_zero r fun j hj => by have := h (j + 1) (by simpa using hj); simpa using this
theorem firstE_at : ∀ (ms : List Svc) (k : Nat), k < ms.length → (∀ j, j < k → (ms.getD j dm).e = 0) → (ms.getD k dm).e ≠ 0 → firstE ms = (ms.getD k dm).e
  | [], k, h, _, _ => by simp at h
  | m :: r, 0, _, _, hne => by
    simp only [List.getD_cons_zero] at hne ⊢
    rw [firstE, if_neg hne]
  | m :: r, k + 1, h, hz, hne => by
    have h0 := hz 0 (by omega)
    simp only [List.getD_cons_zero] at h0
    rw [firstE, if_pos h0, List.getD_cons_succ]
    rw [List.getD_cons_succ] at hne
    exact firstE_at r k (by simpa using h) (fun j hj => by have := hz (j + 1) (by omega); simpa using this) hne
theorem firstE_mem : ∀ (ms : List Svc), firstE ms = 0 → ∀ m ∈ ms, m.e = 0
  | [], _, m, hm => by simp at hm
  | x :: r, h, m, hm => by
    rw [firstE] at h
    split at h
    · rename_i hx
      rcases List.mem_cons.1 hm with rfl | hm
      · exact hx
      · exact firstE_mem r h m hm
    · rename_i hx; exact absurd h hx
theorem firstE_all : ∀ (ms : List Svc), (∀ m ∈ ms, m.e = 0) → firstE ms = 0
  | [], _ => rfl
  | x :: r, h => by rw [firstE, if_pos (h x (by simp))]; exact firstE_all r fun m hm => h m (by simp [hm])

/-- What Check says. -/
def chk (ms : List Svc) : Int := if 40 < ms.length then 2 else if firstE ms = 0 then (if risesB ms = true then 0 else 4) else firstE ms

theorem chk_e (ms : List Svc) (k : Nat) (hn : ms.length ≤ 40) (hk : k < ms.length) (hz : ∀ j, j < k → (ms.getD j dm).e = 0) (hne : (ms.getD k dm).e ≠ 0) : chk ms = (ms.getD k dm).e := by
  have h := firstE_at ms k hk hz hne
  rw [chk, if_neg (by omega), h, if_neg hne]
theorem chk_r (ms : List Svc) (hn : ms.length ≤ 40) (hz : ∀ j, j < ms.length → (ms.getD j dm).e = 0) : chk ms = if risesB ms = true then 0 else 4 := by
  rw [chk, if_neg (by omega), firstE_zero ms hz, if_pos rfl]
theorem chk_4 (ms : List Svc) (k : Nat) (hn : ms.length ≤ 40) (hz : ∀ j, j < ms.length → (ms.getD j dm).e = 0) (hk : k + 1 < ms.length) (hl : ¬ ord (ms.getD k dm) (ms.getD (k + 1) dm) < 0) : chk ms = 4 := by
  rw [chk_r ms hn hz, if_neg]
  intro h
  exact hl (rises_getO ms h k hk)
theorem chk_0 (ms : List Svc) (hn : ms.length ≤ 40) (hz : ∀ j, j < ms.length → (ms.getD j dm).e = 0) (hl : ∀ j, j + 1 < ms.length → ord (ms.getD j dm) (ms.getD (j + 1) dm) < 0) : chk ms = 0 := by
  rw [chk_r ms hn hz, if_pos (rises_allO ms hl)]
theorem chk_zero {ms : List Svc} (h : chk ms = 0) : ms.length ≤ 40 ∧ Rise ms ∧ firstE ms = 0 := by
  unfold chk at h
  split at h
  · omega
  · split at h
    · rename_i h1 h2
      split at h
      · rename_i h3
        exact ⟨by omega, RL.rise_of ord keyed ms h3, h2⟩
      · omega
    · rename_i h1 h2; exact absurd h h2
theorem chk_of {ms : List Svc} (h1 : ms.length ≤ 40) (h2 : Rise ms) (h3 : ∀ m ∈ ms, m.e = 0) : chk ms = 0 := by
  rw [chk, if_neg (by omega), firstE_all ms h3, if_pos rfl, if_pos (RL.rises_of ord ms h2)]
theorem chk_one (m : Svc) : chk [m] = m.e := by
  have h1 : firstE [m] = m.e := by
    rw [firstE]
    split
    · rename_i h; rw [h]; rfl
    · rfl
  rw [chk, if_neg (by simp), h1]
  split
  · rename_i h; rw [h]; exact if_pos rfl
  · rfl
theorem chk_nil : chk [] = 0 := rfl

def chkTwo (a b : List Svc) : Int := if chk a = 0 then chk b else chk a
/-- What is there behind k lists. -/
def stg (a b : List Svc) (k : Nat) : List Svc := if k = 0 then [] else if k = 1 then a else joinL a b
/-- Join's errno. -/
def joinE (a b : List Svc) : Int := if chkTwo a b = 0 then (if 40 < (joinL a b).length then 2 else 0) else chkTwo a b

end Sv
end Go.Proofs.YtkicpbomjpgjpaaGreat

/- services: the order and which is newer, walked. -/
namespace Go.Proofs.YtkicpbomjpgjpaaGreat
namespace Sv
open Go.RowKit




theorem cell_topS {W : World} {cs : Array Value} {t : TypeId} {g k : Nat} (hg : g = W.heap.size) : (W.alloc (.cells cs t)).cell? ⟨g, k, none⟩ = cs[k]? := by subst hg; simp
theorem less_not {a b : ByteArray} (h : ¬ a = b) : Op.bytesLess a.toList b.toList = !Op.bytesLess b.toList a.toList := by
  have h1 := bl_total b.toList a.toList
  rw [(beq_name h).1, Bool.or_false] at h1
  exact h1.symm
def orZ (a b : Int) : Int := if a = 0 then b else a
set_option maxHeartbeats 800000 in
theorem or_any (a b : Int) (g : Nat) (c : Nat) (w : World) (h0 : w.cell? ⟨g, 0, none⟩ = some (.int .i64 a)) (h1 : w.cell? ⟨g, 1, none⟩ = some (.int .i64 b)) :
    Calls Tryz.prog 41 #[.slice (some ⟨g, 0, none⟩) 2 c] w fun e w' => e = .returned (.int .i64 (orZ a b)) ∧ w' = w := by
  by_cases ha : a = 0
  · subst ha
    by_cases hb : b = 0
    · subst hb
      go_enter Tryz.func41, Tryz.ntmps41
      go_wp2_with fail
      refine wp_loop_rounds 3 ?_
      rw [rounds_succ]
      go_wp2_with fail
      rw [rounds_succ]
      go_wp2_with fail
      rw [rounds_succ]
      go_wp2_with fail
      go_ret
      exact ⟨rfl, rfl⟩
    · have hb' : (b != 0) = true := by simpa using hb
      go_enter Tryz.func41, Tryz.ntmps41
      go_wp2_with fail
      refine wp_loop_rounds 3 ?_
      rw [rounds_succ]
      go_wp2_with fail
      rw [rounds_succ]
      go_wp2_with fail
      go_ret
      exact ⟨rfl, rfl⟩
  · have ha' : (a != 0) = true := by simpa using ha
    go_enter Tryz.func41, Tryz.ntmps41
    go_wp2_with fail
    refine wp_loop_rounds 3 ?_
    rw [rounds_succ]
    go_wp2_with fail
    go_ret
    exact ⟨ret_int (by unfold orZ; rw [if_neg ha]), rfl⟩

set_option maxHeartbeats 800000 in
theorem order_any (a b : Svc) (w : World) :
    Calls Tryz.prog 58 #[.agg #[.string a.node, .string a.idn, .string a.name, .string a.tag, .int .i64 a.addr, .int .i64 a.port, .bool a.passing, .int .i64 a.version, .bool a.gone], .agg #[.string b.node, .string b.idn, .string b.name, .string b.tag, .int .i64 b.addr, .int .i64 b.port, .bool b.passing, .int .i64 b.version, .bool b.gone]] w fun e w' => e = .returned (.int .i64 (ord a b)) ∧ Below w.heap.size w w' := by
  go_enter Tryz.func58, Tryz.ntmps58
  go_wp2_with fail
  obtain ⟨W, hW⟩ : ∃ W, W = (w.alloc (.cells #[.string a.node, .string a.idn, .string a.name, .string a.tag, .int .i64 a.addr, .int .i64 a.port, .bool a.passing, .int .i64 a.version, .bool a.gone] 24)).alloc (.cells #[.string b.node, .string b.idn, .string b.name, .string b.tag, .int .i64 b.addr, .int .i64 b.port, .bool b.passing, .int .i64 b.version, .bool b.gone] 24) := ⟨_, rfl⟩
  rw [← hW]
  have hbW : Below w.heap.size w W := by rw [hW]; exact ((Below.refl _ _).alloc (Nat.le_refl _) _).alloc (by simp) _
  have hga : W.heap[w.heap.size]? = some (.cells #[.string a.node, .string a.idn, .string a.name, .string a.tag, .int .i64 a.addr, .int .i64 a.port, .bool a.passing, .int .i64 a.version, .bool a.gone] 24 (0, 0)) := by
    rw [hW, Below.heap_alloc _ _ _ (by simp)]; exact heap_alloc_new w _
  have hgb : W.heap[w.heap.size + 1]? = some (.cells #[.string b.node, .string b.idn, .string b.name, .string b.tag, .int .i64 b.addr, .int .i64 b.port, .bool b.passing, .int .i64 b.version, .bool b.gone] 24 (0, 0)) := by
    have h := heap_alloc_new (w.alloc (.cells #[.string a.node, .string a.idn, .string a.name, .string a.tag, .int .i64 a.addr, .int .i64 a.port, .bool a.passing, .int .i64 a.version, .bool a.gone] 24)) (.cells #[.string b.node, .string b.idn, .string b.name, .string b.tag, .int .i64 b.addr, .int .i64 b.port, .bool b.passing, .int .i64 b.version, .bool b.gone] 24)
    rw [hW]; simpa using h
  have n0 : W.cell? ⟨w.heap.size, 0, none⟩ = some (.string a.node) := cellsAt hga 0
  have n1 : W.cell? ⟨w.heap.size, 1, none⟩ = some (.string a.idn) := cellsAt hga 1
  have m0 : W.cell? ⟨w.heap.size + 1, 0, none⟩ = some (.string b.node) := cellsAt hgb 0
  have m1 : W.cell? ⟨w.heap.size + 1, 1, none⟩ = some (.string b.idn) := cellsAt hgb 1
  have HBW : Hid (Below w.heap.size w W) := hbW
  have hsW := hbW.size
  have h1 := World.new_ne W _ n0
  have h2 := World.new_ne W _ n1
  have h3 := World.new_ne W _ m0
  have h4 := World.new_ne W _ m1
  clear hga hgb hW hbW
  go_region_held3 (fun w' => w'.cell? ⟨w.heap.size, 0, none⟩ = some (.string a.node) ∧ w'.cell? ⟨w.heap.size, 1, none⟩ = some (.string a.idn) ∧ w'.cell? ⟨w.heap.size + 1, 0, none⟩ = some (.string b.node) ∧ w'.cell? ⟨w.heap.size + 1, 1, none⟩ = some (.string b.idn)) (go_keep) (first | (go_at_call 43; refine (compare_any _ _ _).mono ?_; rintro e w' ⟨rfl, rfl⟩) | (go_at_call 41; refine (or_any (cmpI a.node b.node) (cmpI a.idn b.idn) _ _ _ (cell_topS rfl) (cell_topS rfl)).mono ?_; rintro e w' ⟨rfl, rfl⟩))
  go_wp2_with fail
  go_ret
  exact ⟨rfl, (HBW.out.alloc hsW _).drew⟩

theorem newE_def (a b : Svc) : newE a b = if a.version = b.version then (if a.gone = b.gone then (if a.name = b.name then (if a.tag = b.tag then (if a.addr = b.addr then (if a.port = b.port then (a.passing && !b.passing) else decide (b.port < a.port)) else decide (b.addr < a.addr)) else less b.tag a.tag) else less b.name a.name) else a.gone) else decide (b.version < a.version) := by
  have hI : ∀ x y : Int, (x - y = 0) ↔ x = y := fun x y => by omega
  have hB : ∀ x y : Bool, (RL.bI x = RL.bI y) ↔ x = y := fun x y => ⟨fun h => RL.bI_inj (by omega), fun h => by rw [h]⟩
  have hP : ∀ x y : Int, (0 < x - y) ↔ y < x := fun x y => by omega
  have hL : ∀ x y : ByteArray, decide (0 < cmpI x y) = less y x := fun x y => by rw [Bool.eq_iff_iff, decide_eq_true_eq]; exact cmpI_gt x y
  have hG : ∀ x y : Bool, x ≠ y → decide (0 < RL.bI x - RL.bI y) = x := fun x y h => by cases x <;> cases y <;> simp [RL.bI] at h ⊢
  have hQ : ∀ x y : Bool, decide (0 < RL.bI x - RL.bI y) = (x && !y) := fun x y => by cases x <;> cases y <;> simp [RL.bI]
  simp only [newE, newC, RL.lex, hI, hB, cmpI_eq]
  by_cases h1 : a.version = b.version
  · simp only [if_pos h1]
    by_cases h2 : a.gone = b.gone
    · simp only [if_pos h2]
      by_cases h3 : a.name = b.name
      · simp only [if_pos h3]
        by_cases h4 : a.tag = b.tag
        · simp only [if_pos h4]
          by_cases h5 : a.addr = b.addr
          · simp only [if_pos h5]
            by_cases h6 : a.port = b.port
            · simp only [if_pos h6]; exact hQ _ _
            · simp only [if_neg h6, hP]
          · simp only [if_neg h5, hP]
        · simp only [if_neg h4]; exact hL _ _
      · simp only [if_neg h3]; exact hL _ _
    · simp only [if_neg h2]; exact hG _ _ h2
  · simp only [if_neg h1, hP]

set_option maxHeartbeats 1600000 in
theorem newer_vars (f : Nat) (hf : f = 84) (a_node : ByteArray) (a_idn : ByteArray) (a_name : ByteArray) (a_tag : ByteArray) (a_addr : Int) (a_port : Int) (a_passing : Bool) (a_version : Int) (a_gone : Bool) (b_node : ByteArray) (b_idn : ByteArray) (b_name : ByteArray) (b_tag : ByteArray) (b_addr : Int) (b_port : Int) (b_passing : Bool) (b_version : Int) (b_gone : Bool) (w : World) :
    Calls Tryz.prog f #[.agg #[.string a_node, .string a_idn, .string a_name, .string a_tag, .int .i64 a_addr, .int .i64 a_port, .bool a_passing, .int .i64 a_version, .bool a_gone], .agg #[.string b_node, .string b_idn, .string b_name, .string b_tag, .int .i64 b_addr, .int .i64 b_port, .bool b_passing, .int .i64 b_version, .bool b_gone]] w fun e w' => e = .returned (.bool (newE ⟨a_node, a_idn, a_name, a_tag, a_addr, a_port, a_passing, a_version, a_gone⟩ ⟨b_node, b_idn, b_name, b_tag, b_addr, b_port, b_passing, b_version, b_gone⟩)) ∧ Below w.heap.size w w' := by
  subst hf
  have hB : Hid (Below w.heap.size w ((w.alloc (.cells #[.string a_node, .string a_idn, .string a_name, .string a_tag, .int .i64 a_addr, .int .i64 a_port, .bool a_passing, .int .i64 a_version, .bool a_gone] 24)).alloc (.cells #[.string b_node, .string b_idn, .string b_name, .string b_tag, .int .i64 b_addr, .int .i64 b_port, .bool b_passing, .int .i64 b_version, .bool b_gone] 24))) := ((Below.refl _ _).alloc (Nat.le_refl _) _).alloc (by simp) _
  by_cases h1 : a_version = b_version
  · subst h1
    by_cases h2 : a_gone = b_gone
    · subst h2
      by_cases h3 : a_name = b_name
      · subst h3
        by_cases h4 : a_tag = b_tag
        · subst h4
          by_cases h5 : a_addr = b_addr
          · subst h5
            by_cases h6 : a_port = b_port
            · subst h6
              cases a_passing
              all_goals
                go_enter Tryz.func84, Tryz.ntmps84
                go_wp2
                go_ret
                exact ⟨ret_bool (by rw [newE_def]; simp), hB.out⟩
            · have h6' : (a_port != b_port) = true := by simpa using h6
              go_enter Tryz.func84, Tryz.ntmps84
              go_wp2
              go_ret
              exact ⟨ret_bool (by rw [newE_def]; simp [h6]), hB.out⟩
          · have h5' : (a_addr != b_addr) = true := by simpa using h5
            go_enter Tryz.func84, Tryz.ntmps84
            go_wp2
            go_ret
            exact ⟨ret_bool (by rw [newE_def]; simp [h5]), hB.out⟩
        · obtain ⟨g1, g2⟩ := beq_name h4
          have H4 : Hid (¬ a_tag = b_tag) := h4
          clear h4
          go_enter Tryz.func84, Tryz.ntmps84
          go_wp2
          go_ret
          exact ⟨ret_bool (by rw [newE_def]; simp [H4.out, less]; exact less_not H4.out), hB.out⟩
      · obtain ⟨g1, g2⟩ := beq_name h3
        have H3 : Hid (¬ a_name = b_name) := h3
        clear h3
        go_enter Tryz.func84, Tryz.ntmps84
        go_wp2
        go_ret
        exact ⟨ret_bool (by rw [newE_def]; simp [H3.out, less]; exact less_not H3.out), hB.out⟩
    · have hg : b_gone = !a_gone := by cases a_gone <;> cases b_gone <;> simp at h2 ⊢
      subst hg
      clear h2
      cases a_gone
      all_goals
        go_enter Tryz.func84, Tryz.ntmps84
        go_wp2
        go_ret
        exact ⟨ret_bool (by rw [newE_def]; simp), hB.out⟩
  · have h1' : (a_version != b_version) = true := by simpa using h1
    go_enter Tryz.func84, Tryz.ntmps84
    go_wp2
    go_ret
    exact ⟨ret_bool (by rw [newE_def]; simp [h1]), hB.out⟩

theorem newerE_any (a b : Svc) (w : World) :
    Calls Tryz.prog 84 #[.agg #[.string a.node, .string a.idn, .string a.name, .string a.tag, .int .i64 a.addr, .int .i64 a.port, .bool a.passing, .int .i64 a.version, .bool a.gone], .agg #[.string b.node, .string b.idn, .string b.name, .string b.tag, .int .i64 b.addr, .int .i64 b.port, .bool b.passing, .int .i64 b.version, .bool b.gone]] w fun e w' => e = .returned (.bool (newE a b)) ∧ Below w.heap.size w w' :=
  newer_vars _ rfl a.node a.idn a.name a.tag a.addr a.port a.passing a.version a.gone b.node b.idn b.name b.tag b.addr b.port b.passing b.version b.gone w

end Sv
end Go.Proofs.YtkicpbomjpgjpaaGreat

