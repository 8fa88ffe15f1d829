
/- Whoever hears the same, in whatever order, however often, knows the same: of plain lists. -/
import Derived.Test.YtcledbejggmfoacMR
namespace Go.Proofs.Ytcledbejggmfoac
open Go.RowKit

def svI (m : Mem) : Int := if m.server = true then 1 else 0

theorem new_iff (x y : Mem) : newM x y = true ↔ y.life < x.life ∨ (x.life = y.life ∧ (y.state < x.state ∨ (x.state = y.state ∧ (y.addr < x.addr ∨ (x.addr = y.addr ∧ svI y < svI x))))) := by
  obtain ⟨n1, s1, l1, a1, v1⟩ := x
  obtain ⟨n2, s2, l2, a2, v2⟩ := y
  simp only [newM, newB, svI]
  by_cases h1 : l1 = l2
  · rw [if_pos h1]
    by_cases h2 : s1 = s2
    · rw [if_pos h2]
      by_cases h3 : a1 = a2
      · rw [if_pos h3]
        cases v1 <;> cases v2 <;> simp [h1, h2, h3]
      · rw [if_neg h3]
        simp only [decide_eq_true_eq]
        omega
    · rw [if_neg h2]
      simp only [decide_eq_true_eq]
      omega
  · rw [if_neg h1]
    simp only [decide_eq_true_eq]
    omega
theorem new_not (x y : Mem) : newM x y = false ↔ ¬ (y.life < x.life ∨ (x.life = y.life ∧ (y.state < x.state ∨ (x.state = y.state ∧ (y.addr < x.addr ∨ (x.addr = y.addr ∧ svI y < svI x)))))) := by
  rw [← new_iff]; simp
theorem new_total {x y : Mem} (hn : x.name = y.name) (h1 : newM x y = false) (h2 : newM y x = false) : x = y := by
  rw [new_not] at h1 h2
  have hl : x.life = y.life := by omega
  have hs : x.state = y.state := by omega
  have ha : x.addr = y.addr := by omega
  have hv : svI x = svI y := by omega
  have hvv : x.server = y.server := by
    unfold svI at hv
    cases h : x.server <;> cases h' : y.server <;> simp [h, h'] at hv ⊢
  obtain ⟨n1, s1, l1, a1, v1⟩ := x
  obtain ⟨n2, s2, l2, a2, v2⟩ := y
  simp only at hn hl hs ha hvv
  subst hn hl hs ha hvv
  rfl

/-- The newer one of two of one name. -/
def mx (x y : Mem) : Mem := if newM y x = true then y else x
theorem mx_comm {x y : Mem} (hn : x.name = y.name) : mx x y = mx y x := by
  unfold mx
  cases h1 : newM y x <;> cases h2 : newM x y
  · simp [new_total hn h2 h1]
  · simp
  · simp
  · exfalso; rw [new_iff] at h1 h2; omega
theorem mx_assoc (x y z : Mem) : mx (mx x y) z = mx x (mx y z) := by
  unfold mx
  cases h1 : newM y x <;> cases h2 : newM z y <;> cases h3 : newM z x <;> simp [h1, h2, h3]
  all_goals
    exfalso
    simp only [new_not, new_iff] at h1 h2 h3
    omega
theorem mx_self (x : Mem) : mx x x = x := by unfold mx; split <;> rfl
theorem mx_name {x y : Mem} {n : ByteArray} (hx : x.name = n) (hy : y.name = n) : (mx x y).name = n := by unfold mx; split <;> assumption

def getM (ms : List Mem) (n : ByteArray) : Option Mem := ms.find? fun x => decide (x.name = n)

theorem getM_nil (n : ByteArray) : getM [] n = none := rfl
theorem getM_cons_eq (x : Mem) (r : List Mem) {n : ByteArray} (h : x.name = n) : getM (x :: r) n = some x := by simp [getM, h]
theorem getM_cons_ne (x : Mem) (r : List Mem) {n : ByteArray} (h : x.name ≠ n) : getM (x :: r) n = getM r n := by simp [getM, h]
theorem getM_name {ms : List Mem} {n : ByteArray} {x : Mem} (h : getM ms n = some x) : x.name = n := by
  have := List.find?_some h
  simpa using this
theorem getM_none {ms : List Mem} {n : ByteArray} (h : ∀ x ∈ ms, x.name ≠ n) : getM ms n = none := by
  unfold getM
  rw [List.find?_eq_none]
  intro x hx
  simpa using h x hx
theorem rise_head {x : Mem} {r : List Mem} (h : Rise (x :: r)) : ∀ y ∈ r, y.name ≠ x.name := by
  intro y hy e
  have := List.rel_of_pairwise_cons h hy
  rw [e, less_irrefl] at this
  cases this

theorem rise_ext : ∀ {a b : List Mem}, Rise a → Rise b → (∀ n, getM a n = getM b n) → a = b
  | [], [], _, _, _ => rfl
  | [], y :: s, _, _, h => by
    have := h y.name
    rw [getM_nil, getM_cons_eq y s rfl] at this
    cases this
  | x :: r, [], _, _, h => by
    have := h x.name
    rw [getM_nil, getM_cons_eq x r rfl] at this
    cases this
  | x :: r, y :: s, ha, hb, h => by
    have hname : x.name = y.name := by
      rcases less_total x.name y.name with hl | he | hl
      · have h1 := h x.name
        rw [getM_cons_eq x r rfl, getM_none] at h1
        · cases h1
        · intro z hz e
          rcases List.mem_cons.1 hz with rfl | hz
          · rw [e, less_irrefl] at hl; cases hl
          · have h2 := less_trans hl (List.rel_of_pairwise_cons hb hz)
            rw [e, less_irrefl] at h2; cases h2
      · exact he
      · have h1 := h y.name
        rw [getM_cons_eq y s rfl, getM_none] at h1
        · cases h1
        · intro z hz e
          rcases List.mem_cons.1 hz with rfl | hz
          · rw [e, less_irrefl] at hl; cases hl
          · have h2 := less_trans hl (List.rel_of_pairwise_cons ha hz)
            rw [e, less_irrefl] at h2; cases h2
    have hxy : x = y := by
      have h1 := h x.name
      rw [getM_cons_eq x r rfl, getM_cons_eq y s hname.symm] at h1
      exact Option.some.inj h1
    subst hxy
    have hrs : r = s := rise_ext (List.Pairwise.of_cons ha) (List.Pairwise.of_cons hb) fun n => by
      by_cases hn : x.name = n
      · rw [getM_none (fun z hz => by rw [← hn]; exact rise_head ha z hz), getM_none (fun z hz => by rw [← hn]; exact rise_head hb z hz)]
      · have h1 := h n
        rw [getM_cons_ne x r hn, getM_cons_ne x s hn] at h1
        exact h1
    rw [hrs]

def comb : Option Mem → Option Mem → Option Mem
  | none, y => y
  | some x, none => some x
  | some x, some y => some (mx x y)

theorem comb_none (x : Option Mem) : comb x none = x := by cases x <;> rfl
theorem comb_comm {x y : Option Mem} {n : ByteArray} (hx : ∀ z, x = some z → z.name = n) (hy : ∀ z, y = some z → z.name = n) : comb x y = comb y x := by
  cases x with
  | none => rw [comb_none]; rfl
  | some x => cases y with
    | none => rfl
    | some y => simp only [comb]; rw [mx_comm ((hx x rfl).trans (hy y rfl).symm)]
theorem comb_assoc (x y z : Option Mem) : comb (comb x y) z = comb x (comb y z) := by
  cases x with
  | none => rfl
  | some x => cases y with
    | none => rfl
    | some y => cases z with
      | none => rfl
      | some z => simp only [comb]; rw [mx_assoc]

theorem getM_hear : ∀ (ms : List Mem) (m : Mem), Rise ms → ∀ n, getM (hearL ms m) n = if m.name = n then comb (getM ms n) (some m) else getM ms n
  | [], m, _, n => by
    by_cases h : m.name = n
    · rw [if_pos h, hearL, getM_cons_eq m [] h]; rfl
    · rw [if_neg h, hearL, getM_cons_ne m [] h]
  | x :: r, m, hr, n => by
    have ih := getM_hear r m (List.Pairwise.of_cons hr) n
    rw [hearL]
    by_cases hlt : cmpI x.name m.name < 0
    · rw [if_pos hlt]
      have hxm : x.name ≠ m.name := fun e => by rw [(cmpI_eq _ _).2 e] at hlt; omega
      by_cases hx : x.name = n
      · rw [getM_cons_eq x _ hx, getM_cons_eq x r hx, if_neg (fun e => hxm (hx.trans e.symm))]
      · rw [getM_cons_ne x _ hx, getM_cons_ne x r hx, ih]
    · rw [if_neg hlt]
      by_cases he : cmpI x.name m.name = 0
      · rw [if_pos he]
        have hxm : x.name = m.name := (cmpI_eq _ _).1 he
        by_cases hm : m.name = n
        · rw [if_pos hm, getM_cons_eq x r (hxm.trans hm)]
          by_cases hnew : newM m x = true
          · rw [if_pos hnew, getM_cons_eq m r hm]; simp [comb, mx, hnew]
          · rw [if_neg hnew, getM_cons_eq x r (hxm.trans hm)]; simp [comb, mx, hnew]
        · have hx : x.name ≠ n := fun e => hm (hxm.symm.trans e)
          rw [if_neg hm, getM_cons_ne x r hx]
          by_cases hnew : newM m x = true
          · rw [if_pos hnew, getM_cons_ne m r hm]
          · rw [if_neg hnew, getM_cons_ne x r hx]
      · rw [if_neg he]
        by_cases hm : m.name = n
        · rw [if_pos hm, getM_cons_eq m _ hm, getM_none]
          · rfl
          · have hg : less m.name x.name = true := (cmpI_gt _ _).1 (by omega)
            intro z hz e
            rcases List.mem_cons.1 hz with rfl | hz
            · rw [e, hm, less_irrefl] at hg; cases hg
            · have := less_trans hg (List.rel_of_pairwise_cons hr hz)
              rw [e, hm, less_irrefl] at this; cases this
        · rw [if_neg hm, getM_cons_ne m _ hm]

theorem getM_join : ∀ (b a : List Mem), Rise a → Rise b → ∀ n, getM (joinL a b) n = comb (getM a n) (getM b n)
  | [], a, _, _, n => by rw [getM_nil, comb_none]; rfl
  | m :: r, a, ha, hb, n => by
    have ih := getM_join r (hearL a m) (hearL_rise a m ha) (List.Pairwise.of_cons hb) n
    show getM (joinL (hearL a m) r) n = _
    rw [ih, getM_hear a m ha n]
    by_cases hm : m.name = n
    · rw [if_pos hm, getM_cons_eq m r hm, getM_none (ms := r) (fun z hz => by rw [← hm]; exact rise_head hb z hz), comb_none]
    · rw [if_neg hm, getM_cons_ne m r hm]

theorem joinL_comm {a b : List Mem} (ha : Rise a) (hb : Rise b) : joinL a b = joinL b a :=
  rise_ext (joinL_rise b a ha) (joinL_rise a b hb) fun n => by
    rw [getM_join b a ha hb, getM_join a b hb ha]
    exact comb_comm (n := n) (fun z h => getM_name h) (fun z h => getM_name h)
theorem joinL_assoc {a b c : List Mem} (ha : Rise a) (hb : Rise b) (hc : Rise c) : joinL (joinL a b) c = joinL a (joinL b c) :=
  rise_ext (joinL_rise c _ (joinL_rise b a ha)) (joinL_rise _ a ha) fun n => by
    rw [getM_join c _ (joinL_rise b a ha) hc, getM_join b a ha hb, getM_join _ a ha (joinL_rise c b hb), getM_join c b hb hc, comb_assoc]
theorem hearL_comm {l : List Mem} (a b : Mem) (hl : Rise l) : hearL (hearL l a) b = hearL (hearL l b) a :=
  rise_ext (hearL_rise _ b (hearL_rise l a hl)) (hearL_rise _ a (hearL_rise l b hl)) fun n => by
    rw [getM_hear _ b (hearL_rise l a hl), getM_hear l a hl, getM_hear _ a (hearL_rise l b hl), getM_hear l b hl]
    by_cases h1 : a.name = n <;> by_cases h2 : b.name = n <;> simp only [h1, h2, if_true, if_false]
    rw [comb_assoc, comb_assoc]
    congr 1
    exact comb_comm (n := n) (fun z h => by cases h; exact h1) (fun z h => by cases h; exact h2)
theorem hearL_idem {l : List Mem} (a : Mem) (hl : Rise l) : hearL (hearL l a) a = hearL l a :=
  rise_ext (hearL_rise _ a (hearL_rise l a hl)) (hearL_rise l a hl) fun n => by
    rw [getM_hear _ a (hearL_rise l a hl), getM_hear l a hl]
    by_cases h1 : a.name = n <;> simp only [h1, if_true, if_false]
    rw [comb_assoc]
    simp [comb, mx_self]

theorem firstE_all : ∀ (ms : List Mem), (∀ m ∈ ms, m.e = 0) → firstE ms = 0
  | [], _ => rfl
  | x :: r, h => by rw [firstE, if_pos (h x (by simp))]; exact firstE_all r fun m hm => h m (by simp [hm])
theorem chk_of {ms : List Mem} (h1 : ms.length ≤ 20) (h2 : Rise ms) (h3 : ∀ m ∈ ms, m.e = 0) : chk ms = 0 := by
  rw [chk, if_neg (by omega), firstE_all ms h3, if_pos rfl, if_pos (rises_of ms h2)]
theorem joinL_mem : ∀ (b a : List Mem) (x : Mem), x ∈ joinL a b → x ∈ a ∨ x ∈ b
  | [], _, _, h => .inl h
  | m :: r, a, x, h => by
    rcases joinL_mem r (hearL a m) x h with h | h
    · rcases hearL_mem a m x h with rfl | h
      · exact .inr (by simp)
      · exact .inl h
    · exact .inr (by simp [h])

theorem joinE_zero {a b : List Mem} (h : joinE a b = 0) : chk a = 0 ∧ chk b = 0 ∧ (joinL a b).length ≤ 20 := by
  by_cases ha : chk a = 0
  · by_cases hb : chk b = 0
    · rw [joinE_good ha hb] at h
      refine ⟨ha, hb, ?_⟩
      split at h
      · cases h
      · omega
    · rw [joinE_bad2 ha hb] at h; exact absurd h hb
  · rw [joinE_bad1 ha] at h; exact absurd h ha
theorem joinE_mk {a b : List Mem} (ha : chk a = 0) (hb : chk b = 0) (hl : (joinL a b).length ≤ 20) : joinE a b = 0 := by
  rw [joinE_good ha hb, if_neg (by omega)]
theorem joinE_right {a b : List Mem} (h : joinE a b = 0) : chk (joinL a b) = 0 := by
  obtain ⟨ha, hb, hl⟩ := joinE_zero h
  have za := chk_zero ha
  have zb := chk_zero hb
  exact chk_of hl (joinL_rise b a za.2.1) fun m hm => by
    rcases joinL_mem b a m hm with h | h
    · exact firstE_mem a za.2.2 m h
    · exact firstE_mem b zb.2.2 m h

/-- What is handed back: with an error nothing. -/
def jx (a b : List Mem) : List Mem := if joinE a b = 0 then joinL a b else []
theorem jx_len (a b : List Mem) : (jx a b).length ≤ 20 := by
  unfold jx
  split
  · rename_i h; exact (joinE_zero h).2.2
  · simp
theorem jx_names {a b : List Mem} (ha : ∀ m ∈ a, m.name.size ≤ maxLen) (hb : ∀ m ∈ b, m.name.size ≤ maxLen) : ∀ m ∈ jx a b, m.name.size ≤ maxLen := by
  unfold jx
  split
  · exact ns_join b a ha hb
  · simp
theorem joinE_comm0 {a b : List Mem} (h : joinE a b = 0) : joinE b a = 0 := by
  obtain ⟨ha, hb, hl⟩ := joinE_zero h
  exact joinE_mk hb ha (by rw [← joinL_comm (chk_zero ha).2.1 (chk_zero hb).2.1]; exact hl)
theorem jx_comm (a b : List Mem) : jx a b = jx b a := by
  unfold jx
  by_cases h : joinE a b = 0
  · obtain ⟨ha, hb, hl⟩ := joinE_zero h
    rw [if_pos h, if_pos (joinE_comm0 h), joinL_comm (chk_zero ha).2.1 (chk_zero hb).2.1]
  · rw [if_neg h, if_neg (fun h' => h (joinE_comm0 h'))]
theorem jx_assoc {l o t : List Mem} (h1 : joinE l o = 0) (h3 : joinE (jx l o) t = 0) (h4 : joinE o t = 0) : joinE l (jx o t) = 0 ∧ jx (jx l o) t = jx l (jx o t) := by
  have e1 : jx l o = joinL l o := if_pos h1
  have e4 : jx o t = joinL o t := if_pos h4
  rw [e1] at h3
  rw [e1, e4]
  obtain ⟨hl, ho, _⟩ := joinE_zero h1
  obtain ⟨_, ht, hlen⟩ := joinE_zero h3
  have e := joinL_assoc (chk_zero hl).2.1 (chk_zero ho).2.1 (chk_zero ht).2.1
  have h5 : joinE l (joinL o t) = 0 := joinE_mk hl (joinE_right h4) (by rw [← e]; exact hlen)
  exact ⟨h5, by rw [jx, jx, if_pos h3, if_pos h5, e]⟩

theorem hear_orders {l : List Mem} {a b : Mem} (h1 : joinE l [a] = 0) (h2 : joinE (jx l [a]) [b] = 0) :
    joinE l [b] = 0 ∧ joinE (jx l [b]) [a] = 0 ∧ jx (jx l [b]) [a] = jx (jx l [a]) [b] ∧ joinE (jx (jx l [a]) [b]) [a] = 0 ∧ hearL (jx (jx l [a]) [b]) a = jx (jx l [a]) [b] := by
  have e1 : jx l [a] = hearL l a := if_pos h1
  rw [e1] at h2 ⊢
  have e2 : jx (hearL l a) [b] = hearL (hearL l a) b := if_pos h2
  rw [e2]
  obtain ⟨hl, ha, _⟩ := joinE_zero h1
  obtain ⟨_, hb, hlen⟩ := joinE_zero h2
  have hr := (chk_zero hl).2.1
  have hc := hearL_comm a b hr
  have hlen2 : (hearL (hearL l b) a).length ≤ 20 := by rw [← hc]; exact hlen
  have h3 : joinE l [b] = 0 := joinE_mk hl hb (Nat.le_trans (hearL_len (hearL l b) a).1 hlen2)
  have e3 : jx l [b] = hearL l b := if_pos h3
  rw [e3]
  have h4 : joinE (hearL l b) [a] = 0 := joinE_mk (joinE_right h3) ha hlen2
  have e4 : jx (hearL l b) [a] = hearL (hearL l b) a := if_pos h4
  rw [e4]
  have hid : hearL (hearL (hearL l a) b) a = hearL (hearL l a) b := by
    rw [hc, hearL_idem a (hearL_rise l b hr)]
  exact ⟨h3, h4, hc.symm, joinE_mk (joinE_right h2) ha (by show (hearL _ a).length ≤ 20; rw [hid]; exact hlen), hid⟩

end Go.Proofs.Ytcledbejggmfoac
