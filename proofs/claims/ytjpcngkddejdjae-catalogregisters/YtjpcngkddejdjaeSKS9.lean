/- The document's own Join of services; the law CatalogJoins. -/
import Derived.Test.YtjpcngkddejdjaeSKSP
import Derived.Test.YtjpcngkddejdjaeSK9A
namespace Go.Proofs.Ytjpcngkddejdjae
namespace Sv
open Go.RowKit

set_option maxHeartbeats 1600000 in
theorem newerR_vars (f : Nat) (hf : f = 14) (a_node : ByteArray) (a_idn : ByteArray) (a_name : ByteArray) (a_tag : ByteArray) (a_addr : Int) (a_port : Int) (a_passing : Bool) (a_version : Int) (a_gone : Bool) (b_node : ByteArray) (b_idn : ByteArray) (b_name : ByteArray) (b_tag : ByteArray) (b_addr : Int) (b_port : Int) (b_passing : Bool) (b_version : Int) (b_gone : Bool) (w : World) :
    Calls Try.prog f #[.agg #[.string a_node, .string a_idn, .string a_name, .string a_tag, .int .i64 a_addr, .int .i64 a_port, .bool a_passing, .int .i64 a_version, .bool a_gone], .agg #[.string b_node, .string b_idn, .string b_name, .string b_tag, .int .i64 b_addr, .int .i64 b_port, .bool b_passing, .int .i64 b_version, .bool b_gone]] w fun e w' => e = .returned (.bool (newE ⟨a_node, a_idn, a_name, a_tag, a_addr, a_port, a_passing, a_version, a_gone⟩ ⟨b_node, b_idn, b_name, b_tag, b_addr, b_port, b_passing, b_version, b_gone⟩)) ∧ Below w.heap.size w w' := by
  subst hf
  have hB : Hid (Below w.heap.size w ((w.alloc (.cells #[.string a_node, .string a_idn, .string a_name, .string a_tag, .int .i64 a_addr, .int .i64 a_port, .bool a_passing, .int .i64 a_version, .bool a_gone] 28)).alloc (.cells #[.string b_node, .string b_idn, .string b_name, .string b_tag, .int .i64 b_addr, .int .i64 b_port, .bool b_passing, .int .i64 b_version, .bool b_gone] 28))) := ((Below.refl _ _).alloc (Nat.le_refl _) _).alloc (by simp) _
  by_cases h1 : a_version = b_version
  · subst h1
    by_cases h2 : a_gone = b_gone
    · subst h2
      by_cases h3 : a_name = b_name
      · subst h3
        by_cases h4 : a_tag = b_tag
        · subst h4
          by_cases h5 : a_addr = b_addr
          · subst h5
            by_cases h6 : a_port = b_port
            · subst h6
              cases a_passing
              all_goals
                go_enter Try.func14, Try.ntmps14
                go_wp2
                go_ret
                exact ⟨ret_bool (by rw [newE_def]; simp), hB.out⟩
            · have h6' : (a_port != b_port) = true := by simpa using h6
              go_enter Try.func14, Try.ntmps14
              go_wp2
              go_ret
              exact ⟨ret_bool (by rw [newE_def]; simp [h6]), hB.out⟩
          · have h5' : (a_addr != b_addr) = true := by simpa using h5
            go_enter Try.func14, Try.ntmps14
            go_wp2
            go_ret
            exact ⟨ret_bool (by rw [newE_def]; simp [h5]), hB.out⟩
        · obtain ⟨g1, g2⟩ := beq_name h4
          have H4 : Hid (¬ a_tag = b_tag) := h4
          clear h4
          go_enter Try.func14, Try.ntmps14
          go_wp2
          go_ret
          exact ⟨ret_bool (by rw [newE_def]; simp [H4.out, less]; exact less_not H4.out), hB.out⟩
      · obtain ⟨g1, g2⟩ := beq_name h3
        have H3 : Hid (¬ a_name = b_name) := h3
        clear h3
        go_enter Try.func14, Try.ntmps14
        go_wp2
        go_ret
        exact ⟨ret_bool (by rw [newE_def]; simp [H3.out, less]; exact less_not H3.out), hB.out⟩
    · have hg : b_gone = !a_gone := by cases a_gone <;> cases b_gone <;> simp at h2 ⊢
      subst hg
      clear h2
      cases a_gone
      all_goals
        go_enter Try.func14, Try.ntmps14
        go_wp2
        go_ret
        exact ⟨ret_bool (by rw [newE_def]; simp), hB.out⟩
  · have h1' : (a_version != b_version) = true := by simpa using h1
    go_enter Try.func14, Try.ntmps14
    go_wp2
    go_ret
    exact ⟨ret_bool (by rw [newE_def]; simp [h1]), hB.out⟩


theorem newerR_any (a b : Svc) (w : World) :
    Calls Try.prog 14 #[.agg #[.string a.node, .string a.idn, .string a.name, .string a.tag, .int .i64 a.addr, .int .i64 a.port, .bool a.passing, .int .i64 a.version, .bool a.gone], .agg #[.string b.node, .string b.idn, .string b.name, .string b.tag, .int .i64 b.addr, .int .i64 b.port, .bool b.passing, .int .i64 b.version, .bool b.gone]] w fun e w' => e = .returned (.bool (newE a b)) ∧ Below w.heap.size w w' :=
  newerR_vars _ rfl a.node a.idn a.name a.tag a.addr a.port a.passing a.version a.gone b.node b.idn b.name b.tag b.addr b.port b.passing b.version b.gone w

/-- The place of a node's id; -1: there is none. -/
def AtI (ms : List Svc) (node idn : ByteArray) (r : Int) : Prop :=
  (∃ k : Nat, k < ms.length ∧ r = k ∧ (ms.getD k dm).node = node ∧ (ms.getD k dm).idn = idn) ∨ (r = -1 ∧ ∀ j, j < ms.length → ¬ ((ms.getD j dm).node = node ∧ (ms.getD j dm).idn = idn))

set_option maxHeartbeats 800000 in
theorem refAt_any (ms : List Svc) (v : Value) (node idn : ByteArray) (w : World) (hv : Sl w v ms) (hn : ms.length ≤ 1000000) :
    Calls Try.prog 39 #[v, .string node, .string idn] w fun e w' => ∃ r : Int, e = .returned (.int .i64 r) ∧ Hid (AtI ms node idn r) ∧ w' = w := by
  obtain ⟨pa, ca, rfl, _, ha⟩ := hv
  have HA : Hid (ms = [] ∨ ∃ b off, pa = some ⟨b, off, none⟩ ∧ b < w.heap.size ∧ Row w b off ms) := ha
  clear ha
  generalize hna : ms.length = n at *
  have HN : Hid (ms.length = n) := hna
  clear hna
  go_enter Try.func39, Try.ntmps39
  go_wp2_with fail
  go_loop [7] (fun i => ∃ k : Nat, k ≤ n ∧ i = .int .i64 k ∧ Hid (∀ j, j < k → ¬ ((ms.getD j dm).node = node ∧ (ms.getD j dm).idn = idn))) (fun i => n - (intOf i).toNat)
  case atStart => exact ⟨0, Nat.zero_le _, rfl, fun j h => absurd h (Nat.not_lt_zero _)⟩
  case round =>
    obtain ⟨k, hk, rfl, hz⟩ := hrel
    by_cases hlt : k < n
    · obtain ⟨b1, o1, hp1, hl1, hr1⟩ : ∃ b off, pa = some ⟨b, off, none⟩ ∧ b < w.heap.size ∧ Row w b off ms := by
        rcases HA.out with h | h
        · have := HN.out; rw [h] at this; simp at this; omega
        · exact h
      subst hp1
      obtain ⟨c0, c1, c2, c3, c4, c5, c6, c7, c8⟩ := hr1 k (by rw [HN.out]; exact hlt)
      clear hr1
      have HF : Hid ((ms.getD k dm).node = node → (ms.getD k dm).idn = idn → AtI ms node idn (k : Int)) := fun h h2 => .inl ⟨k, by rw [HN.out]; exact hlt, rfl, h, h2⟩
      have HZ : Hid (¬ ((ms.getD k dm).node = node ∧ (ms.getD k dm).idn = idn) → ∀ j, j < k + 1 → ¬ ((ms.getD j dm).node = node ∧ (ms.getD j dm).idn = idn)) := fun h j hj => by
        rcases Nat.lt_succ_iff_lt_or_eq.1 hj with h2 | rfl
        · exact hz.out j h2
        · exact h
      generalize ms.getD k dm = m at *
      obtain ⟨mn, mi, m2, m3, m4, m5, m6, m7, m8⟩ := m
      simp only at c0 c1
      by_cases he : mn = node
      · subst he
        by_cases he2 : mi = idn
        · subst he2
          have HF2 : Hid (AtI ms mn mi (k : Int)) := HF.out rfl rfl
          clear HF HZ
          go_wp2_with fail
          go_ret
          exact ⟨k, rfl, HF2, rfl⟩
        · obtain ⟨h1, h2⟩ := beq_name he2
          have HE : Hid (¬ mi = idn) := he2
          clear he2
          go_wp2_with fail
          go_round
          case rel => exact ⟨k + 1, by omega, by go_num, HZ.out (fun h => HE.out h.2)⟩
          case measure => simp [intOf]; omega
      · obtain ⟨h1, h2⟩ := beq_name he
        have HE : Hid (¬ mn = node) := he
        clear he
        go_wp2_with fail
        go_round
        case rel => exact ⟨k + 1, by omega, by go_num, HZ.out (fun h => HE.out h.1)⟩
        case measure => simp [intOf]; omega
    · go_wp2_with fail
      go_ret
      exact ⟨-1, rfl, .inr ⟨rfl, fun j hj => hz.out j (by have := HN.out; omega)⟩, rfl⟩

theorem ord_zero {a b : Svc} : ord a b = 0 ↔ a.node = b.node ∧ a.idn = b.idn := by
  constructor
  · intro h
    obtain ⟨h1, h2⟩ := RL.lex_zero h
    exact ⟨(cmpI_eq _ _).1 h1, (cmpI_eq _ _).1 h2⟩
  · rintro ⟨h1, h2⟩
    show (if cmpI a.node b.node = 0 then cmpI a.idn b.idn else cmpI a.node b.node) = 0
    rw [if_pos ((cmpI_eq _ _).2 h1)]; exact (cmpI_eq _ _).2 h2

theorem atI_at {ms : List Svc} {t : Svc} {r : Int} {p : Nat} {f : Bool} (hi : AtI ms t.node t.idn r) (ha : At ms t p f) (hr : Rise ms) : (f = true → r = p) ∧ (f = false → r = -1) := by
  rcases hi with ⟨k, hk, rfl, hn⟩ | ⟨rfl, hn⟩
  · obtain ⟨rfl, rfl⟩ := at_uniq ha (RL.at_of ord dm keyed hr hk (ord_zero.2 hn))
    exact ⟨fun _ => rfl, fun h => by cases h⟩
  · refine ⟨fun h => ?_, fun _ => rfl⟩
    have := ha.is.1 h
    exact absurd (ord_zero.1 this.2) (hn p this.1)

def atV (p : Nat) (f : Bool) : Int := if f = true then (p : Int) else -1
theorem refAtV (ms : List Svc) (v : Value) (t : Svc) (w : World) (hv : Sl w v ms) (hn : ms.length ≤ 1000000) (hr : Rise ms) (p : Nat) (f : Bool) (ha : At ms t p f) :
    Calls Try.prog 39 #[v, .string t.node, .string t.idn] w fun e w' => e = .returned (.int .i64 (atV p f)) ∧ Below w.heap.size w w' := by
  refine (refAt_any ms v t.node t.idn w hv hn).mono ?_
  rintro e w' ⟨r, rfl, hI, rfl⟩
  have h := atI_at hI.out ha hr
  refine ⟨?_, Below.refl _ _⟩
  cases f
  · rw [h.2 rfl]; rfl
  · rw [h.1 rfl]; rfl

theorem put_hear {ms : List Svc} {m : Svc} {p : Nat} {f : Bool} (h : At ms m p f) (hn : f = true → newE m (ms.getD p dm) = true) : RL.put ms m p f = hearL ms m := (RL.hear_put ord newE dm h hn).symm
theorem hearL_old {ms : List Svc} {m : Svc} {p : Nat} (h : At ms m p true) (hn : newE m (ms.getD p dm) = false) : hearL ms m = ms := by
  rw [hearL_at ms m p true h, if_pos rfl, if_neg (by rw [hn]; exact Bool.false_ne_true)]

set_option maxHeartbeats 6400000 in
set_option maxRecDepth 100000 in
theorem refJoin_any (a b : List Svc) (va vb : Value) (w : World) (ha : Sl w va a) (hb : Sl w vb b) (hla : a.length ≤ 100) (hlb : b.length ≤ 100) (hr : Rise a) :
    Calls Try.prog 21 #[va, vb] w fun e w' => ∃ v', e = .returned v' ∧ Hid (Sl w' v' (joinL a b)) ∧ Below w.heap.size w w' := by
  obtain ⟨pv, cb, rfl, nsb, hb⟩ := hb
  have HA : Hid (Sl w va a) := ha
  have HB : Hid (b = [] ∨ ∃ b_1 off, pv = some ⟨b_1, off, none⟩ ∧ b_1 < w.heap.size ∧ Row w b_1 off b) := hb
  have NA : Hid (∀ m ∈ a, m.ok) := sl_ok ha
  have NB : Hid (∀ m ∈ b, m.ok) := ns_mem nsb
  have RA : Hid (Rise a) := hr
  clear ha hb nsb hr
  generalize hnb : b.length = nb at *
  have HNB : Hid (b.length = nb) := hnb
  clear hnb
  go_enter Try.func21, Try.ntmps21
  go_wp2_with fail
  go_loopw [0, 5] (fun kn i w' => ∃ k : Nat, k ≤ nb ∧ i = .int .i64 k ∧ Below w.heap.size w w' ∧ Hid (Sl w' kn (joinL a (b.take k)))) (fun _ i _ => nb - (intOf i).toNat)
  case atStart => exact ⟨0, Nat.zero_le _, rfl, Below.refl _ _, HA⟩
  case round =>
    obtain ⟨k, hk, rfl, hbl, HO⟩ := hrel
    obtain ⟨hbc, hbf⟩ := bcell hbl
    have hsz := hbl.size
    by_cases hlt : k < nb
    · obtain ⟨b2, o2, hp2, hl2, hr2⟩ : ∃ b_1 off, pv = some ⟨b_1, off, none⟩ ∧ b_1 < w.heap.size ∧ Row w b_1 off b := by
        rcases HB.out with h | h
        · have := HNB.out; rw [h] at this; simp at this; omega
        · exact h
      subst hp2
      obtain ⟨c0, c1, c2, c3, c4, c5, c6, c7, c8⟩ := hr2 k (by rw [HNB.out]; exact hlt)
      clear hr2
      have HJ : Hid (joinL a (b.take (k + 1)) = hearL (joinL a (b.take k)) (b.getD k dm)) := joinL_take a b k (by rw [HNB.out]; exact hlt)
      have HR : Hid (Rise (joinL a (b.take k))) := joinL_rise _ _ RA.out
      have HL : Hid ((joinL a (b.take k)).length ≤ 1000) := by
        have h1 := joinL_len (b.take k) a
        have h2 : (b.take k).length ≤ k := List.length_take_le _ _
        show (joinL a (b.take k)).length ≤ 1000
        omega
      have HM : Hid ((b.getD k dm).ok) := ns_get NB.out k
      have HNJ : Hid (∀ m ∈ joinL a (b.take k), m.ok) := ns_join _ _ NA.out (fun x hx => NB.out x (List.mem_of_mem_take hx))
      generalize b.getD k dm = m at *
      generalize joinL a (b.take k) = known at *
      obtain ⟨p, f, hat⟩ := at_any known HR.out m
      have HAT : Hid (At known m p f) := hat
      have hpn := hat.le
      clear hat
      have hkl := HL.out
      have HP : Hid (∀ W v', Sl W v' known → Calls Try.prog 41 #[v', .agg #[.string m.node, .string m.idn, .string m.name, .string m.tag, .int .i64 m.addr, .int .i64 m.port, .bool m.passing, .int .i64 m.version, .bool m.gone]] W fun e w' => ∃ v2, e = .returned v2 ∧ Own (W.heap.size + 1) w' v2 (RL.put known m p f) ∧ Below W.heap.size W w') := fun W v' hs => refPut_any known v' m W hs HL.out HR.out p f HAT.out
      have hAtV : ∀ d os, Calls Try.prog 39 #[u0, .string m.node, .string m.idn] (Go.Sort.grow (redrawn wr d) os) fun e w'' => e = .returned (.int .i64 (atV p f)) ∧ ∃ p : Regrown, w'' = Go.Sort.grow (redrawn wr p.d) p.os := fun d os => Calls.regrown_of (refAtV known u0 m _ (HO.out.below (below_regrown wr d os)) (by omega) HR.out p f HAT.out)
      have E0 : ∀ d os, (Go.Sort.grow (redrawn wr d) os).cell? ⟨b2, o2 + k * 9, none⟩ = some (.string m.node) := cell_regrown ((hbc _ _ hl2).trans c0)
      have E1 : ∀ d os, (Go.Sort.grow (redrawn wr d) os).cell? ⟨b2, o2 + k * 9 + 1, none⟩ = some (.string m.idn) := cell_regrown ((hbc _ _ hl2).trans c1)
      have HCC : Hid (w.cell? ⟨b2, o2 + k * 9, none⟩ = some (.string m.node) ∧ w.cell? ⟨b2, o2 + k * 9 + 1, none⟩ = some (.string m.idn) ∧ w.cell? ⟨b2, o2 + k * 9 + 2, none⟩ = some (.string m.name) ∧ w.cell? ⟨b2, o2 + k * 9 + 3, none⟩ = some (.string m.tag) ∧ w.cell? ⟨b2, o2 + k * 9 + 4, none⟩ = some (.int .i64 m.addr) ∧ w.cell? ⟨b2, o2 + k * 9 + 5, none⟩ = some (.int .i64 m.port) ∧ w.cell? ⟨b2, o2 + k * 9 + 6, none⟩ = some (.bool m.passing) ∧ w.cell? ⟨b2, o2 + k * 9 + 7, none⟩ = some (.int .i64 m.version) ∧ w.cell? ⟨b2, o2 + k * 9 + 8, none⟩ = some (.bool m.gone)) := ⟨c0, c1, c2, c3, c4, c5, c6, c7, c8⟩
      clear c0 c1 c2 c3 c4 c5 c6 c7 c8 hbc hbf
      go_wp2_with fail
      refine wp_region_quiet_below (by kernel_rfl) (by kernel_rfl) ?_
      repeat (quiet_step (exact hAtV _ _))
      refine wpQuiet_nil ?_
      intro _ hw'
      obtain ⟨⟨dq, osq⟩, hw''⟩ := hw'
      subst hw''
      have HBQ : Hid (Below wr.heap.size wr (Go.Sort.grow (redrawn wr dq) osq)) := below_regrown wr dq osq
      clear hAtV E0 E1
      generalize Go.Sort.grow (redrawn wr dq) osq = wq at *
      have hblq : Below w.heap.size w wq := hbl.trans (HBQ.out.mono hsz)
      have HOq : Hid (Sl wq u0 known) := HO.out.below HBQ.out
      obtain ⟨hbcq, _⟩ := bcell hblq
      have hszq := hblq.size
      clear hbl hsz HO HBQ
      obtain ⟨c0, c1, c2, c3, c4, c5, c6, c7, c8⟩ := HCC.out
      cases f
      · have hv : atV p false = -1 := rfl
        rw [hv]
        have HST : Hid (RL.put known m p false = hearL known m) := put_hear HAT.out (fun h => by cases h)
        clear hv
        go_wp2_with fail
        go_quiet (fail)
        have HQ : Hid (Below wq.heap.size wq (wq.drewN nq)) := below_drewN (Below.refl _ _) _
        have HSQ : Hid (Sl (wq.drewN nq) u0 known) := HOq.out.below HQ.out
        go_wp2_with fail
        refine (HP.out (wq.drewN nq) u0 HSQ.out).mono ?_
        rintro e w2 ⟨v2, rfl, g1, g2⟩
        have HBX : Hid (Below w.heap.size w w2) := (hblq.trans (HQ.out.mono hszq)).trans (g2.mono hszq)
        have HOX : Hid (Sl w2 v2 (hearL known m)) := by rw [← HST.out]; exact own_names g1 (by rw [HST.out]; exact ns_hear HNJ.out HM.out)
        clear g1 g2 HQ HSQ
        go_wp2_with fail
        exact ⟨⟨k + 1, by omega, by go_num, HBX.out, by rw [HJ.out]; exact HOX.out⟩, by simp [intOf]; omega⟩
      · have hv : atV p true = (p : Int) := rfl
        rw [hv]
        clear hv
        have hp : p < known.length := (HAT.out.is.1 rfl).1
        obtain ⟨pa, ca, hva, _, hrow⟩ := HOq.out
        subst hva
        have b0 : decide ((p : Int) < 0) = false := decide_eq_false (by omega)
        obtain ⟨b3, o3, hp3, hl3, hr3⟩ : ∃ b_1 off, pa = some ⟨b_1, off, none⟩ ∧ b_1 < wq.heap.size ∧ Row wq b_1 off known := by
          rcases hrow with h | h
          · rw [h] at hp; simp at hp
          · exact h
        subst hp3
        obtain ⟨d0, d1, d2, d3, d4, d5, d6, d7, d8⟩ := hr3 p hp
        clear hr3 hrow
        generalize hx : known.getD p dm = x at *
        have HX : Hid (known.getD p dm = x) := hx
        clear hx
        have F0 : ∀ d os, (Go.Sort.grow (redrawn wq d) os).cell? ⟨b2, o2 + k * 9, none⟩ = some (.string m.node) := cell_regrown ((hbcq _ _ hl2).trans c0)
        have F1 : ∀ d os, (Go.Sort.grow (redrawn wq d) os).cell? ⟨b2, o2 + k * 9 + 1, none⟩ = some (.string m.idn) := cell_regrown ((hbcq _ _ hl2).trans c1)
        have F2 : ∀ d os, (Go.Sort.grow (redrawn wq d) os).cell? ⟨b2, o2 + k * 9 + 2, none⟩ = some (.string m.name) := cell_regrown ((hbcq _ _ hl2).trans c2)
        have F3 : ∀ d os, (Go.Sort.grow (redrawn wq d) os).cell? ⟨b2, o2 + k * 9 + 3, none⟩ = some (.string m.tag) := cell_regrown ((hbcq _ _ hl2).trans c3)
        have F4 : ∀ d os, (Go.Sort.grow (redrawn wq d) os).cell? ⟨b2, o2 + k * 9 + 4, none⟩ = some (.int .i64 m.addr) := cell_regrown ((hbcq _ _ hl2).trans c4)
        have F5 : ∀ d os, (Go.Sort.grow (redrawn wq d) os).cell? ⟨b2, o2 + k * 9 + 5, none⟩ = some (.int .i64 m.port) := cell_regrown ((hbcq _ _ hl2).trans c5)
        have F6 : ∀ d os, (Go.Sort.grow (redrawn wq d) os).cell? ⟨b2, o2 + k * 9 + 6, none⟩ = some (.bool m.passing) := cell_regrown ((hbcq _ _ hl2).trans c6)
        have F7 : ∀ d os, (Go.Sort.grow (redrawn wq d) os).cell? ⟨b2, o2 + k * 9 + 7, none⟩ = some (.int .i64 m.version) := cell_regrown ((hbcq _ _ hl2).trans c7)
        have F8 : ∀ d os, (Go.Sort.grow (redrawn wq d) os).cell? ⟨b2, o2 + k * 9 + 8, none⟩ = some (.bool m.gone) := cell_regrown ((hbcq _ _ hl2).trans c8)
        have G0 : ∀ d os, (Go.Sort.grow (redrawn wq d) os).cell? ⟨b3, o3 + p * 9, none⟩ = some (.string x.node) := cell_regrown d0
        have G1 : ∀ d os, (Go.Sort.grow (redrawn wq d) os).cell? ⟨b3, o3 + p * 9 + 1, none⟩ = some (.string x.idn) := cell_regrown d1
        have G2 : ∀ d os, (Go.Sort.grow (redrawn wq d) os).cell? ⟨b3, o3 + p * 9 + 2, none⟩ = some (.string x.name) := cell_regrown d2
        have G3 : ∀ d os, (Go.Sort.grow (redrawn wq d) os).cell? ⟨b3, o3 + p * 9 + 3, none⟩ = some (.string x.tag) := cell_regrown d3
        have G4 : ∀ d os, (Go.Sort.grow (redrawn wq d) os).cell? ⟨b3, o3 + p * 9 + 4, none⟩ = some (.int .i64 x.addr) := cell_regrown d4
        have G5 : ∀ d os, (Go.Sort.grow (redrawn wq d) os).cell? ⟨b3, o3 + p * 9 + 5, none⟩ = some (.int .i64 x.port) := cell_regrown d5
        have G6 : ∀ d os, (Go.Sort.grow (redrawn wq d) os).cell? ⟨b3, o3 + p * 9 + 6, none⟩ = some (.bool x.passing) := cell_regrown d6
        have G7 : ∀ d os, (Go.Sort.grow (redrawn wq d) os).cell? ⟨b3, o3 + p * 9 + 7, none⟩ = some (.int .i64 x.version) := cell_regrown d7
        have G8 : ∀ d os, (Go.Sort.grow (redrawn wq d) os).cell? ⟨b3, o3 + p * 9 + 8, none⟩ = some (.bool x.gone) := cell_regrown d8
        have hN : ∀ d os, Calls Try.prog 14 #[.agg #[.string m.node, .string m.idn, .string m.name, .string m.tag, .int .i64 m.addr, .int .i64 m.port, .bool m.passing, .int .i64 m.version, .bool m.gone], .agg #[.string x.node, .string x.idn, .string x.name, .string x.tag, .int .i64 x.addr, .int .i64 x.port, .bool x.passing, .int .i64 x.version, .bool x.gone]] (Go.Sort.grow (redrawn wq d) os) fun e w'' => e = .returned (.bool (newE m x)) ∧ ∃ p : Regrown, w'' = Go.Sort.grow (redrawn wq p.d) p.os := fun d os => Calls.regrown_of (newerR_any m x _)
        clear c0 c1 c2 c3 c4 c5 c6 c7 c8 d0 d1 d2 d3 d4 d5 d6 d7 d8
        rcases hnw : newE m x with _ | _
        · have HST : Hid (hearL known m = known) := hearL_old HAT.out (by rw [HX.out]; exact hnw)
          rw [hnw] at hN
          clear hnw
          go_wp2_with fail
          refine wp_region_quiet_below (by kernel_rfl) (by kernel_rfl) ?_
          repeat (quiet_step (exact hN _ _))
          refine wpQuiet_nil ?_
          intro _ hw'
          obtain ⟨⟨dq, osq⟩, hw''⟩ := hw'
          subst hw''
          have HBQ : Hid (Below wq.heap.size wq (Go.Sort.grow (redrawn wq dq) osq)) := below_regrown wq dq osq
          clear hN F0 F1 F2 F3 F4 F5 F6 F7 F8 G0 G1 G2 G3 G4 G5 G6 G7 G8
          go_wp2_with fail
          exact ⟨⟨k + 1, by omega, by go_num, hblq.trans (HBQ.out.mono hszq), by rw [HJ.out, HST.out]; exact HOq.out.below HBQ.out⟩, by simp [intOf]; omega⟩
        · have HST : Hid (RL.put known m p true = hearL known m) := put_hear HAT.out (fun _ => by rw [HX.out]; exact hnw)
          rw [hnw] at hN
          clear hnw
          go_wp2_with fail
          refine wp_region_quiet_below (by kernel_rfl) (by kernel_rfl) ?_
          repeat (quiet_step (exact hN _ _))
          refine wpQuiet_nil ?_
          intro _ hw'
          obtain ⟨⟨dq, osq⟩, hw''⟩ := hw'
          subst hw''
          have HBQ : Hid (Below wq.heap.size wq (Go.Sort.grow (redrawn wq dq) osq)) := below_regrown wq dq osq
          clear hN F0 F1 F2 F3 F4 F5 F6 F7 F8 G0 G1 G2 G3 G4 G5 G6 G7 G8
          generalize Go.Sort.grow (redrawn wq dq) osq = wz at *
          have HSQ : Hid (Sl wz (.slice (some ⟨b3, o3, none⟩) known.length ca) known) := HOq.out.below HBQ.out
          have hblz : Below w.heap.size w wz := hblq.trans (HBQ.out.mono hszq)
          obtain ⟨hbcz, _⟩ := bcell hblz
          have hszz := hblz.size
          obtain ⟨c0, c1, c2, c3, c4, c5, c6, c7, c8⟩ := HCC.out
          clear hblq hbcq hszq HOq HBQ
          go_wp2_with fail
          refine (HP.out wz (.slice (some ⟨b3, o3, none⟩) known.length ca) HSQ.out).mono ?_
          rintro e w2 ⟨v2, rfl, g1, g2⟩
          have HBX : Hid (Below w.heap.size w w2) := hblz.trans (g2.mono hszz)
          have HOX : Hid (Sl w2 v2 (hearL known m)) := by rw [← HST.out]; exact own_names g1 (by rw [HST.out]; exact ns_hear HNJ.out HM.out)
          clear g1 g2 HSQ
          go_wp2_with fail
          exact ⟨⟨k + 1, by omega, by go_num, HBX.out, by rw [HJ.out]; exact HOX.out⟩, by simp [intOf]; omega⟩
    · have HF : Hid (Sl wr u0 (joinL a b)) := by
        have h := HO.out
        rw [List.take_of_length_le (by rw [HNB.out]; omega)] at h
        exact h
      go_wp2_with fail
      go_ret
      exact ⟨u0, rfl, HF, hbl⟩

set_option maxHeartbeats 2000000 in
set_option maxRecDepth 100000 in
theorem catalogJoins_walk (a b : List Svc) (va vb : Value) (w : World) (ha : Sl w va a) (hb : Sl w vb b) :
    Calls Try.prog 6 #[va, vb] w fun e w' => e = .returned (.bool true) ∧ Below w.heap.size w w' := by
  have HA : Hid (Sl w va a) := ha
  have HB : Hid (Sl w vb b) := hb
  have HNA : Hid (∀ m ∈ a, m.ok) := sl_ok ha
  have HNB : Hid (∀ m ∈ b, m.ok) := sl_ok hb
  clear ha hb
  go_enter Try.func6, Try.ntmps6
  go_wp2_with fail
  refine (join2_any a b _ _ _ HA.out HB.out).mono ?_
  rintro e w1 ⟨v1, rfl, hb1, hbad, hgood⟩
  have HBAD : Hid (joinE a b ≠ 0 → v1 = .slice none 0 0) := hbad
  have HGOOD : Hid (joinE a b = 0 → Own w.heap.size w1 v1 (joinL a b)) := hgood
  clear hbad hgood
  have HA1 : Hid (Sl w1 va a) := HA.out.below hb1
  have HB1 : Hid (Sl w1 vb b) := HB.out.below hb1
  have HW1 : Hid (Below w.heap.size w w1) := hb1
  clear hb1
  by_cases hc : chk a = 0
  · have hec : (chk a == 0) = true := by simpa using hc
    by_cases hd : chk b = 0
    · have hed : (chk b == 0) = true := by simpa using hd
      have HE : Hid (joinE a b = if 40 < (joinL a b).length then 2 else 0) := joinE_good hc hd
      have hz := chk_zero hc
      have hz2 := chk_zero hd
      have HRI : Hid (Rise a) := hz.2.1
      have hla := hz.1
      have hlb := hz2.1
      have HD : Hid (chk b = 0) := hd
      clear hz hz2 hc hd
      go_wp2_with fail
      refine (refCheck_any a _ _ HA1.out).mono ?_
      rintro e w2 ⟨rfl, hb2⟩
      have HA2 : Hid (Sl w2 va a) := HA1.out.below hb2
      have HB2 : Hid (Sl w2 vb b) := HB1.out.below hb2
      have HW2 : Hid (Below w1.heap.size w1 w2) := hb2
      clear hb2
      go_wp2_with fail
      refine (refCheck_any b _ _ HB2.out).mono ?_
      rintro e w3 ⟨rfl, hb3⟩
      have HA3 : Hid (Sl w3 va a) := HA2.out.below hb3
      have HB3 : Hid (Sl w3 vb b) := HB2.out.below hb3
      have HW3 : Hid (Below w1.heap.size w1 w3) := HW2.out.trans (hb3.mono HW2.out.size)
      clear hb3
      go_wp2_with fail
      refine (refJoin_any a b va vb _ HA3.out HB3.out (by omega) (by omega) HRI.out).mono ?_
      rintro e w4 ⟨v4, rfl, HS4, hb4⟩
      have HW4 : Hid (Below w1.heap.size w1 w4) := HW3.out.trans (hb4.mono HW3.out.size)
      clear hb4
      obtain ⟨p4, c4, hv4⟩ : ∃ p c, v4 = .slice p (joinL a b).length c := by
        obtain ⟨p, c, h, _⟩ := HS4.out
        exact ⟨p, c, h⟩
      subst hv4
      have hjl := joinL_len b a
      have HJ : Hid (∀ m ∈ joinL a b, m.ok) := ns_join b a HNA.out HNB.out
      by_cases h20 : 40 < (joinL a b).length
      · have hje : joinE a b = 2 := HE.out.trans (if_pos h20)
        have hv1 := HBAD.out (by rw [hje]; decide)
        subst hv1
        rw [hje]
        clear hje
        go_wp2_with fail
        refine (begun_any _).mono ?_
        rintro e w5 ⟨rfl, hb5⟩
        have HW5 : Hid (Below w1.heap.size w1 w5) := HW4.out.trans (hb5.mono HW4.out.size)
        clear hb5
        go_wp2_with (go_at_call 19; refine (are_bad _ _ _ _ (by decide) (by decide)).mono ?_; rintro e w6 ⟨rfl, hb6⟩)
        go_ret
        have h16 := HW5.out.trans (hb6.mono HW5.out.size)
        exact ⟨rfl, HW1.out.trans (h16.mono HW1.out.size)⟩
      · have hje : joinE a b = 0 := HE.out.trans (if_neg h20)
        have HO := HGOOD.out hje
        have HO1 : Hid (Own w.heap.size w1 v1 (joinL a b)) := HO
        have HJE : Hid (joinE a b = 0) := hje
        clear hje HO HBAD HGOOD
        go_wp2_with fail
        refine (begun_any _).mono ?_
        rintro e w5 ⟨rfl, hb5⟩
        have HW5 : Hid (Below w1.heap.size w1 w5) := HW4.out.trans (hb5.mono HW4.out.size)
        have HS5 : Hid (Sl w5 (.slice p4 (joinL a b).length c4) (joinL a b)) := HS4.out.below hb5
        have HS6 : Hid (Sl w5 v1 (joinL a b)) := (own_names HO1.out HJ.out).below HW5.out
        clear hb5
        go_wp2_with (go_at_call 19; refine (are_ok (joinL a b) _ _ _ _ _ HD.out (HJE.out.trans HD.out.symm) HS6.out HS5.out (by omega)).mono ?_; rintro e w6 ⟨rfl, hb6⟩)
        go_ret
        have h16 := HW5.out.trans (hb6.mono HW5.out.size)
        exact ⟨ret_bool (by simp), HW1.out.trans (h16.mono HW1.out.size)⟩
    · have hed : (chk b == 0) = false := by simpa using hd
      have HNE : Hid (chk b ≠ 0) := hd
      have HJE : Hid (joinE a b = chk b) := joinE_bad2 hc hd
      have hv1 := HBAD.out (by rw [HJE.out]; exact hd)
      subst hv1
      clear hc hd HBAD HGOOD
      go_wp2_with fail
      refine (refCheck_any a _ _ HA1.out).mono ?_
      rintro e w2 ⟨rfl, hb2⟩
      have HB2 : Hid (Sl w2 vb b) := HB1.out.below hb2
      have HW2 : Hid (Below w1.heap.size w1 w2) := hb2
      clear hb2
      go_wp2_with fail
      refine (refCheck_any b _ _ HB2.out).mono ?_
      rintro e w3 ⟨rfl, hb3⟩
      have HW3 : Hid (Below w1.heap.size w1 w3) := HW2.out.trans (hb3.mono HW2.out.size)
      clear hb3
      go_wp2_with fail
      refine (begun_any _).mono ?_
      rintro e w5 ⟨rfl, hb5⟩
      have HW5 : Hid (Below w1.heap.size w1 w5) := HW3.out.trans (hb5.mono HW3.out.size)
      clear hb5
      go_wp2_with (go_at_call 19; refine (are_bad _ _ _ _ HNE.out HJE.out).mono ?_; rintro e w6 ⟨rfl, hb6⟩)
      go_ret
      have h16 := HW5.out.trans (hb6.mono HW5.out.size)
      exact ⟨ret_bool (by simp), HW1.out.trans (h16.mono HW1.out.size)⟩
  · have hec : (chk a == 0) = false := by simpa using hc
    have HNE : Hid (chk a ≠ 0) := hc
    have HJE : Hid (joinE a b = chk a) := joinE_bad1 hc
    have hv1 := HBAD.out (by rw [HJE.out]; exact hc)
    subst hv1
    clear hc HBAD HGOOD
    go_wp2_with fail
    refine (refCheck_any a _ _ HA1.out).mono ?_
    rintro e w2 ⟨rfl, hb2⟩
    have HW2 : Hid (Below w1.heap.size w1 w2) := hb2
    clear hb2
    go_wp2_with fail
    refine (begun_any _).mono ?_
    rintro e w5 ⟨rfl, hb5⟩
    have HW5 : Hid (Below w1.heap.size w1 w5) := HW2.out.trans (hb5.mono HW2.out.size)
    clear hb5
    go_wp2_with (go_at_call 19; refine (are_bad _ _ _ _ HNE.out HJE.out).mono ?_; rintro e w6 ⟨rfl, hb6⟩)
    go_ret
    have h16 := HW5.out.trans (hb6.mono HW5.out.size)
    exact ⟨ret_bool (by simp), HW1.out.trans (h16.mono HW1.out.size)⟩

end Sv
end Go.Proofs.Ytjpcngkddejdjae
