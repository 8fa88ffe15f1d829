/- SKS1, MK1, MK2 -/
import Derived.Test.YtignmeaeibaejaaGreatV7
import Derived.Test.YtignmeaeibaejaaGreatV2
import Derived.Test.YtignmeaeibaejaaGreatV3
/- Register and Find; what must be in any case of services. -/
namespace Go.Proofs.YtignmeaeibaejaaGreat
namespace Sv
open Go.RowKit

theorem e_zero {m : Svc} (h : m.e = 0) : labB m.node = true ∧ labB m.idn = true ∧ labB m.name = true ∧ tagB m.tag = true ∧ 1 ≤ m.version ∧ m.version ≤ 1000000 := by
  unfold Svc.e at h
  split at h
  · rename_i h1
    split at h
    · rename_i h2
      simp [within] at h1 h2
      exact ⟨h1.1, h1.2.1, h1.2.2.1, h1.2.2.2, h2.2.2.1, h2.2.2.2⟩
    · omega
  · omega
theorem e_at {ms : List Svc} (h : firstE ms = 0) (p : Nat) (hp : p < ms.length) : (ms.getD p dm).e = 0 := by
  have := firstE_mem ms h ms[p] (List.getElem_mem hp)
  simpa [List.getD, List.getElem?_eq_getElem hp] using this
theorem fnd_ver {ms : List Svc} {t : Svc} (h : firstE ms = 0) {p : Nat} {f : Bool} (hat : At ms t p f) : 0 ≤ (fnd ms p f).version ∧ (fnd ms p f).version ≤ 1000000 := by
  cases f
  · exact ⟨by show (0 : Int) ≤ 0; omega, by show (0 : Int) ≤ 1000000; omega⟩
  · have := (e_zero (e_at h p (hat.is.1 rfl).1)).2.2.2.2
    rw [fnd, if_pos rfl]
    omega

/-- E3: the service as it is registered: by one more version, not gone. -/
def reg (ms : List Svc) (p : Nat) (f : Bool) (s : Svc) : Svc := { s with version := (fnd ms p f).version + 1, gone := false }
theorem reg_ok {ms : List Svc} {p : Nat} {f : Bool} {s : Svc} (h : s.ok) : (reg ms p f s).ok := h
/-- The key of a service. -/
def keyOf (s : Svc) : Svc := ⟨s.node, s.idn, ⟨#[]⟩, ⟨#[]⟩, 0, 0, false, 0, false⟩

/-- E4: is a service one that Find tells? -/
def keep (name tag : ByteArray) (m : Svc) : Bool := (m.name.toList == name.toList) && ((tag.toList == []) || (m.tag.toList == tag.toList)) && m.passing && !m.gone
def findL (ms : List Svc) (name tag : ByteArray) : List Svc := ms.filter (keep name tag)
def findE (name tag : ByteArray) : Int := if (labB name && tagB tag) = true then 0 else 1

theorem findL_yes {ms : List Svc} {name tag : ByteArray} {k : Nat} (hk : k < ms.length) (h : keep name tag (ms.getD k dm) = true) : findL (ms.take (k + 1)) name tag = findL (ms.take k) name tag ++ [ms.getD k dm] := by
  rw [RL.getD_el dm hk] at h ⊢
  rw [findL, findL, List.take_succ_eq_append_getElem hk, List.filter_append, List.filter_cons_of_pos h]
  rfl
theorem findL_no {ms : List Svc} {name tag : ByteArray} {k : Nat} (hk : k < ms.length) (h : keep name tag (ms.getD k dm) = false) : findL (ms.take (k + 1)) name tag = findL (ms.take k) name tag := by
  rw [RL.getD_el dm hk] at h
  rw [findL, findL, List.take_succ_eq_append_getElem hk, List.filter_append, List.filter_cons_of_neg (by rw [h]; exact Bool.false_ne_true)]
  simp
theorem findL_len (ms : List Svc) (name tag : ByteArray) : (findL ms name tag).length ≤ ms.length := List.length_filter_le _ _
theorem findL_ok {ms : List Svc} {name tag : ByteArray} (h : ∀ m ∈ ms, m.ok) : ∀ m ∈ findL ms name tag, m.ok := fun m hm => h m (List.mem_filter.1 hm).1

/-- Why a service is not told, or is. -/
theorem keep_why (name tag : ByteArray) (m : Svc) :
    (keep name tag m = false ∧ ((m.name.toList == name.toList) = false ∨ ((m.name.toList == name.toList) = true ∧ (tag.toList == []) = false ∧ (m.tag.toList == tag.toList) = false)
      ∨ ((m.name.toList == name.toList) = true ∧ (tag.toList == []) = true ∧ m.passing = false) ∨ ((m.name.toList == name.toList) = true ∧ (tag.toList == []) = false ∧ (m.tag.toList == tag.toList) = true ∧ m.passing = false)
      ∨ ((m.name.toList == name.toList) = true ∧ (tag.toList == []) = true ∧ m.passing = true ∧ m.gone = true) ∨ ((m.name.toList == name.toList) = true ∧ (tag.toList == []) = false ∧ (m.tag.toList == tag.toList) = true ∧ m.passing = true ∧ m.gone = true)))
    ∨ (keep name tag m = true ∧ (((m.name.toList == name.toList) = true ∧ (tag.toList == []) = true ∧ m.passing = true ∧ m.gone = false) ∨ ((m.name.toList == name.toList) = true ∧ (tag.toList == []) = false ∧ (m.tag.toList == tag.toList) = true ∧ m.passing = true ∧ m.gone = false))) := by
  unfold keep
  generalize (m.name.toList == name.toList) = b1
  generalize (tag.toList == []) = b2
  generalize (m.tag.toList == tag.toList) = b3
  generalize m.passing = b4
  generalize m.gone = b5
  cases b1 <;> cases b2 <;> cases b3 <;> cases b4 <;> cases b5 <;> simp

set_option maxHeartbeats 400000 in
theorem findS_bad (ms : List Svc) (v : Value) (name tag : ByteArray) (w : World) (hv : Sl w v ms) (hne : chk ms ≠ 0) :
    Calls Tryz.prog 48 #[v, .string name, .string tag] w fun e w' => e = .returned (.tuple #[.slice none 0 0, .int .i64 (chk ms)]) ∧ Below w.heap.size w w' := by
  have he : (chk ms != 0) = true := by simpa using hne
  have HV : Hid (Sl w v ms) := hv
  clear hne hv
  go_enter Tryz.func48, Tryz.ntmps48
  go_wp2_with (go_at_call 22; refine (check_any ms _ _ HV.out).mono ?_; rintro e w' ⟨rfl, hb2⟩)
  go_ret2
  exact ⟨rfl, hb2⟩

set_option maxHeartbeats 800000 in
theorem findS_form (ms : List Svc) (v : Value) (name tag : ByteArray) (w : World) (hv : Sl w v ms) (h0 : chk ms = 0) (hn : name.size ≤ maxLen) (ht : tag.size ≤ maxLen) (hl : findE name tag ≠ 0) :
    Calls Tryz.prog 48 #[v, .string name, .string tag] w fun e w' => e = .returned (.tuple #[.slice none 0 0, .int .i64 (findE name tag)]) ∧ Below w.heap.size w w' := by
  have he : (chk ms != 0) = false := by simpa using h0
  have HV : Hid (Sl w v ms) := hv
  have HE : Hid (findE name tag = 1) := by
    show findE name tag = 1
    unfold findE at hl ⊢
    split at hl
    · exact absurd rfl hl
    · rename_i h; rw [if_neg h]
  have hll : (labB name && tagB tag) = false := by
    unfold findE at hl
    cases h : (labB name && tagB tag)
    · rfl
    · rw [h, if_pos rfl] at hl; exact absurd rfl hl
  clear hv h0 hl
  rcases h1 : labB name with _ | _
  · go_enter Tryz.func48, Tryz.ntmps48
    go_wp2_with (first | (go_at_call 22; refine (check_any ms _ _ HV.out).mono ?_; rintro e w' ⟨rfl, hb2⟩) | (go_at_call 21; refine (label_any _ _ hn).mono ?_; rintro e w' ⟨rfl, rfl⟩; rw [h1]))
    go_ret2
    exact ⟨by rw [HE.out]; rfl, hb2⟩
  · have h2 : tagB tag = false := by rw [h1] at hll; simpa using hll
    go_enter Tryz.func48, Tryz.ntmps48
    go_wp2_with (first | (go_at_call 22; refine (check_any ms _ _ HV.out).mono ?_; rintro e w' ⟨rfl, hb2⟩) | (go_at_call 21; refine (label_any _ _ hn).mono ?_; rintro e w' ⟨rfl, rfl⟩; rw [h1]) | (go_at_call 34; refine (tag_any tag _ _ ht (heap_new1 _ _)).mono ?_; rintro e w3 ⟨rfl, rfl⟩; rw [h2]))
    go_ret2
    exact ⟨by rw [HE.out]; rfl, hb2.alloc hb2.size _⟩

set_option maxHeartbeats 6400000 in
set_option maxRecDepth 100000 in
theorem findS_good (ms : List Svc) (v : Value) (name tag : ByteArray) (w : World) (hv : Sl w v ms) (h0 : chk ms = 0) (hn : name.size ≤ maxLen) (ht : tag.size ≤ maxLen) (hl : findE name tag = 0) :
    Calls Tryz.prog 48 #[v, .string name, .string tag] w fun e w' => ∃ v', e = .returned (.tuple #[v', .int .i64 0]) ∧ Own w.heap.size w' v' (findL ms name tag) ∧ Below w.heap.size w w' := by
  obtain ⟨i0, hi0, hz0, hzs, hzb⟩ := info_parts Tryz.info39
  have he : (chk ms != 0) = false := by simpa using h0
  have hlen := (chk_zero h0).1
  have HV : Hid (Sl w v ms) := hv
  have hll : labB name = true ∧ tagB tag = true := by
    unfold findE at hl
    split at hl
    · rename_i h; simpa using h
    · cases hl
  obtain ⟨h1, h2⟩ := hll
  obtain ⟨pa, ca, rfl, _, ha⟩ := hv
  have HA : Hid (ms = [] ∨ ∃ b off, pa = some ⟨b, off, none⟩ ∧ b < w.heap.size ∧ Row w b off ms) := ha
  clear ha h0 hl
  generalize hna : ms.length = n at *
  have HN : Hid (ms.length = n) := hna
  clear hna
  go_enter Tryz.func48, Tryz.ntmps48
  go_wp2_with (first | (go_at_call 22; refine (check_any ms _ _ HV.out).mono ?_; rintro e w1 ⟨rfl, hb1⟩) | (go_at_call 21; refine (label_any _ _ hn).mono ?_; rintro e w' ⟨rfl, rfl⟩; rw [h1]) | (go_at_call 34; refine (tag_any tag _ _ ht (heap_new1 _ _)).mono ?_; rintro e w3 ⟨rfl, rfl⟩; rw [h2]))
  have HB1 : Hid (Below w.heap.size w _) := hb1.alloc hb1.size (.cells #[.string tag] 9)
  have hs1 := HB1.out.size
  clear hb1 HV
  go_loopw [9, 28] (fun kn i w' => ∃ k : Nat, k ≤ n ∧ i = .int .i64 k ∧ Below w.heap.size w w' ∧ Hid (Own w.heap.size w' kn (findL (ms.take k) name tag))) (fun _ i _ => n - (intOf i).toNat)
  case atStart => exact ⟨0, Nat.zero_le _, rfl, HB1.out, own_nil _ _⟩
  case round =>
    obtain ⟨k, hk, rfl, hbl, HO⟩ := hrel
    obtain ⟨hbc, hbf⟩ := bcell hbl
    have hsz := hbl.size
    have hll2 : (findL (ms.take k) name tag).length ≤ 40 := by have h1 := findL_len (ms.take k) name tag; have h2 : (ms.take k).length ≤ k := List.length_take_le _ _; omega
    by_cases hlt : k < n
    · obtain ⟨b1, o1, hp1, hl1, hr1⟩ : ∃ b off, pa = some ⟨b, off, none⟩ ∧ b < w.heap.size ∧ Row w b off ms := by
        rcases HA.out with h | h
        · have := HN.out; rw [h] at this; simp at this; omega
        · exact h
      subst hp1
      obtain ⟨c0, c1, c2, c3, c4, c5, c6, c7, c8⟩ := hr1 k (by rw [HN.out]; exact hlt)
      clear hr1
      have hkl : k < ms.length := by rw [HN.out]; exact hlt
      have HY : Hid (keep name tag (ms.getD k dm) = true → findL (ms.take (k + 1)) name tag = findL (ms.take k) name tag ++ [ms.getD k dm]) := fun h => findL_yes hkl h
      have HNO : Hid (keep name tag (ms.getD k dm) = false → findL (ms.take (k + 1)) name tag = findL (ms.take k) name tag) := fun h => findL_no hkl h
      generalize ms.getD k dm = m at *
      rcases keep_why name tag m with ⟨hkp, hw⟩ | ⟨hkp, hw⟩
      · have HST : Hid (findL (ms.take (k + 1)) name tag = findL (ms.take k) name tag) := HNO.out hkp
        clear HY HNO hkp
        rcases hw with h | ⟨h, g1, g2⟩ | ⟨h, g1, g2⟩ | ⟨h, g1, g2, g3⟩ | ⟨h, g1, g2, g3⟩ | ⟨h, g1, g2, g3, g4⟩
        all_goals
          go_wp2_with fail
          go_roundw
          case rel => exact ⟨k + 1, by omega, by go_num, hbl.alloc hsz _, by rw [HST.out]; exact HO.out.below ((Below.refl _ _).alloc (Nat.le_refl _) _)⟩
          case measure => simp [intOf]; omega
      · have HST : Hid (findL (ms.take (k + 1)) name tag = findL (ms.take k) name tag ++ [m]) := HY.out hkp
        clear HY HNO hkp
        generalize findL (ms.take k) name tag = L at *
        rcases hw with ⟨h, g1, gp, gg⟩ | ⟨h, g1, g2, gp, gg⟩
        all_goals
          go_wp2_with (at_builtin; refine wpList_append_own _ rfl _ _ 24 rfl w.heap.size 39 i0 _ 9 104 Tryz.underlying24 hi0 hz0 hzs hzb rfl (by omega) _ L.length (fl L) rfl ?hown ⟨wr.heap.size + 1, 0, none⟩ 1 1 m.cs rfl rfl ?hnews (cs_one _) ?h63 ?hbytes ?hbase ?_)
          case hown => exact HO.out.below (((Below.refl _ _).alloc (Nat.le_refl _) _).alloc (by simp) _)
          case hnews => (intro j u hj; rw [Addr.add_lit]; exact (cell_topL (by simp)).trans (by simpa [Svc.cs, gp, gg] using hj))
          case h63 => (unfold maxLen; omega)
          case hbytes => omega
          case hbase => (simp; omega)
          all_goals
            intro v' w2 r1 r2 r3
            have HBX : Hid (Below w.heap.size w w2) := ((hbl.alloc hsz _).alloc (by simp; omega) _).grown r2 (by simp; omega) (fun j hj => (HO.out.lt j hj).1)
            have HOX : Hid (Own w.heap.size w2 v' (L ++ [m])) := own_snoc r1
            clear r1 r2 r3
            go_wp2_with fail
            go_roundw
            case rel => exact ⟨k + 1, by omega, by go_num, HBX.out, by rw [HST.out]; exact HOX.out⟩
            case measure => simp [intOf]; omega
    · have hkn : k = n := by omega
      subst hkn
      have HFO : Hid (Own w.heap.size wr u9 (findL ms name tag)) := by
        have h := HO.out
        rw [List.take_of_length_le (by rw [HN.out]; exact Nat.le_refl _)] at h
        exact h
      go_wp2_with fail
      go_ret2
      exact ⟨u9, rfl, HFO.out, hbl⟩

end Sv
end Go.Proofs.YtignmeaeibaejaaGreat

/- Lists of members in memory. -/
namespace Go.Proofs.YtignmeaeibaejaaGreat

open Go.RowKit

structure Mem where
  name : ByteArray
  state : Int
  life : Int
  addr : Int
  server : Bool

def dm : Mem := ⟨ByteArray.empty, 0, 0, 0, false⟩

def Row (w : World) (b off : Nat) (ms : List Mem) : Prop := ∀ j, j < ms.length →
  w.cell? ⟨b, off + j * 5, none⟩ = some (.string (ms.getD j dm).name) ∧ w.cell? ⟨b, off + j * 5 + 1, none⟩ = some (.int .i64 (ms.getD j dm).state) ∧ w.cell? ⟨b, off + j * 5 + 2, none⟩ = some (.int .i64 (ms.getD j dm).life) ∧ w.cell? ⟨b, off + j * 5 + 3, none⟩ = some (.int .i64 (ms.getD j dm).addr) ∧ w.cell? ⟨b, off + j * 5 + 4, none⟩ = some (.bool (ms.getD j dm).server)

/-- A slice's value, and what it holds in a world. -/
def Sl (w : World) (v : Value) (ms : List Mem) : Prop :=
  ∃ (a : Option Addr) (cap : Nat), v = .slice a ms.length cap ∧ (∀ j, (ms.getD j dm).name.size ≤ maxLen) ∧
    (ms = [] ∨ ∃ b off, a = some ⟨b, off, none⟩ ∧ b < w.heap.size ∧ Row w b off ms)

def Mem.cs (m : Mem) : List Value := [.string m.name, .int .i64 m.state, .int .i64 m.life, .int .i64 m.addr, .bool m.server]
def fl (ms : List Mem) : List Value := ms.flatMap Mem.cs

theorem cs_len (m : Mem) : m.cs.length = 5 := rfl
theorem fl_cons (m : Mem) (r : List Mem) : fl (m :: r) = m.cs ++ fl r := by simp [fl]
theorem fl_append (a b : List Mem) : fl (a ++ b) = fl a ++ fl b := by simp [fl]
theorem fl_len : ∀ ms : List Mem, (fl ms).length = ms.length * 5
  | [] => rfl
  | m :: r => by rw [fl_cons, List.length_append, fl_len r, cs_len, List.length_cons]; omega
theorem fl_take : ∀ (ms : List Mem) (i : Nat), (fl ms).take (i * 5) = fl (ms.take i)
  | [], i => by simp [fl]
  | m :: r, 0 => by simp [fl]
  | m :: r, i + 1 => by
    rw [fl_cons, List.take_succ_cons, fl_cons, show (i + 1) * 5 = m.cs.length + i * 5 by rw [cs_len]; omega, List.take_length_add_append, fl_take r i]
theorem fl_drop : ∀ (ms : List Mem) (i : Nat), (fl ms).drop (i * 5) = fl (ms.drop i)
  | [], i => by simp [fl]
  | m :: r, 0 => by simp
  | m :: r, i + 1 => by
    rw [fl_cons, List.drop_succ_cons, show (i + 1) * 5 = m.cs.length + i * 5 by rw [cs_len]; omega, List.drop_length_add_append, fl_drop r i]
theorem cs_one (m : Mem) : ∀ v ∈ m.cs, v.oneCell' = true := by
  intro v hv; simp [Mem.cs] at hv; rcases hv with rfl | rfl | rfl | rfl | rfl <;> rfl
theorem fl_one (ms : List Mem) : ∀ v ∈ fl ms, v.oneCell' = true := by
  intro v hv
  obtain ⟨m, _, h⟩ := List.mem_flatMap.1 hv
  exact cs_one m v h
theorem fl_get (ms : List Mem) (j : Nat) (hj : j < ms.length) (t : Nat) (ht : t < 5) : (fl ms)[j * 5 + t]? = (ms.getD j dm).cs[t]? := by
  induction ms generalizing j with
  | nil => simp at hj
  | cons m r ih =>
    rw [fl_cons]
    cases j with
    | zero => rw [List.getElem?_append_left (by rw [cs_len]; omega)]; simp
    | succ j =>
      rw [List.getElem?_append_right (by rw [cs_len]; omega), cs_len, show (j + 1) * 5 + t - 5 = j * 5 + t by omega, ih j (by simpa using hj)]
      simp
theorem fl_set (ms : List Mem) (p : Nat) (hp : p < ms.length) (m : Mem) : ((((((fl ms).set (p * 5) (.string m.name)).set (p * 5 + 1) (.int .i64 m.state)).set (p * 5 + 2) (.int .i64 m.life)).set (p * 5 + 3) (.int .i64 m.addr)).set (p * 5 + 4) (.bool m.server)) = fl (ms.set p m) := by
  induction ms generalizing p with
  | nil => simp at hp
  | cons x r ih =>
    cases p with
    | zero => simp [fl, Mem.cs]
    | succ p =>
      have ih' := ih p (by simpa using hp)
      rw [List.set_cons_succ, fl_cons, fl_cons, ← ih']
      simp only [Nat.add_mul, Nat.one_mul]
      have e : ∀ (l : List Value) (k : Nat) (v : Value), (x.cs ++ l).set (k + 5) v = x.cs ++ l.set k v := fun l k v => by
        rw [List.set_append, if_neg (by rw [cs_len]; omega), cs_len, Nat.add_sub_cancel]
      have c : ∀ i : Nat, p * 5 + 5 + i = (p * 5 + i) + 5 := fun i => by omega
      simp only [c]
      rw [e, e, e, e, e]

abbrev Own (base : Nat) (w : World) (v : Value) (ms : List Mem) : Prop := w.ownsRow base 44 5 v ms.length (fl ms)

theorem own_of {base g G : Nat} {w : World} {cur : Array Value} {ms : List Mem} (hb : base ≤ g) (hg : w.heap[g]? = some (.cells cur 44 (0, 0))) (hs : cur.size = G * 5) (hn : ms.length ≤ G) (hG : G ≤ maxLen) (ht : cur.toList.take (ms.length * 5) = fl ms) :
    Own base w (.slice (some ⟨g, 0, none⟩) ms.length G) ms := ⟨fl_len ms, .inr ⟨g, G, cur, rfl, hb, hg, hn, hG, hs, ht⟩⟩

/-- What a call owns is a slice as any. -/
theorem Own.sl {base : Nat} {w : World} {v : Value} {ms : List Mem} (h : Own base w v ms) (hs : ∀ j, (ms.getD j dm).name.size ≤ maxLen) : Sl w v ms := by
  rcases h.2 with ⟨rfl, h0⟩ | ⟨g, c, cur, rfl, hbg, hg, hnc, hcm, hcs, htake⟩
  · exact ⟨none, 0, by rw [h0], hs, .inl (List.eq_nil_of_length_eq_zero h0)⟩
  · refine ⟨_, c, rfl, hs, .inr ⟨g, 0, rfl, (Array.getElem?_eq_some_iff.1 hg).1, fun j hj => ?_⟩⟩
    have hc : ∀ t, t < 5 → w.cell? ⟨g, 0 + j * 5 + t, none⟩ = (ms.getD j dm).cs[t]? := fun t ht => by
      rw [cellsAt hg, ← fl_get ms j hj t ht, ← htake, List.getElem?_take_of_lt (by omega)]; simp
    exact ⟨hc 0 (by omega), hc 1 (by omega), hc 2 (by omega), hc 3 (by omega), hc 4 (by omega)⟩

theorem Own.below {base : Nat} {w w' : World} {v : Value} {ms : List Mem} (h : Own base w v ms) (hb : Below w.heap.size w w') : Own base w' v ms := by
  rcases h.2 with ⟨rfl, h0⟩ | ⟨g, c, cur, rfl, hbg, hg, hnc, hcm, hcs, htake⟩
  · exact ⟨h.1, .inl ⟨rfl, h0⟩⟩
  · have hlt : g < w.heap.size := (Array.getElem?_eq_some_iff.1 hg).1
    exact ⟨h.1, .inr ⟨g, c, cur, rfl, hbg, (hb.block g hlt).trans hg, hnc, hcm, hcs, htake⟩⟩

theorem Own.lt {base : Nat} {w : World} {v : Value} {ms : List Mem} (h : Own base w v ms) (k : Nat) (hk : v.ownBlock = some k) : base ≤ k ∧ k < w.heap.size := World.ownsRow.lt h k hk

theorem below_grown {base : Nat} {w w1 w2 : World} {v : Value} {ms : List Mem} (hb : Below base w w1) (h : Own base w1 v ms) (hg : w1.grownBy w2 v.ownBlock) (hbase : base ≤ w1.heap.size) : Below base w w2 :=
  hb.grown hg hbase (fun k hk => (h.lt k hk).1)

theorem own_cells {base g c : Nat} {w : World} {ms : List Mem} (h : Own base w (.slice (some ⟨g, 0, none⟩) ms.length c) ms) (j : Nat) (hj : j < ms.length) :
    w.cell? ⟨g, j * 5, none⟩ = some (.string (ms.getD j dm).name) ∧ w.cell? ⟨g, j * 5 + 1, none⟩ = some (.int .i64 (ms.getD j dm).state) ∧ w.cell? ⟨g, j * 5 + 2, none⟩ = some (.int .i64 (ms.getD j dm).life) ∧ w.cell? ⟨g, j * 5 + 3, none⟩ = some (.int .i64 (ms.getD j dm).addr) ∧ w.cell? ⟨g, j * 5 + 4, none⟩ = some (.bool (ms.getD j dm).server) := by
  rcases h.2 with ⟨h1, _⟩ | ⟨g', c', cur, h1, hbg, hg, hnc, hcm, hcs, htake⟩
  · cases h1
  · simp only [Value.slice.injEq, Option.some.injEq, Addr.mk.injEq] at h1
    obtain ⟨⟨rfl, _, _⟩, _, _⟩ := h1
    have hc : ∀ t, t < 5 → w.cell? ⟨g, j * 5 + t, none⟩ = (ms.getD j dm).cs[t]? := fun t ht => by
      rw [cellsAt hg, ← fl_get ms j hj t ht, ← htake, List.getElem?_take_of_lt (by omega)]; simp
    exact ⟨hc 0 (by omega), hc 1 (by omega), hc 2 (by omega), hc 3 (by omega), hc 4 (by omega)⟩

theorem own_form {base : Nat} {w : World} {v : Value} {ms : List Mem} (h : Own base w v ms) (p : Nat) (hp : p < ms.length) : ∃ g c, v = .slice (some ⟨g, 0, none⟩) ms.length c := by
  rcases h.2 with ⟨_, h0⟩ | ⟨g, c, cur, h1, _⟩
  · omega
  · exact ⟨g, c, h1⟩

theorem own_set {base g c p : Nat} {W : World} {ms : List Mem} (h : Own base W (.slice (some ⟨g, 0, none⟩) ms.length c) ms) (hp : p < ms.length) (m : Mem) :
    Own base (((((W.setCell ⟨g, p * 5, none⟩ (.string m.name)).setCell ⟨g, p * 5 + 1, none⟩ (.int .i64 m.state)).setCell ⟨g, p * 5 + 2, none⟩ (.int .i64 m.life)).setCell ⟨g, p * 5 + 3, none⟩ (.int .i64 m.addr)).setCell ⟨g, p * 5 + 4, none⟩ (.bool m.server)) (.slice (some ⟨g, 0, none⟩) ms.length c) (ms.set p m) := by
  have h1 := World.ownsRow.stored h (p * 5) (.string m.name)
  have h2 := World.ownsRow.stored h1.1 (p * 5 + 1) (.int .i64 m.state)
  have h3 := World.ownsRow.stored h2.1 (p * 5 + 2) (.int .i64 m.life)
  have h4 := World.ownsRow.stored h3.1 (p * 5 + 3) (.int .i64 m.addr)
  have h5 := World.ownsRow.stored h4.1 (p * 5 + 4) (.bool m.server)
  have e := h5.1
  rw [fl_set ms p hp m] at e
  show World.ownsRow _ _ _ _ _ (ms.set p m).length _
  rw [List.length_set]
  exact e

theorem Sl.below {w w' : World} {v : Value} {ms : List Mem} (h : Sl w v ms) (hb : Below w.heap.size w w') : Sl w' v ms := by
  obtain ⟨a, cap, rfl, hs, h⟩ := h
  refine ⟨a, cap, rfl, hs, ?_⟩
  rcases h with h | ⟨b, off, rfl, hlt, hr⟩
  · exact .inl h
  · refine .inr ⟨b, off, rfl, Nat.lt_of_lt_of_le hlt hb.size, fun j hj => ?_⟩
    obtain ⟨hc, _⟩ := bcell hb
    obtain ⟨c0, c1, c2, c3, c4⟩ := hr j hj
    exact ⟨(hc _ _ hlt).trans c0, (hc _ _ hlt).trans c1, (hc _ _ hlt).trans c2, (hc _ _ hlt).trans c3, (hc _ _ hlt).trans c4⟩

theorem Row.later {w w' : World} {b off : Nat} {ms : List Mem} (hr : Row w b off ms) (hb : Below w.heap.size w w') (hlt : b < w.heap.size) : Row w' b off ms := fun j hj => by
  obtain ⟨hc, _⟩ := bcell hb
  obtain ⟨c0, c1, c2, c3, c4⟩ := hr j hj
  exact ⟨(hc _ _ hlt).trans c0, (hc _ _ hlt).trans c1, (hc _ _ hlt).trans c2, (hc _ _ hlt).trans c3, (hc _ _ hlt).trans c4⟩

theorem Own.mono {base base' : Nat} {w : World} {v : Value} {ms : List Mem} (h : Own base w v ms) (hb : base' ≤ base) : Own base' w v ms := by
  rcases h.2 with ⟨rfl, h0⟩ | ⟨g, c, cur, rfl, hbg, hg, hnc, hcm, hcs, htake⟩
  · exact ⟨h.1, .inl ⟨rfl, h0⟩⟩
  · exact ⟨h.1, .inr ⟨g, c, cur, rfl, Nat.le_trans hb hbg, hg, hnc, hcm, hcs, htake⟩⟩

theorem own_nil (base : Nat) (w : World) : Own base w (.slice none 0 0) [] := World.ownsRow_nil w base 44 5

theorem ns_mem {ms : List Mem} (h : ∀ j, (ms.getD j dm).name.size ≤ maxLen) : ∀ m ∈ ms, (m).name.size ≤ maxLen := by
  intro m hm
  obtain ⟨j, hj, rfl⟩ := List.getElem_of_mem hm
  have := h j
  simpa [List.getD, List.getElem?_eq_getElem hj] using this
theorem ns_get {ms : List Mem} (h : ∀ m ∈ ms, (m).name.size ≤ maxLen) : ∀ j, (ms.getD j dm).name.size ≤ maxLen := by
  intro j
  by_cases hj : j < ms.length
  · have := h ms[j] (List.getElem_mem hj)
    simpa [List.getD, List.getElem?_eq_getElem hj] using this
  · simp [List.getD, List.getElem?_eq_none (Nat.le_of_not_lt hj), dm]

theorem own_names {base : Nat} {w : World} {v : Value} {ms : List Mem} (h : Own base w v ms) (hs : ∀ m ∈ ms, (m).name.size ≤ maxLen) : Sl w v ms := h.sl (ns_get hs)

theorem sl_one (w : World) (b cap : Nat) (m : Mem) (hm : (m).name.size ≤ maxLen) (hg : w.heap[b]? = some (.cells #[.string m.name, .int .i64 m.state, .int .i64 m.life, .int .i64 m.addr, .bool m.server] 44 (0, 0))) : Sl w (.slice (some ⟨b, 0, none⟩) 1 cap) [m] := by
  refine ⟨_, cap, rfl, ns_get (fun x hx => by simp at hx; subst hx; exact hm), .inr ⟨b, 0, rfl, (Array.getElem?_eq_some_iff.1 hg).1, fun j hj => ?_⟩⟩
  have : j = 0 := by simpa using hj
  subst this
  exact ⟨cellsAt hg (0 + 0 * 5), cellsAt hg (0 + 0 * 5 + 1), cellsAt hg (0 + 0 * 5 + 2), cellsAt hg (0 + 0 * 5 + 3), cellsAt hg (0 + 0 * 5 + 4)⟩

theorem own_snoc {base : Nat} {w : World} {v : Value} {L : List Mem} {m : Mem} (h : w.ownsRow base 44 5 v (L.length + 1) (fl L ++ m.cs)) : Own base w v (L ++ [m]) := by
  have e : fl (L ++ [m]) = fl L ++ m.cs := by rw [fl_append, fl_cons]; simp [fl]
  show w.ownsRow base 44 5 v (L ++ [m]).length (fl (L ++ [m]))
  rw [e, List.length_append]
  exact h


end Go.Proofs.YtignmeaeibaejaaGreat

/- slices.Insert at members: the library's own text, walked. -/
namespace Go.Proofs.YtignmeaeibaejaaGreat

open Go.RowKit

theorem Tryz.info44 : (Tryz.prog.info? 44).map (fun i => (i.zero, i.size, i.bytes)) = some (some (.agg #[.string ⟨#[]⟩, .int .i64 0, .int .i64 0, .int .i64 0, .bool false]), 5, 48) := by kernel_rfl

theorem size44 : (Tryz.prog.info? 44).map (·.size) = some 5 := by
  obtain ⟨i, hi, h1, h2, h3⟩ := info_parts Tryz.info44
  rw [hi]; simp [h2]

theorem sizeOf44 (w : World) : (Go.sizeOf 44).run Tryz.prog w = .ok 5 w := by
  obtain ⟨i, hi, h1, h2, h3⟩ := info_parts Tryz.info44
  simp [Go.sizeOf, typeInfo, hi, h2]

end Go.Proofs.YtignmeaeibaejaaGreat

