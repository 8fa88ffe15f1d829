/- RU3, RU4, RU5, RU7, ML, MM, RU8 -/
import Derived.Test.YtdfkpehggecbaaaGreatDoorV26
import Derived.Test.YtdfkpehggecbaaaGreatDoorV16
import Derived.Deep.RegionHeld3
import Derived.Test.YtdfkpehggecbaaaGreatDoorV10
import Derived.Deep.RegionHeld
import Derived.Deep.RegionLaw
import Derived.Laws.OwnMore
import Derived.Lib.QuietBelow
/- Lists of rumors that a call owns: Clone, append. -/
namespace Go.Proofs.YtdfkpehggecbaaaGreatDoor
open Go.RowKit

def Rum.cs (r : Rum) : List Value := [.string r.m.name, .int .i64 r.m.state, .int .i64 r.m.life, .int .i64 r.m.addr, .bool r.m.server, .int .i64 r.told]
def flR (rs : List Rum) : List Value := rs.flatMap Rum.cs
theorem rcs_len (r : Rum) : r.cs.length = 6 := rfl
theorem flR_cons (m : Rum) (r : List Rum) : flR (m :: r) = m.cs ++ flR r := by simp [flR]
theorem flR_append (a b : List Rum) : flR (a ++ b) = flR a ++ flR b := by simp [flR]
theorem flR_len : ∀ ms : List Rum, (flR ms).length = ms.length * 6
  | [] => rfl
  | m :: r => by rw [flR_cons, List.length_append, flR_len r, rcs_len, List.length_cons]; omega
theorem flR_take : ∀ (ms : List Rum) (i : Nat), (flR ms).take (i * 6) = flR (ms.take i)
  | [], i => by simp [flR]
  | m :: r, 0 => by simp [flR]
  | m :: r, i + 1 => by
    rw [flR_cons, List.take_succ_cons, flR_cons, show (i + 1) * 6 = m.cs.length + i * 6 by rw [rcs_len]; omega, List.take_length_add_append, flR_take r i]
theorem flR_drop : ∀ (ms : List Rum) (i : Nat), (flR ms).drop (i * 6) = flR (ms.drop i)
  | [], i => by simp [flR]
  | m :: r, 0 => by simp
  | m :: r, i + 1 => by
    rw [flR_cons, List.drop_succ_cons, show (i + 1) * 6 = m.cs.length + i * 6 by rw [rcs_len]; omega, List.drop_length_add_append, flR_drop r i]
theorem rcs_one (m : Rum) : ∀ v ∈ m.cs, v.oneCell' = true := by
  intro v hv; simp [Rum.cs] at hv; rcases hv with rfl | rfl | rfl | rfl | rfl | rfl <;> rfl
theorem flR_one (ms : List Rum) : ∀ v ∈ flR ms, v.oneCell' = true := by
  intro v hv
  obtain ⟨m, _, h⟩ := List.mem_flatMap.1 hv
  exact rcs_one m v h
theorem flR_get (ms : List Rum) (j : Nat) (hj : j < ms.length) (t : Nat) (ht : t < 6) : (flR ms)[j * 6 + t]? = (ms.getD j dr).cs[t]? := by
  induction ms generalizing j with
  | nil => simp at hj
  | cons m r ih =>
    rw [flR_cons]
    cases j with
    | zero => rw [List.getElem?_append_left (by rw [rcs_len]; omega)]; simp
    | succ j =>
      rw [List.getElem?_append_right (by rw [rcs_len]; omega), rcs_len, show (j + 1) * 6 + t - 6 = j * 6 + t by omega, ih j (by simpa using hj)]
      simp
theorem rns_get {rs : List Rum} (h : ∀ r ∈ rs, r.m.name.size ≤ maxLen) : ∀ j, (rs.getD j dr).m.name.size ≤ maxLen := fun j => by
  by_cases hj : j < rs.length
  · rw [show rs.getD j dr = rs[j] by simp [List.getD, List.getElem?_eq_getElem hj]]
    exact h _ (List.getElem_mem hj)
  · rw [show rs.getD j dr = dr by simp [List.getD, List.getElem?_eq_none (by omega : rs.length ≤ j)]]
    exact Nat.zero_le _
theorem rns_mem {rs : List Rum} (h : ∀ j, (rs.getD j dr).m.name.size ≤ maxLen) : ∀ m ∈ rs, m.m.name.size ≤ maxLen := by
  intro m hm
  obtain ⟨j, hj, rfl⟩ := List.getElem_of_mem hm
  have := h j
  rwa [show rs.getD j dr = rs[j] by simp [List.getD, List.getElem?_eq_getElem hj]] at this
theorem rrow_cell {rs : List Rum} {w : World} {b off : Nat} (hr : RRow w b off rs) {j : Nat} {u : Value} (hj : (flR rs)[j]? = some u) : w.cell? ⟨b, off + j, none⟩ = some u := by
  have hjl : j < rs.length * 6 := by rw [← flR_len]; exact (List.getElem?_eq_some_iff.1 hj).1
  have h1 := flR_get rs (j / 6) (by omega) (j % 6) (by omega)
  rw [show j / 6 * 6 + j % 6 = j by omega, hj] at h1
  obtain ⟨c0, c1, c2, c3, c4, c5⟩ := hr (j / 6) (by omega)
  have hcs : j % 6 = 0 ∨ j % 6 = 1 ∨ j % 6 = 2 ∨ j % 6 = 3 ∨ j % 6 = 4 ∨ j % 6 = 5 := by omega
  rcases hcs with e | e | e | e | e | e
  · rw [show off + j = off + j / 6 * 6 by omega, c0]; rw [e] at h1; simpa [Rum.cs] using h1.symm
  · rw [show off + j = off + j / 6 * 6 + 1 by omega, c1]; rw [e] at h1; simpa [Rum.cs] using h1.symm
  · rw [show off + j = off + j / 6 * 6 + 2 by omega, c2]; rw [e] at h1; simpa [Rum.cs] using h1.symm
  · rw [show off + j = off + j / 6 * 6 + 3 by omega, c3]; rw [e] at h1; simpa [Rum.cs] using h1.symm
  · rw [show off + j = off + j / 6 * 6 + 4 by omega, c4]; rw [e] at h1; simpa [Rum.cs] using h1.symm
  · rw [show off + j = off + j / 6 * 6 + 5 by omega, c5]; rw [e] at h1; simpa [Rum.cs] using h1.symm

end Go.Proofs.YtdfkpehggecbaaaGreatDoor

/- Put of a rumor that is new. -/
namespace Go.Proofs.YtdfkpehggecbaaaGreatDoor
open Go.RowKit Go.WideMaps Go.Maps

theorem look_any {w : World} {b n : Nat} {D : DataW Unit} (h : w.ownsMap Tryz.prog 9 (plainElem (H := Unit) Tryz.prog 3) b n D) {s : ByteArray} (hs : s.size ≤ maxLen) :
    ∃ c : Int, (Instr.lookup 100 (.map (some b)) (.string s) true).run Tryz.prog w = .ok (.tuple #[.int .i64 c, .bool (Maps.has D (kS s))]) w ∧ D.atKey (kS s) (.lit (.int .i64 0)) = .lit (.int .i64 c) := by
  obtain ⟨v, ps, hrun, hv⟩ := h.look_ok law9 Tryz.underlying100 (zero3' _) (plainElem_int Tryz.underlying3 (by decide)) (keyOf_string_mk Tryz.underlying9 hs)
  obtain ⟨c, rfl, hc, _⟩ := plainElem_int_inv Tryz.underlying3 hv
  exact ⟨c, hrun, congrArg Prod.fst hc⟩

def NotIn (rs : List Rum) (nm : ByteArray) : Prop := ∀ j, j < rs.length → (rs.getD j dr).m.name ≠ nm
theorem has_not {rs : List Rum} {nm : ByteArray} (h : NotIn rs nm) : Maps.has (Dm (rnames rs) rs.length) (kS nm) = false := by
  cases hh : Maps.has (Dm (rnames rs) rs.length) (kS nm)
  · rfl
  · obtain ⟨j, hj, e⟩ := (Dm_has _ _ _).1 hh
    rw [rnames_get] at e
    exact absurd e (h j hj)

end Go.Proofs.YtdfkpehggecbaaaGreatDoor

/- Take of one rumor: what must be in any case. -/
namespace Go.Proofs.YtdfkpehggecbaaaGreatDoor
open Go.RowKit

theorem Tryz.infoI : (Tryz.prog.info? 3).map (fun i => (i.zero, i.size, i.bytes)) = some (some (.int .i64 0), 1, 8) := by kernel_rfl

theorem flR_told (r : Rum) (t : Int) : (flR [r]).set 5 (.int .i64 t) = flR [⟨r.m, t⟩] := by simp [flR, Rum.cs]

end Go.Proofs.YtdfkpehggecbaaaGreatDoor

/- Delete of one rumor, out of a list that a call owns. -/
namespace Go.Proofs.YtdfkpehggecbaaaGreatDoor
open Go.RowKit

def wrs : List Value → Nat → List Value → List Value
  | xs, _, [] => xs
  | xs, o, v :: r => wrs (xs.set o v) (o + 1) r
theorem wrs_len : ∀ (vs xs : List Value) (o : Nat), (wrs xs o vs).length = xs.length
  | [], _, _ => rfl
  | v :: r, xs, o => by rw [wrs, wrs_len r, List.length_set]
theorem wrs_out : ∀ (vs xs : List Value) (o k : Nat), k < o ∨ o + vs.length ≤ k → (wrs xs o vs)[k]? = xs[k]?
  | [], _, _, _, _ => rfl
  | v :: r, xs, o, k, h => by
    simp only [List.length_cons] at h
    rw [wrs, wrs_out r _ _ k (by omega), List.getElem?_set_ne (by omega)]
theorem wrs_in : ∀ (vs xs : List Value) (o j : Nat), j < vs.length → o + vs.length ≤ xs.length → (wrs xs o vs)[o + j]? = vs[j]?
  | [], _, _, _, h, _ => by simp at h
  | v :: r, xs, o, 0, _, h2 => by
    simp only [List.length_cons] at h2
    rw [wrs, wrs_out r _ _ _ (by omega)]
    simp [List.getElem?_set_self (show o < xs.length by omega)]
  | v :: r, xs, o, j + 1, h, h2 => by
    simp only [List.length_cons] at h h2
    rw [wrs, show o + (j + 1) = (o + 1) + j by omega, wrs_in r _ _ j (by omega) (by rw [List.length_set]; omega)]
    simp
theorem stored_all {base g n cap : Nat} {e : TypeId} {size : Nat} : ∀ (vs xs : List Value) (o : Nat) (w : World), w.ownsRow base e size (.slice (some ⟨g, 0, none⟩) n cap) n xs → (w.setCells g o vs).ownsRow base e size (.slice (some ⟨g, 0, none⟩) n cap) n (wrs xs o vs)
  | [], _, _, _, h => h
  | v :: r, _, o, _, h => stored_all r _ _ _ (World.ownsRow.stored h o v).1
theorem below_setCells {base g : Nat} (hg : base ≤ g) : ∀ (vs : List Value) (o : Nat) (w0 w : World), Below base w0 w → Below base w0 (w.setCells g o vs)
  | [], _, _, _, h => h
  | v :: r, o, w0, _, h => below_setCells hg r _ w0 _ (h.setCell (p := ⟨g, o, none⟩) hg v)
theorem owns_shrink {w : World} {base g n m cap : Nat} {e : TypeId} {size : Nat} {xs : List Value} (h : w.ownsRow base e size (.slice (some ⟨g, 0, none⟩) n cap) n xs) (hm : m ≤ n) : w.ownsRow base e size (.slice (some ⟨g, 0, none⟩) m cap) m (xs.take (m * size)) := by
  obtain ⟨h1, h2⟩ := h
  have hle : m * size ≤ n * size := Nat.mul_le_mul_right _ hm
  refine ⟨by rw [List.length_take, h1]; omega, ?_⟩
  rcases h2 with ⟨hv, _⟩ | ⟨g', c', cur, hv, hbg, hg, hnc, hcm, hcs, htake⟩
  · cases hv
  · simp only [Value.slice.injEq, Option.some.injEq, Addr.mk.injEq, and_true, true_and] at hv
    obtain ⟨rfl, rfl⟩ := hv
    refine .inr ⟨g, cap, cur, rfl, hbg, hg, by omega, hcm, hcs, ?_⟩
    rw [← htake, List.take_take, Nat.min_eq_left hle]

def zR : List Value := [.string ⟨#[]⟩, .int .i64 0, .int .i64 0, .int .i64 0, .bool false, .int .i64 0]
theorem take_eq_of {xs ys : List Value} {k : Nat} (hl : k ≤ xs.length) (hy : ys.length = k) (h : ∀ j, j < k → xs[j]? = ys[j]?) : xs.take k = ys := by
  apply List.ext_getElem?
  intro j
  by_cases hj : j < k
  · rw [List.getElem?_take_of_lt hj, h j hj]
  · rw [List.getElem?_eq_none (by rw [List.length_take]; omega), List.getElem?_eq_none (by omega)]
theorem erase_cells {rs : List Rum} {p n : Nat} (hn : rs.length = n) (hp : p < n) : (wrs (wrs (flR rs) (p * 6) (flR (rs.drop (p + 1)))) ((n - 1) * 6) zR).take ((n - 1) * 6) = flR (rs.eraseIdx p) := by
  have hl : (flR rs).length = n * 6 := by rw [flR_len, hn]
  have hd : (flR (rs.drop (p + 1))).length = (n - (p + 1)) * 6 := by rw [flR_len, List.length_drop, hn]
  refine take_eq_of (by rw [wrs_len, wrs_len, hl]; omega) (by rw [flR_len, List.length_eraseIdx, if_pos (by omega), hn]) (fun j hj => ?_)
  rw [wrs_out _ _ _ _ (by omega), List.eraseIdx_eq_take_drop_succ, flR_append]
  have ht : (flR (rs.take p)).length = p * 6 := by rw [flR_len, List.length_take, hn]; omega
  by_cases hjp : j < p * 6
  · rw [wrs_out _ _ _ _ (by omega), List.getElem?_append_left (by omega), ← flR_take, List.getElem?_take_of_lt hjp]
  · rw [List.getElem?_append_right (by omega), ht]
    have := wrs_in (flR (rs.drop (p + 1))) (flR rs) (p * 6) (j - p * 6) (by rw [hd]; omega) (by rw [hd, hl]; omega)
    rw [show p * 6 + (j - p * 6) = j by omega] at this
    exact this

end Go.Proofs.YtdfkpehggecbaaaGreatDoor

/- What must be in any case; Newer. -/
namespace Go.Proofs.YtdfkpehggecbaaaGreatDoor
open Go.RowKit

def mA : Mem := ⟨⟨#[97]⟩, 2, 1, 0, false⟩

theorem lab_a : labB ⟨#[97]⟩ = true := by decide
theorem chk_mA : chk [mA] = 0 := by
  have h : mA.e = 0 := by decide
  simp [chk, firstE, h, risesB]
theorem join_mA : joinE [] [mA] = 0 := by
  simp [joinE, chkTwo, chk_nil, chk_mA, joinL, hearL]
theorem hear_mA : hearL [] mA = [mA] := rfl
theorem at_mA : At [mA] ⟨#[97]⟩ 0 true := ⟨by simp, fun j h => by omega, fun j h hl => by
  have : j = 0 := by simpa using hl
  subst this
  have : cmpI mA.name ⟨#[97]⟩ = 0 := by rw [cmpI_eq]; rfl
  simp [this], by
  have : cmpI mA.name ⟨#[97]⟩ = 0 := by rw [cmpI_eq]; rfl
  simp [this]⟩

end Go.Proofs.YtdfkpehggecbaaaGreatDoor

/- Newer, and the laws' own walks: MemberChecks, MemberNewer. -/
namespace Go.Proofs.YtdfkpehggecbaaaGreatDoor
open Go.RowKit

/-- B2: Newer's errno. -/
def newE (a b : Mem) : Int := if chkTwo [a] [b] = 0 then (if a.name = b.name then 0 else 1) else chkTwo [a] [b]

theorem bne_name (a b : ByteArray) : (a.toList != b.toList) = true ↔ a ≠ b := by
  rw [bne_iff_ne, Lib.toList_data, Lib.toList_data]
  exact ⟨fun h e => h (by rw [e]), fun h e => h (ba_ext e)⟩

end Go.Proofs.YtdfkpehggecbaaaGreatDoor

/- Put: of a name that is there, and of too many. -/
namespace Go.Proofs.YtdfkpehggecbaaaGreatDoor
open Go.RowKit Go.WideMaps Go.Maps

theorem chkR_zero {rs : List Rum} (h : chkR rs = 0) : rs.length ≤ 20 ∧ (∀ j, j < rs.length → (rs.getD j dr).m.e = 0) ∧ AllTold rs ∧ Distinct rs := by
  unfold chkR at h
  by_cases h1 : 20 < rs.length
  · rw [if_pos h1] at h; omega
  rw [if_neg h1] at h
  by_cases h2 : firstE (rmems rs) = 0
  · rw [if_pos h2] at h
    by_cases h3 : AllTold rs
    · rw [if_pos h3] at h
      by_cases h4 : Distinct rs
      · refine ⟨by omega, fun j hj => ?_, h3, h4⟩
        have := firstE_at0 h2 j (by rw [rmems_len]; exact hj)
        rwa [rmems_get] at this
      · rw [if_neg h4] at h; omega
    · rw [if_neg h3] at h; omega
  · rw [if_neg h2] at h; exact absurd h h2

theorem newE_zero {a b : Mem} (ha : a.e = 0) (hb : b.e = 0) (hn : a.name = b.name) : newE a b = 0 := by
  have h : chkTwo [a] [b] = 0 := by rw [chkTwo, chk_oneR, chk_oneR]; simp [ha, hb]
  rw [newE, if_pos h, if_pos hn]

end Go.Proofs.YtdfkpehggecbaaaGreatDoor

