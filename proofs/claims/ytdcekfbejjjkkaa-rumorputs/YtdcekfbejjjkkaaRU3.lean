
/- Lists of rumors that a call owns: Clone, append. -/
import Derived.Test.YtdcekfbejjjkkaaRU2
import Derived.Test.YtdcekfbejjjkkaaMJ
namespace Go.Proofs.Ytdcekfbejjjkkaa
open Go.RowKit

def Rum.cs (r : Rum) : List Value := [.string r.m.name, .int .i64 r.m.state, .int .i64 r.m.life, .int .i64 r.m.addr, .bool r.m.server, .int .i64 r.told]
def flR (rs : List Rum) : List Value := rs.flatMap Rum.cs
theorem rcs_len (r : Rum) : r.cs.length = 6 := rfl
theorem flR_cons (m : Rum) (r : List Rum) : flR (m :: r) = m.cs ++ flR r := by simp [flR]
theorem flR_append (a b : List Rum) : flR (a ++ b) = flR a ++ flR b := by simp [flR]
theorem flR_len : ∀ ms : List Rum, (flR ms).length = ms.length * 6
  | [] => rfl
  | m :: r => by rw [flR_cons, List.length_append, flR_len r, rcs_len, List.length_cons]; omega
theorem flR_take : ∀ (ms : List Rum) (i : Nat), (flR ms).take (i * 6) = flR (ms.take i)
  | [], i => by simp [flR]
  | m :: r, 0 => by simp [flR]
  | m :: r, i + 1 => by
    rw [flR_cons, List.take_succ_cons, flR_cons, show (i + 1) * 6 = m.cs.length + i * 6 by rw [rcs_len]; omega, List.take_length_add_append, flR_take r i]
theorem flR_drop : ∀ (ms : List Rum) (i : Nat), (flR ms).drop (i * 6) = flR (ms.drop i)
  | [], i => by simp [flR]
  | m :: r, 0 => by simp
  | m :: r, i + 1 => by
    rw [flR_cons, List.drop_succ_cons, show (i + 1) * 6 = m.cs.length + i * 6 by rw [rcs_len]; omega, List.drop_length_add_append, flR_drop r i]
theorem rcs_one (m : Rum) : ∀ v ∈ m.cs, v.oneCell' = true := by
  intro v hv; simp [Rum.cs] at hv; rcases hv with rfl | rfl | rfl | rfl | rfl | rfl <;> rfl
theorem flR_one (ms : List Rum) : ∀ v ∈ flR ms, v.oneCell' = true := by
  intro v hv
  obtain ⟨m, _, h⟩ := List.mem_flatMap.1 hv
  exact rcs_one m v h
theorem flR_get (ms : List Rum) (j : Nat) (hj : j < ms.length) (t : Nat) (ht : t < 6) : (flR ms)[j * 6 + t]? = (ms.getD j dr).cs[t]? := by
  induction ms generalizing j with
  | nil => simp at hj
  | cons m r ih =>
    rw [flR_cons]
    cases j with
    | zero => rw [List.getElem?_append_left (by rw [rcs_len]; omega)]; simp
    | succ j =>
      rw [List.getElem?_append_right (by rw [rcs_len]; omega), rcs_len, show (j + 1) * 6 + t - 6 = j * 6 + t by omega, ih j (by simpa using hj)]
      simp
abbrev ROwn (base : Nat) (w : World) (v : Value) (ms : List Rum) : Prop := w.ownsRow base 47 6 v ms.length (flR ms)
theorem rown_nil (base : Nat) (w : World) : ROwn base w (.slice none 0 0) [] := World.ownsRow_nil w base 47 6
theorem rown_snoc {base : Nat} {w : World} {v : Value} {L : List Rum} {m : Rum} (h : w.ownsRow base 47 6 v (L.length + 1) (flR L ++ m.cs)) : ROwn base w v (L ++ [m]) := by
  have e : flR (L ++ [m]) = flR L ++ m.cs := by rw [flR_append, flR_cons]; simp [flR]
  show w.ownsRow base 47 6 v (L ++ [m]).length (flR (L ++ [m]))
  rw [e, List.length_append]
  exact h
theorem rns_get {rs : List Rum} (h : ∀ r ∈ rs, r.m.name.size ≤ maxLen) : ∀ j, (rs.getD j dr).m.name.size ≤ maxLen := fun j => by
  by_cases hj : j < rs.length
  · rw [show rs.getD j dr = rs[j] by simp [List.getD, List.getElem?_eq_getElem hj]]
    exact h _ (List.getElem_mem hj)
  · rw [show rs.getD j dr = dr by simp [List.getD, List.getElem?_eq_none (by omega : rs.length ≤ j)]]
    exact Nat.zero_le _
theorem rns_mem {rs : List Rum} (h : ∀ j, (rs.getD j dr).m.name.size ≤ maxLen) : ∀ m ∈ rs, m.m.name.size ≤ maxLen := by
  intro m hm
  obtain ⟨j, hj, rfl⟩ := List.getElem_of_mem hm
  have := h j
  rwa [show rs.getD j dr = rs[j] by simp [List.getD, List.getElem?_eq_getElem hj]] at this
/-- What a call owns is a slice as any. -/
theorem ROwn.sl {base : Nat} {w : World} {v : Value} {ms : List Rum} (h : ROwn base w v ms) (hs : ∀ j, (ms.getD j dr).m.name.size ≤ maxLen) : RSl w v ms := by
  rcases h.2 with ⟨rfl, h0⟩ | ⟨g, c, cur, rfl, hbg, hg, hnc, hcm, hcs, htake⟩
  · exact ⟨none, 0, by rw [h0], hs, .inl (List.eq_nil_of_length_eq_zero h0)⟩
  · refine ⟨_, c, rfl, hs, .inr ⟨g, 0, rfl, (Array.getElem?_eq_some_iff.1 hg).1, fun j hj => ?_⟩⟩
    have hc : ∀ t, t < 6 → w.cell? ⟨g, 0 + j * 6 + t, none⟩ = (ms.getD j dr).cs[t]? := fun t ht => by
      rw [cellsAt hg, ← flR_get ms j hj t ht, ← htake, List.getElem?_take_of_lt (by omega)]; simp
    exact ⟨hc 0 (by omega), hc 1 (by omega), hc 2 (by omega), hc 3 (by omega), hc 4 (by omega), hc 5 (by omega)⟩

theorem ROwn.below {base : Nat} {w w' : World} {v : Value} {ms : List Rum} (h : ROwn base w v ms) (hb : Below w.heap.size w w') : ROwn base w' v ms := by
  obtain ⟨h1, h2⟩ := h
  refine ⟨h1, ?_⟩
  rcases h2 with h2 | ⟨g, c, cur, hv, hbg, hg, hr⟩
  · exact .inl h2
  · exact .inr ⟨g, c, cur, hv, hbg, by rw [hb.block g (Array.getElem?_eq_some_iff.1 hg).1]; exact hg, hr⟩
theorem ROwn.base {b b' : Nat} {w : World} {v : Value} {ms : List Rum} (h : ROwn b w v ms) (hb : b' ≤ b) : ROwn b' w v ms := by
  obtain ⟨h1, h2⟩ := h
  refine ⟨h1, ?_⟩
  rcases h2 with h2 | ⟨g, c, cur, hv, hbg, hr⟩
  · exact .inl h2
  · exact .inr ⟨g, c, cur, hv, Nat.le_trans hb hbg, hr⟩
theorem ROwn.lt {base : Nat} {w : World} {v : Value} {ms : List Rum} (h : ROwn base w v ms) (k : Nat) (hk : v.ownBlock = some k) : base ≤ k ∧ k < w.heap.size := World.ownsRow.lt h k hk
theorem ROwn.slice {base : Nat} {w : World} {v : Value} {ms : List Rum} (h : ROwn base w v ms) : ∃ a c, v = .slice a ms.length c := by
  rcases h.2 with ⟨rfl, h0⟩ | ⟨g, c, cur, rfl, _⟩
  · exact ⟨none, 0, by rw [h0]⟩
  · exact ⟨_, c, rfl⟩

theorem Try.infoR : (Try.prog.info? 47).map (fun i => (i.zero, i.size, i.bytes)) = some (some (.agg #[.string ⟨#[]⟩, .int .i64 0, .int .i64 0, .int .i64 0, .bool false, .int .i64 0]), 6, 56) := by kernel_rfl

theorem rrow_cell {rs : List Rum} {w : World} {b off : Nat} (hr : RRow w b off rs) {j : Nat} {u : Value} (hj : (flR rs)[j]? = some u) : w.cell? ⟨b, off + j, none⟩ = some u := by
  have hjl : j < rs.length * 6 := by rw [← flR_len]; exact (List.getElem?_eq_some_iff.1 hj).1
  have h1 := flR_get rs (j / 6) (by omega) (j % 6) (by omega)
  rw [show j / 6 * 6 + j % 6 = j by omega, hj] at h1
  obtain ⟨c0, c1, c2, c3, c4, c5⟩ := hr (j / 6) (by omega)
  have hcs : j % 6 = 0 ∨ j % 6 = 1 ∨ j % 6 = 2 ∨ j % 6 = 3 ∨ j % 6 = 4 ∨ j % 6 = 5 := by omega
  rcases hcs with e | e | e | e | e | e
  · rw [show off + j = off + j / 6 * 6 by omega, c0]; rw [e] at h1; simpa [Rum.cs] using h1.symm
  · rw [show off + j = off + j / 6 * 6 + 1 by omega, c1]; rw [e] at h1; simpa [Rum.cs] using h1.symm
  · rw [show off + j = off + j / 6 * 6 + 2 by omega, c2]; rw [e] at h1; simpa [Rum.cs] using h1.symm
  · rw [show off + j = off + j / 6 * 6 + 3 by omega, c3]; rw [e] at h1; simpa [Rum.cs] using h1.symm
  · rw [show off + j = off + j / 6 * 6 + 4 by omega, c4]; rw [e] at h1; simpa [Rum.cs] using h1.symm
  · rw [show off + j = off + j / 6 * 6 + 5 by omega, c5]; rw [e] at h1; simpa [Rum.cs] using h1.symm

set_option maxHeartbeats 800000 in
theorem rclone_any (rs : List Rum) (v : Value) (w : World) (h : RSl w v rs) (hn : rs.length ≤ 1000) :
    Calls Try.prog 21 #[v] w fun e w' => ∃ v', e = .returned v' ∧ ROwn w.heap.size w' v' rs ∧ Below w.heap.size w w' := by
  obtain ⟨a, cap, rfl, hs, h⟩ := h
  obtain ⟨i0, hi0, hz0, hzs, hzb⟩ := info_parts Try.infoR
  cases a with
  | none =>
    have he : rs = [] := by
      rcases h with h | ⟨b, off, h, _⟩
      · exact h
      · cases h
    subst he
    clear h hs
    have hnil := fun (w : World) => Lib.run_eql_slice_nil (P := Try.prog) w 22 47 none 0 cap 0 0 Try.underlying22
    simp only [List.length_nil, Option.isNone_none] at hnil ⊢
    go_enter Try.func21, Try.ntmps21
    go_wp2_with fail
    go_ret
    exact ⟨_, rfl, rown_nil _ _, Below.refl _ _⟩
  | some a =>
    have hnil := fun (w : World) => Lib.run_eql_slice_nil (P := Try.prog) w 22 47 (some a) rs.length cap 0 0 Try.underlying22
    simp only [Option.isNone_some] at hnil
    have hnews : Hid (∀ j u, (flR rs)[j]? = some u → (w.alloc (.cells #[] 47)).cell? (a.add j) = some u) := by
      intro j u hj
      rcases h with h | ⟨b, off, h, hb, hr⟩
      · subst h; simp [flR] at hj
      · cases h
        rw [Addr.add_lit, World.cell?_alloc_past (w := w) _ b _ hb]
        exact rrow_cell hr hj
    have HO : Hid ((w.alloc (.cells #[] 47)).ownsRow w.heap.size 47 6 (.slice (some ⟨w.heap.size, 0, none⟩) 0 0) 0 []) := World.ownsRow_made w #[] 0 (Nat.le_refl _) (by unfold maxLen; omega) rfl
    clear h hs
    go_enter Try.func21, Try.ntmps21
    go_wp2_with (at_builtin; refine wpList_append_own _ rfl _ _ 22 rfl w.heap.size 47 i0 _ 6 56 Try.underlying22 hi0 hz0 hzs hzb rfl (by omega) _ 0 [] rfl HO.out a rs.length cap (flR rs) rfl (flR_len rs) hnews.out (flR_one rs) (by unfold maxLen; omega) (by omega) (by simp) ?_)
    intro v' w' r1 r2 r3
    go_wp2_with fail
    go_ret
    refine ⟨v', rfl, ?_, ?_⟩
    · simpa using r1
    · exact ((Below.refl _ _).alloc (Nat.le_refl _) _).grown r2 (by simp) (fun k hk => by simp [Value.ownBlock] at hk; omega)

end Go.Proofs.Ytdcekfbejjjkkaa
