/- RU17, RU18, RU19, RU20, RU21, MO -/
import Derived.Test.YtigffgjkakalfaaGreatDoorV7
import Derived.Test.YtigffgjkakalfaaGreatDoorV6
import Derived.Test.YtigffgjkakalfaaGreatDoorV4
import Derived.Test.YtigffgjkakalfaaGreatDoorV5
/- Take: of no rumor, and where it tells an error. -/
namespace Go.Proofs.YtigffgjkakalfaaGreatDoor
open Go.RowKit Go.Sort Go.Shelf Go.Lib

set_option maxHeartbeats 1600000 in
theorem turns_none (v : Value) (w : World) (hv : RSl w v []) :
    Calls Tryz.prog 28 #[v] w fun e w' => e = .returned (.slice none 0 0) ∧ Below w.heap.size w w' := by
  obtain ⟨pa, ca, rfl, _, _⟩ := hv
  simp only [List.length_nil]
  have hs := fun (fv : Value) (W : World) => AnyF.slices_SortFunc_none (P := Tryz.prog) (ρ := Tryz.sortI_ren) { Tryz.sortI with } none 0 fv W
  have HS : Hid (∀ (fv : Value) (W : World), Calls Tryz.prog 57 #[.slice none 0 0, fv] W fun e w' => e = .returned (.tuple #[]) ∧ w' = W) := hs
  clear hs
  have hB0 : Below w.heap.size w (w.alloc (.cells #[.slice pa 0 ca] 25)) := (Below.refl _ _).alloc (Nat.le_refl _) _
  go_enter Tryz.func28, Tryz.ntmps28
  go_wp2_with fail
  refine wp_loop_rounds 1 ?_
  rw [rounds_succ]
  go_wp2_with fail
  refine (HS.out _ _).mono ?_
  rintro e w' ⟨rfl, rfl⟩
  go_wp2_with fail
  go_ret
  exact ⟨rfl, hB0⟩

set_option maxHeartbeats 1600000 in
theorem indexFunc_none (p : Option Addr) (c : Nat) (fv : Value) (w : World) :
    Calls Tryz.prog 61 #[.slice p 0 c, fv] w fun e w' => e = .returned (.int .i64 (-1)) ∧ w' = w := by
  go_enter Tryz.func61, Tryz.ntmps61
  go_wp2_with fail
  refine wp_loop_rounds 1 ?_
  rw [rounds_succ]
  go_wp2_with fail
  go_ret
  exact ⟨rfl, rfl⟩

set_option maxHeartbeats 1600000 in
theorem deleteFunc_none (p : Option Addr) (c : Nat) (fv : Value) (w : World) :
    Calls Tryz.prog 29 #[.slice p 0 c, fv] w fun e w' => e = .returned (.slice p 0 c) ∧ w' = w := by
  go_enter Tryz.func29, Tryz.ntmps29
  go_wp2_with fail
  refine (indexFunc_none _ _ _ _).mono ?_
  rintro e w' ⟨rfl, rfl⟩
  go_wp2_with fail
  go_ret
  exact ⟨rfl, rfl⟩

set_option maxHeartbeats 1600000 in
theorem take_none (v : Value) (most times : Int) (w : World) (hv : RSl w v []) (h0 : chkR [] = 0) (hm : within most 1 20 = true) (ht : within times 1 100 = true) :
    Calls Tryz.prog 9 #[v, .int .i64 most, .int .i64 times] w fun e w' => ∃ v1 v2, e = .returned (.tuple #[v1, v2, .int .i64 0]) ∧ Own w.heap.size w' v1 [] ∧ ROwn w.heap.size w' v2 [] ∧ Below w.heap.size w w' := by
  have HV : Hid (RSl w v []) := hv
  have hm1 : 1 ≤ most ∧ most ≤ 20 := by simp [within] at hm; omega
  obtain ⟨hm1, hm2⟩ := hm1
  have hchk := fun (w : World) (h : RSl w v []) => checkR_any [] v w h
  rw [h0] at hchk
  obtain ⟨pa, ca, rfl, _, _⟩ := hv
  simp only [List.length_nil] at *
  have hB0 : Below w.heap.size w (w.alloc (.cells #[.int .i64 times] 3)) := (Below.refl _ _).alloc (Nat.le_refl _) _
  go_enter Tryz.func9, Tryz.ntmps9
  go_wp2_with fail
  refine (hchk _ (HV.out.below hB0)).mono ?_
  rintro e w1 ⟨rfl, hb1⟩
  have c1 : w1.cell? ⟨w.heap.size, 0, none⟩ = some (.int .i64 times) := by
    rw [hb1.cell (p := ⟨w.heap.size, 0, none⟩) (by simp)]; exact cell_top' rfl
  have HB1 : Hid (Below w.heap.size w w1) := hB0.trans (hb1.mono (by simp))
  clear hb1 hB0 hchk
  go_wp2_with (go_at_call 26; refine (within_any _ _ _ _).mono ?_; rintro e w' ⟨rfl, rfl⟩; first | rw [hm] | rw [ht])
  refine (rclone_any [] _ _ (HV.out.below HB1.out) (by simp)).mono ?_
  rintro e w3 ⟨v3, rfl, ho3, hb3⟩
  have HO3 : Hid (ROwn w.heap.size w3 v3 []) := ho3.base HB1.out.size
  have HB3 : Hid (Below w.heap.size w w3) := HB1.out.trans (hb3.mono HB1.out.size)
  clear hb3 ho3 c1
  go_wp2_with fail
  refine (turns_none _ _ (HV.out.below HB3.out)).mono ?_
  rintro e w4 ⟨rfl, hb4⟩
  have HB4 : Hid (Below w.heap.size w w4) := HB3.out.trans (hb4.mono HB3.out.size)
  have HO4 : Hid (ROwn w.heap.size w4 v3 []) := HO3.out.below hb4
  clear hb4 HO3
  obtain ⟨g, c, hv3⟩ : ∃ g c, v3 = .slice g 0 c := by
    rcases HO4.out.2 with ⟨h, _⟩ | ⟨g, c, cur, h, _⟩
    · exact ⟨_, _, h⟩
    · exact ⟨_, _, h⟩
  subst hv3
  have hmin : min most 0 = 0 := by omega
  go_wp2_with fail
  refine wp_loop_rounds 1 ?_
  rw [rounds_succ]
  go_wp2_with fail
  refine (deleteFunc_none _ _ _ _).mono ?_
  rintro e w' ⟨rfl, rfl⟩
  go_wp2_with fail
  go_ret3
  exact ⟨_, _, rfl, own_nil _ _, HO4.out, HB4.out⟩

set_option maxHeartbeats 800000 in
theorem take_bad1 (rs : List Rum) (v : Value) (most times : Int) (w : World) (hv : RSl w v rs) (h0 : chkR rs ≠ 0) :
    Calls Tryz.prog 9 #[v, .int .i64 most, .int .i64 times] w fun e w' => e = .returned (.tuple #[.slice none 0 0, .slice none 0 0, .int .i64 (chkR rs)]) ∧ Below w.heap.size w w' := by
  have HV : Hid (RSl w v rs) := hv
  have hne : (chkR rs != 0) = true := by simpa using h0
  have hchk := fun (w : World) (h : RSl w v rs) => checkR_any rs v w h
  clear hv h0
  generalize chkR rs = q at *
  have hB0 : Below w.heap.size w (w.alloc (.cells #[.int .i64 times] 3)) := (Below.refl _ _).alloc (Nat.le_refl _) _
  go_enter Tryz.func9, Tryz.ntmps9
  go_wp2_with fail
  refine (hchk _ (HV.out.below hB0)).mono ?_
  rintro e w1 ⟨rfl, hb1⟩
  have HB1 : Hid (Below w.heap.size w w1) := hB0.trans (hb1.mono (by simp))
  clear hb1 hB0 hchk
  go_wp2_with fail
  go_ret3
  exact ⟨rfl, HB1.out⟩

set_option maxHeartbeats 800000 in
theorem take_bad2 (rs : List Rum) (v : Value) (most times : Int) (w : World) (hv : RSl w v rs) (h0 : chkR rs = 0) (hb : within most 1 20 = false ∨ within times 1 100 = false) :
    Calls Tryz.prog 9 #[v, .int .i64 most, .int .i64 times] w fun e w' => e = .returned (.tuple #[.slice none 0 0, .slice none 0 0, .int .i64 3]) ∧ Below w.heap.size w w' := by
  have HV : Hid (RSl w v rs) := hv
  have hchk := fun (w : World) (h : RSl w v rs) => checkR_any rs v w h
  rw [h0] at hchk
  clear hv h0
  have hB0 : Below w.heap.size w (w.alloc (.cells #[.int .i64 times] 3)) := (Below.refl _ _).alloc (Nat.le_refl _) _
  rcases hm : within most 1 20 with _ | _
  · go_enter Tryz.func9, Tryz.ntmps9
    go_wp2_with fail
    refine (hchk _ (HV.out.below hB0)).mono ?_
    rintro e w1 ⟨rfl, hb1⟩
    have HB1 : Hid (Below w.heap.size w w1) := hB0.trans (hb1.mono (by simp))
    clear hb1 hB0 hchk
    go_wp2_with (go_at_call 26; refine (within_any _ _ _ _).mono ?_; rintro e w' ⟨rfl, rfl⟩; rw [hm])
    go_ret3
    exact ⟨rfl, HB1.out⟩
  · have ht : within times 1 100 = false := by
      rcases hb with h | h
      · rw [hm] at h; cases h
      · exact h
    clear hb
    go_enter Tryz.func9, Tryz.ntmps9
    go_wp2_with fail
    refine (hchk _ (HV.out.below hB0)).mono ?_
    rintro e w1 ⟨rfl, hb1⟩
    have c1 : w1.cell? ⟨w.heap.size, 0, none⟩ = some (.int .i64 times) := by
      rw [hb1.cell (p := ⟨w.heap.size, 0, none⟩) (by simp)]; exact cell_top' rfl
    have HB1 : Hid (Below w.heap.size w w1) := hB0.trans (hb1.mono (by simp))
    clear hb1 hB0 hchk
    go_wp2_with (go_at_call 26; refine (within_any _ _ _ _).mono ?_; rintro e w' ⟨rfl, rfl⟩; first | rw [hm] | rw [ht])
    go_ret3
    exact ⟨rfl, HB1.out⟩

end Go.Proofs.YtigffgjkakalfaaGreatDoor

/- The document's way to whose turn it is: the least of those not yet taken. -/
namespace Go.Proofs.YtigffgjkakalfaaGreatDoor
open Go.RowKit

/-- What the document's search has found among the first i places. -/
def BestIs (rs : List Rum) (T : List Nat) (i : Nat) (b : Int) : Prop :=
  (b = -1 ∧ ∀ j, j < i → j ∈ T) ∨ ∃ p : Nat, b = p ∧ p < i ∧ p ∉ T ∧ ∀ j, j < i → j ∉ T → j ≠ p → cfR rs p j < 0

theorem BestIs.start (rs : List Rum) (T : List Nat) : BestIs rs T 0 (-1) := .inl ⟨rfl, fun j hj => by omega⟩
theorem BestIs.taken {rs : List Rum} {T : List Nat} {i : Nat} {b : Int} (h : BestIs rs T i b) (hi : i ∈ T) : BestIs rs T (i + 1) b := by
  rcases h with ⟨e, h⟩ | ⟨p, e, hp, hT, h⟩
  · refine .inl ⟨e, fun j hj => ?_⟩
    by_cases hji : j = i
    · subst hji; exact hi
    · exact h j (by omega)
  · refine .inr ⟨p, e, by omega, hT, fun j hj hjT hjp => ?_⟩
    by_cases hji : j = i
    · subst hji; exact absurd hi hjT
    · exact h j (by omega) hjT hjp
theorem BestIs.first {rs : List Rum} {T : List Nat} {i : Nat} (h : BestIs rs T i (-1)) (hi : i ∉ T) : BestIs rs T (i + 1) (i : Nat) := by
  rcases h with ⟨_, h⟩ | ⟨p, e, _⟩
  · refine .inr ⟨i, rfl, by omega, hi, fun j hj hjT hjp => absurd (h j (by omega)) hjT⟩
  · omega
theorem BestIs.turn {rs : List Rum} {T : List Nat} {i p : Nat} (h : BestIs rs T i (p : Nat)) (hi : i ∉ T) (hle : (rs.getD i dr).told ≤ (rs.getD p dr).told) : BestIs rs T (i + 1) (i : Nat) := by
  rcases h with ⟨e, _⟩ | ⟨p', e, hp, hT, h⟩
  · omega
  · have : p' = p := by omega
    subst this
    refine .inr ⟨i, rfl, by omega, hi, fun j hj hjT hji => ?_⟩
    rw [cfR_neg]
    by_cases hjp : j = p'
    · subst hjp; omega
    · have h2 := h j (by omega) hjT hjp
      rw [cfR_neg] at h2
      omega
theorem BestIs.stay {rs : List Rum} {T : List Nat} {i p : Nat} (h : BestIs rs T i (p : Nat)) (hlt : (rs.getD p dr).told < (rs.getD i dr).told) : BestIs rs T (i + 1) (p : Nat) := by
  rcases h with ⟨e, _⟩ | ⟨p', e, hp, hT, h⟩
  · omega
  · have : p' = p := by omega
    subst this
    refine .inr ⟨p', rfl, by omega, hT, fun j hj hjT hjp => ?_⟩
    by_cases hji : j = i
    · subst hji; rw [cfR_neg]; exact .inl hlt
    · exact h j (by omega) hjT hjp

/-- .. at the end it is the one whose turn it is. -/
theorem BestIs.done {rs : List Rum} {ord : List Nat} {k : Nat} {b : Int} (ho : IsOrd rs ord) (hk : k < rs.length) (h : BestIs rs (ord.take k) rs.length b) : b = (ord.getD k 0 : Nat) := by
  have hf := ho.fresh hk
  have hl := ho.lt hk
  rcases h with ⟨_, h⟩ | ⟨p, rfl, hp, hT, h⟩
  · exact absurd (h _ hl) hf
  · by_cases hpe : ord.getD k 0 = p
    · rw [hpe]
    · exfalso
      have h1 := h _ hl hf hpe
      obtain ⟨j, hj, e⟩ := List.getElem_of_mem (ho.all p hp)
      have hjk : ¬ j < k := fun hjk => hT (by rw [← e]; exact List.mem_take_iff_getElem.2 ⟨j, by omega, rfl⟩)
      have hne : j ≠ k := fun hh => by subst hh; rw [ord_get hj] at hpe; exact hpe e
      have h2 := ho.less k j (by omega) hj
      rw [ord_get hj, e] at h2
      rw [cfR_neg] at h1 h2
      omega

end Go.Proofs.YtigffgjkakalfaaGreatDoor

/- The document's TakeRumors. -/
namespace Go.Proofs.YtigffgjkakalfaaGreatDoor
open Go.RowKit

theorem Tryz.infoB : (Tryz.prog.info? 4).map (fun i => (i.zero, i.size, i.bytes)) = some (some (.bool false), 1, 1) := by kernel_rfl
def slLen : Value → Nat | .slice _ n _ => n | _ => 0
theorem ownsRow_block {w w' : World} {base g n c m : Nat} {e : TypeId} {s : Nat} {xs : List Value} (h : w.ownsRow base e s (.slice (some ⟨g, 0, none⟩) n c) m xs) (hg : w'.heap[g]? = w.heap[g]?) : w'.ownsRow base e s (.slice (some ⟨g, 0, none⟩) n c) m xs := by
  obtain ⟨h1, h2⟩ := h
  refine ⟨h1, ?_⟩
  rcases h2 with h2 | ⟨g', c', cur, hv, hbg, hg', hr⟩
  · exact .inl h2
  · have hgg : g' = g := by simp only [Value.slice.injEq, Option.some.injEq, Addr.mk.injEq, and_true] at hv; exact hv.1.symm
    subst hgg
    exact .inr ⟨g', c', cur, hv, hbg, by rw [hg]; exact hg', hr⟩
theorem madeB (w : World) (n j : Nat) (hj : j < n) : (w.alloc (.cells (madeCells #[Value.bool false] n) 4)).cell? ⟨w.heap.size, j, none⟩ = some (.bool false) := by
  rw [cell_top' rfl]
  rw [← Array.getElem?_toList, toList_madeCells_one]
  simp [hj]

theorem rbelow_drewN (w : World) (m : Nat) : Below w.heap.size w (w.drewN m) := ⟨rfl, rfl, rfl, Nat.le_refl _, fun _ _ => rfl⟩

set_option maxHeartbeats 3200000 in
set_option maxRecDepth 100000 in
theorem takeRumors_some (rs : List Rum) (v : Value) (most times : Int) (w : World) (hv : RSl w v rs) (hpos : 0 < rs.length) (hn20 : rs.length ≤ 20) (hm1 : 1 ≤ most) (hm2 : most ≤ 20) (htold : AllTold rs) (ord : List Nat) (hord : IsOrd rs ord) :
    Calls Tryz.prog 17 #[v, .int .i64 most, .int .i64 times] w fun e w' => ∃ v1 v2, e = .returned (.tuple #[v1, v2]) ∧ Own w.heap.size w' v1 (toldL rs ord (min most.toNat rs.length)) ∧ ROwn w.heap.size w' v2 ((bump rs ord (min most.toNat rs.length)).filter (keepR times)) ∧ Below w.heap.size w w' := by
  obtain ⟨i0, hi0, hz0, hzs, hzb⟩ := info_parts Tryz.infoR
  obtain ⟨j0, hj0, hk0, hks, hkb⟩ := info_parts Tryz.info24
  obtain ⟨l0, hl0, hm0, hms, hmb⟩ := info_parts Tryz.infoB
  have HTO : Hid (AllTold rs) := htold
  have HORD : Hid (IsOrd rs ord) := hord
  clear htold hord
  obtain ⟨pa, ca, rfl, _, ha⟩ := hv
  obtain ⟨b, off, hpa, hlb, hr⟩ : ∃ b off, pa = some ⟨b, off, none⟩ ∧ b < w.heap.size ∧ RRow w b off rs := by
    rcases ha with h | h
    · rw [h] at hpos; simp at hpos
    · exact h
  subst hpa
  have HR : Hid (RRow w b off rs) := hr
  have hnews : Hid (∀ j u, (flR rs)[j]? = some u → (w.alloc (.cells #[] 57)).cell? (Addr.add ⟨b, off, none⟩ j) = some u) := by
    intro j u hj
    rw [Addr.add_lit, World.cell?_alloc_past (w := w) _ b _ hlb]
    exact rrow_cell hr hj
  have HO : Hid ((w.alloc (.cells #[] 57)).ownsRow w.heap.size 57 6 (.slice (some ⟨w.heap.size, 0, none⟩) 0 0) 0 []) := World.ownsRow_made w #[] 0 (Nat.le_refl _) (by unfold maxLen; omega) rfl
  have HFL : Hid ((flR rs).length = rs.length * 6) := flR_len rs
  clear ha hr
  generalize hN : rs.length = n at *
  have HN : Hid (rs.length = n) := hN
  clear hN
  go_enter Tryz.func17, Tryz.ntmps17
  go_wp2_with (at_builtin; refine wpList_append_own _ rfl _ _ 25 rfl w.heap.size 57 i0 _ 6 56 Tryz.underlying25 hi0 hz0 hzs hzb rfl (by omega) _ 0 [] rfl HO.out ⟨b, off, none⟩ n ca (flR rs) rfl HFL.out hnews.out (flR_one rs) (by unfold maxLen; omega) (by omega) (by simp) ?_)
  intro v8 w1 r1 r2 r3
  have HO1 : Hid (ROwn w.heap.size w1 v8 rs) := by
    show World.ownsRow _ _ _ _ _ rs.length _
    rw [HN.out]
    simpa using r1
  have HB1 : Hid (Below w.heap.size w w1) := ((Below.refl _ _).alloc (Nat.le_refl _) _).grown r2 (by simp) (fun k hk => by simp [Value.ownBlock] at hk; omega)
  clear r1 r2 r3 HO hnews
  have hmk := run_make (P := Tryz.prog) w1 84 4 l0 (.bool false) Tryz.underlying84 hl0 hm0 .i64 .i64 n n (by omega) (by omega) (by rw [hmb]; omega) (by omega)
  rw [hms, Nat.mul_one, Int.toNat_natCast, show (Value.bool false).cells = #[Value.bool false] from rfl] at hmk
  obtain ⟨g, c, hv8⟩ : ∃ g c, v8 = .slice (some ⟨g, 0, none⟩) n c := by
    rcases HO1.out.2 with ⟨_, h0⟩ | ⟨g, c, cur, h, _⟩
    · have := HN.out; omega
    · exact ⟨g, c, by rw [h, HN.out]⟩
  subst hv8
  obtain ⟨hgl, hgh⟩ := HO1.out.lt g rfl
  have HK2 : Hid (∀ j, j < n → (w1.alloc (.cells (madeCells #[Value.bool false] n) 4)).cell? ⟨w1.heap.size, j, none⟩ = some (.bool (decide (j ∈ ord.take 0)))) := fun j hj => by rw [madeB _ _ _ hj]; simp
  have HF2 : Hid (∀ o, (w1.alloc (.cells (madeCells #[Value.bool false] n) 4)).frozen? ⟨w1.heap.size, o, none⟩ = false) := fun o => World.ownsRow.frozenAt (World.ownsRow_made (base := 0) (e := 4) (size := 1) w1 (madeCells #[Value.bool false] n) n (Nat.zero_le _) (by unfold maxLen; omega) (by rw [size_madeCells, Nat.mul_one])) o
  have hB2 := (Below.refl w1.heap.size w1).alloc (Nat.le_refl _) (.cells (madeCells #[Value.bool false] n) 4)
  have HO2 : Hid (ROwn w.heap.size (w1.alloc (.cells (madeCells #[Value.bool false] n) 4)) (.slice (some ⟨g, 0, none⟩) n c) rs) := HO1.out.below hB2
  have HB2 : Hid (Below w.heap.size w (w1.alloc (.cells (madeCells #[Value.bool false] n) 4))) := HB1.out.trans (hB2.mono HB1.out.size)
  have hz2 : (w1.alloc (.cells (madeCells #[Value.bool false] n) 4)).heap.size = w1.heap.size + 1 := by simp
  clear HO1 HB1 hB2
  go_wp2_with fail
  generalize w1.alloc (.cells (madeCells #[Value.bool false] n) 4) = w2 at *
  clear hmk
  obtain ⟨q, hq⟩ : ∃ q : Nat, q = min most.toNat n := ⟨_, rfl⟩
  have hqn : q ≤ n := by omega
  go_loopw [9] (fun o wr => ∃ k : Nat, k ≤ q ∧ Hid (Own (w1.heap.size + 1) wr o (toldL rs ord k)) ∧ Hid (ROwn w.heap.size wr (.slice (some ⟨g, 0, none⟩) n c) (bump rs ord k)) ∧ Hid (∀ j, j < n → wr.cell? ⟨w1.heap.size, j, none⟩ = some (.bool (decide (j ∈ ord.take k)))) ∧ Hid (∀ o, wr.frozen? ⟨w1.heap.size, o, none⟩ = false) ∧ Hid (Below w.heap.size w wr) ∧ w1.heap.size + 1 ≤ wr.heap.size) (fun o _ => q - slLen o)
  case atStart => exact ⟨0, Nat.zero_le _, (by rw [toldL_zero]; exact own_nil _ _), (by rw [bump_zero]; exact HO2.out), HK2, HF2, HB2, by omega⟩
  case round =>
    obtain ⟨k, hk, HTO2, HRO, HCT, HFZ, HB, hsz⟩ := hrel
    obtain ⟨wo, hwo⟩ : ∃ wo, wo = wr := ⟨_, rfl⟩
    subst hwo
    have htk : (toldL rs ord k).length = k := by
      unfold toldL
      have h1 := HORD.out.len
      have h2 := HN.out
      rw [List.length_map, List.length_take]; omega
    obtain ⟨oa, ocp, hvo⟩ := HTO2.out.slice
    subst hvo
    rw [htk]
    by_cases hlt : k < q
    · have h1 : (k : Int) < most := by omega
      have h2 : k < n := by omega
      have HRW : Hid (RRow wo b off rs) := HR.out.below HB.out hlb
      clear HK2 HF2 HB2 HO2
      go_wp2_with fail
      go_loopw [11, 12] (fun x y wx => Hid (Below wo.heap.size wo wx) ∧ ∃ (j : Nat) (z : Int), j ≤ n ∧ x = .int .i64 z ∧ y = .int .i64 j ∧ Hid (BestIs rs (ord.take k) j z)) (fun _ y _ => n - (intOf y).toNat)
      case atStart => exact ⟨Below.refl _ _, 0, -1, Nat.zero_le _, rfl, rfl, BestIs.start _ _⟩
      case round =>
        obtain ⟨HX, j, z, hj, rfl, rfl, HBE⟩ := hrel
        have HXS : Hid (wo.heap.size ≤ wr.heap.size) := HX.out.size
        have HXN : Hid (∀ m, Below wo.heap.size wo (wr.drewN m)) := fun m => HX.out.trans ((rbelow_drewN wr m).mono HX.out.size)
        by_cases hjn : j < n
        · have t1 : wr.cell? ⟨w1.heap.size, j, none⟩ = some (.bool (decide (j ∈ ord.take k))) := by
            rw [HX.out.cell (p := ⟨w1.heap.size, j, none⟩) (by simp only; omega)]; exact HCT.out j hjn
          by_cases hT : j ∈ ord.take k
          · have HNX : Hid (BestIs rs (ord.take k) (j + 1) z) := HBE.out.taken hT
            rw [decide_eq_true hT] at t1
            clear hT
            go_wp2_with fail
            go_quiet (fail)
            go_wp2_with fail
            exact ⟨⟨HXN.out _, j + 1, z, by omega, rfl, by go_num, HNX⟩, by simp [intOf]; omega⟩
          · have HT : Hid (j ∉ ord.take k) := hT
            rw [decide_eq_false hT] at t1
            clear hT
            rcases id HBE.out with ⟨hz, _⟩ | ⟨p, hz, hpj, _, _⟩
            · subst hz
              have HNX : Hid (BestIs rs (ord.take k) (j + 1) j) := HBE.out.first HT.out
              go_wp2_with fail
              go_quiet (fail)
              go_wp2_with fail
              exact ⟨⟨HXN.out _, j + 1, j, by omega, rfl, by go_num, HNX⟩, by simp [intOf]; omega⟩
            · subst hz
              have HRX : Hid (RRow wr b off rs) := HRW.out.below HX.out (by have := HB.out.size; omega)
              obtain ⟨_, _, _, _, _, c5⟩ := HRX.out j (by rw [HN.out]; exact hjn)
              obtain ⟨_, _, _, _, _, e5⟩ := HRX.out p (by rw [HN.out]; omega)
              have hpn : p < n := by omega
              have hp0 : decide ((p : Int) < 0) = false := by simp
              by_cases hle : (rs.getD j dr).told ≤ (rs.getD p dr).told
              · have HNX : Hid (BestIs rs (ord.take k) (j + 1) j) := HBE.out.turn HT.out hle
                generalize (rs.getD j dr).told = a at *
                generalize (rs.getD p dr).told = a' at *
                go_wp2_with fail
                go_quiet (fail)
                go_wp2_with fail
                exact ⟨⟨HXN.out _, j + 1, j, by omega, rfl, by go_num, HNX⟩, by simp [intOf]; omega⟩
              · have HNX : Hid (BestIs rs (ord.take k) (j + 1) p) := HBE.out.stay (by omega)
                generalize (rs.getD j dr).told = a at *
                generalize (rs.getD p dr).told = a' at *
                have hld : decide (a ≤ a') = false := by simpa using hle
                clear hle
                go_wp2_with fail
                go_quiet (fail)
                go_wp2_with fail
                exact ⟨⟨HXN.out _, j + 1, p, by omega, rfl, by go_num, HNX⟩, by simp [intOf]; omega⟩
        · have hjj : j = n := by omega
          subst hjj
          have hkn : k < rs.length := by rw [HN.out]; exact h2
          have hz : z = (ord.getD k 0 : Nat) := BestIs.done HORD.out hkn (by rw [HN.out]; exact HBE.out)
          subst hz
          have hat : ord.getD k 0 < j := by have := HORD.out.lt hkn; rwa [HN.out] at this
          have hbl : (bump rs ord k).length = j := by rw [bump_len]; exact HN.out
          have hwz : wo.heap.size ≤ wr.heap.size := HX.out.size
          have HBX : Hid (Below w.heap.size w wr) := HB.out.trans (HX.out.mono HB.out.size)
          have t1 : wr.cell? ⟨w1.heap.size, ord.getD k 0, none⟩ = some (.bool (decide (ord.getD k 0 ∈ ord.take k))) := by
            rw [HX.out.cell (p := ⟨w1.heap.size, ord.getD k 0, none⟩) (by simp only; omega)]; exact HCT.out _ hat
          have tf : ∀ o, wr.frozen? ⟨w1.heap.size, o, none⟩ = false := fun o => by
            rw [HX.out.frozen (p := ⟨w1.heap.size, o, none⟩) (by simp only; omega)]; exact HFZ.out o
          obtain ⟨e0, e1, e2, e3, e4, e5⟩ := (HRW.out.below HX.out (by have := HB.out.size; omega)) (ord.getD k 0) (by rw [HN.out]; exact hat)
          have HWA : Hid (∀ i, i < j → (wr.setCell ⟨w1.heap.size, ord.getD k 0, none⟩ (.bool true)).cell? ⟨w1.heap.size, i, none⟩ = some (.bool (decide (i ∈ ord.take (k + 1))))) := fun i hi => by
            rw [take_ord (by rw [HORD.out.len]; exact hkn)]
            by_cases hia : i = ord.getD k 0
            · subst hia
              rw [World.cell?_setCell_same (h := t1)]
              simp
            · rw [World.cell?_setCell_other (a := ⟨w1.heap.size, ord.getD k 0, none⟩) (b := ⟨w1.heap.size, i, none⟩) (h := by intro h; simp only [Addr.mk.injEq] at h; exact hia h.2.1.symm), HX.out.cell (p := ⟨w1.heap.size, i, none⟩) (by simp only; omega), HCT.out i hi]
              simp only [List.mem_append, List.mem_singleton, hia, or_false]
          have HFA : Hid (∀ o, (wr.setCell ⟨w1.heap.size, ord.getD k 0, none⟩ (.bool true)).frozen? ⟨w1.heap.size, o, none⟩ = false) := fun o => by
            have h := tf o
            simpa using h
          have HROx : Hid (ROwn w.heap.size (wr.setCell ⟨w1.heap.size, ord.getD k 0, none⟩ (.bool true)) (.slice (some ⟨g, 0, none⟩) j c) (bump rs ord k)) :=
            ownsRow_setCell_other (HRO.out.below HX.out) (by simp [Value.ownBlock]; omega) _
          have HTOx : Hid (Own (w1.heap.size + 1) (wr.setCell ⟨w1.heap.size, ord.getD k 0, none⟩ (.bool true)) (.slice oa (toldL rs ord k).length ocp) (toldL rs ord k)) :=
            ownsRow_setCell_below (HTO2.out.below HX.out) (a := ⟨w1.heap.size, ord.getD k 0, none⟩) (by simp only; omega) _
          have HBA : Hid (Below w.heap.size w (wr.setCell ⟨w1.heap.size, ord.getD k 0, none⟩ (.bool true))) := HBX.out.setCell (p := ⟨w1.heap.size, ord.getD k 0, none⟩) (by simp only; omega) _
          have HTS : Hid (toldL rs ord (k + 1) = toldL rs ord k ++ [(rs.getD (ord.getD k 0) dr).m]) := toldL_succ (by rw [HORD.out.len]; exact hkn)
          have htd := HTO.out _ (HORD.out.lt hkn)
          obtain ⟨ht3, ht4⟩ := within_bd htd
          have HLT : Hid (∀ i, (Value.slice oa (toldL rs ord k).length ocp).ownBlock = some i → w1.heap.size + 1 ≤ i) := fun i hi => (HTO2.out.lt i hi).1
          have hza : (wr.setCell ⟨w1.heap.size, ord.getD k 0, none⟩ (.bool true)).heap.size = wr.heap.size := by simp [World.setCell]
          have HBU : Hid (bump rs ord (k + 1) = (bump rs ord k).set (ord.getD k 0) ⟨(rs.getD (ord.getD k 0) dr).m, (rs.getD (ord.getD k 0) dr).told + 1⟩) := by
            show _ = _
            rw [bump_succ (by rw [HORD.out.len]; exact hkn), bumpOne, bump_fresh HORD.out hkn]
          have HFR : Hid ((bump rs ord k).getD (ord.getD k 0) dr = rs.getD (ord.getD k 0) dr) := bump_fresh HORD.out hkn
          rw [htk] at HLT
          clear HX HCT HFZ HTO2 HRO HXN HXS HBX HBE HRW htd
          generalize ord.getD k 0 = at1 at *
          generalize hrk : rs.getD at1 dr = rk at *
          clear hrk
          obtain ⟨⟨nm, st, lf, ad, sv⟩, td⟩ := rk
          simp only at e0 e1 e2 e3 e4 e5 ht3 ht4 HTS HBU HFR
          have hTL : (toldL rs ord k).length = k := htk
          generalize toldL rs ord k = TL at *
          have f0 : (wr.setCell ⟨w1.heap.size, at1, none⟩ (.bool true)).cell? ⟨b, off + at1 * 6, none⟩ = some (.string nm) := by rw [World.cell?_setCell_far _ _ _ _ (by simp only; omega)]; exact e0
          have f1 : (wr.setCell ⟨w1.heap.size, at1, none⟩ (.bool true)).cell? ⟨b, off + at1 * 6 + 1, none⟩ = some (.int .i64 st) := by rw [World.cell?_setCell_far _ _ _ _ (by simp only; omega)]; exact e1
          have f2 : (wr.setCell ⟨w1.heap.size, at1, none⟩ (.bool true)).cell? ⟨b, off + at1 * 6 + 2, none⟩ = some (.int .i64 lf) := by rw [World.cell?_setCell_far _ _ _ _ (by simp only; omega)]; exact e2
          have f3 : (wr.setCell ⟨w1.heap.size, at1, none⟩ (.bool true)).cell? ⟨b, off + at1 * 6 + 3, none⟩ = some (.int .i64 ad) := by rw [World.cell?_setCell_far _ _ _ _ (by simp only; omega)]; exact e3
          have f4 : (wr.setCell ⟨w1.heap.size, at1, none⟩ (.bool true)).cell? ⟨b, off + at1 * 6 + 4, none⟩ = some (.bool sv) := by rw [World.cell?_setCell_far _ _ _ _ (by simp only; omega)]; exact e4
          clear e0 e1 e2 e3 e4 e5
          have HOT : Hid (∀ ob, ((wr.setCell ⟨w1.heap.size, at1, none⟩ (.bool true)).alloc ob).ownsRow (w1.heap.size + 1) 24 5 (.slice oa k ocp) k (fl TL)) := fun ob => by
            have h := Own.below (ms := TL) HTOx.out ((Below.refl _ _).alloc (Nat.le_refl _) ob)
            rw [← hTL]; exact h
          have hfl : Hid ((fl TL).length = k * 5) := by show _ = _; rw [fl_len, hTL]
          clear HTOx
          go_wp2_with (at_builtin; refine wpList_append_own _ rfl _ _ 22 rfl (w1.heap.size + 1) 24 j0 _ 5 48 Tryz.underlying22 hj0 hk0 hks hkb rfl (by omega) _ k (fl TL) rfl ?hown ⟨wr.heap.size, 0, none⟩ 1 1 (Mem.mk nm st lf ad sv).cs rfl rfl ?hnews (cs_one _) ?h63 ?hbytes ?hbase ?_)
          case hown => exact HOT.out _
          case hnews => (intro j u hj; rw [Addr.add_lit]; exact (cell_top' (by simp)).trans (by simpa [Mem.cs] using hj))
          case h63 => (unfold maxLen; omega)
          case hbytes => omega
          case hbase => (simp; omega)
          intro v' w5 r1 r2 r3
          have hb5 : Below (w1.heap.size + 1) (wr.setCell ⟨w1.heap.size, at1, none⟩ (.bool true)) w5 :=
            ((Below.refl (w1.heap.size + 1) (wr.setCell ⟨w1.heap.size, at1, none⟩ (.bool true))).alloc (by simp; omega) _).grown r2 (by simp; omega) (fun j hj => HLT.out j hj)
          have R1 : Hid (Own (w1.heap.size + 1) w5 v' (TL ++ [⟨nm, st, lf, ad, sv⟩])) := own_snoc' (by rw [hTL]; exact r1)
          have hRO : w5.ownsRow w.heap.size 57 6 (.slice (some ⟨g, 0, none⟩) j c) j (flR (bump rs ord k)) := by
            have h2 : (wr.setCell ⟨w1.heap.size, at1, none⟩ (.bool true)).ownsRow w.heap.size 57 6 (.slice (some ⟨g, 0, none⟩) j c) (bump rs ord k).length (flR (bump rs ord k)) := HROx.out
            rw [hbl] at h2
            exact ownsRow_block h2 (hb5.block g (by omega))
          have g5 : w5.cell? ⟨g, at1 * 6 + 5, none⟩ = some (.int .i64 td) := by
            have h := rown_row (rs := bump rs ord k) (n := j) (c := c) (g := g) (base := w.heap.size) (w := w5) (by rw [hbl]; exact hRO) at1 (by rw [hbl]; exact hat)
            have h5 := h.2.2.2.2.2
            rw [HFR.out, Nat.zero_add] at h5
            exact h5
          have gf : ∀ o, w5.frozen? ⟨g, o, none⟩ = false := fun o => World.ownsRow.frozenAt hRO o
          have hb6 : Below (w1.heap.size + 1) wr w5 → True := fun _ => trivial
          have S1 : Hid (Own (w1.heap.size + 1) (w5.setCell ⟨g, at1 * 6 + 5, none⟩ (.int .i64 (td + 1))) v' (toldL rs ord (k + 1))) := by
            show Own _ _ _ _
            rw [HTS.out]
            exact ownsRow_setCell_below R1.out (a := ⟨g, at1 * 6 + 5, none⟩) (by simp only; omega) _
          have S2 : Hid (ROwn w.heap.size (w5.setCell ⟨g, at1 * 6 + 5, none⟩ (.int .i64 (td + 1))) (.slice (some ⟨g, 0, none⟩) j c) (bump rs ord (k + 1))) := by
            have h3 := (World.ownsRow.stored hRO (at1 * 6 + 5) (.int .i64 (td + 1))).1
            rw [wrs_told (by rw [hbl]; exact hat), HFR.out] at h3
            show World.ownsRow _ _ _ _ _ (bump rs ord (k + 1)).length _
            rw [bump_len, HN.out, HBU.out]
            exact h3
          have S3 : Hid (∀ i, i < j → (w5.setCell ⟨g, at1 * 6 + 5, none⟩ (.int .i64 (td + 1))).cell? ⟨w1.heap.size, i, none⟩ = some (.bool (decide (i ∈ ord.take (k + 1))))) := fun i hi => by
            rw [World.cell?_setCell_far _ _ _ _ (by simp only; omega), hb5.cell (p := ⟨w1.heap.size, i, none⟩) (by simp only; omega)]
            exact HWA.out i hi
          have S4 : Hid (∀ o, (w5.setCell ⟨g, at1 * 6 + 5, none⟩ (.int .i64 (td + 1))).frozen? ⟨w1.heap.size, o, none⟩ = false) := fun o => by
            have h := hb5.frozen (p := ⟨w1.heap.size, o, none⟩) (by simp only; omega)
            rw [HFA.out o] at h
            simpa using h
          have S5 : Hid (Below w.heap.size w (w5.setCell ⟨g, at1 * 6 + 5, none⟩ (.int .i64 (td + 1)))) := (HBA.out.trans (hb5.mono (by have := HB.out.size; omega))).setCell (p := ⟨g, at1 * 6 + 5, none⟩) (by simp only; omega) _
          have hz5 : w1.heap.size + 1 ≤ (w5.setCell ⟨g, at1 * 6 + 5, none⟩ (.int .i64 (td + 1))).heap.size := by
            have := hb5.size
            simp at this
            simp [World.setCell]
            omega
          have hlen : slLen v' = k + 1 := by
            obtain ⟨oa', oc', hv'⟩ := R1.out.slice
            rw [hv']
            simp [slLen, hTL]
          clear r1 r2 r3 hb5 hRO HWA HFA HROx HBA HOT R1
          go_wp2_with fail
          exact ⟨⟨k + 1, by omega, S1, S2, S3, S4, S5, hz5⟩, by rw [hlen]; simp only [slLen]; omega⟩
    · have hkq : k = q := by omega
      have hbl : (bump rs ord k).length = n := by rw [bump_len]; exact HN.out
      have HRW : Hid (RRow wo g 0 (bump rs ord k)) := rown_row HRO.out
      have HPO : Hid (∀ v1 v2 w', ∀ E : Ending, E = .returned (.tuple #[v1, v2]) → Own w.heap.size w' v1 (toldL rs ord k) → ROwn w.heap.size w' v2 ((bump rs ord k).filter (keepR times)) → Below w.heap.size w w' → ∃ v1 v2, E = .returned (.tuple #[v1, v2]) ∧ Own w.heap.size w' v1 (toldL rs ord (min most.toNat n)) ∧ ROwn w.heap.size w' v2 ((bump rs ord (min most.toNat n)).filter (keepR times)) ∧ Below w.heap.size w w') := by
        intro v1 v2 w' E a b c d
        rw [← hq, ← hkq]
        exact ⟨v1, v2, a, b, c, d⟩
      have HTO3 : Hid (Own w.heap.size wo (.slice oa k ocp) (toldL rs ord k)) := by
        have h := HTO2.out
        rw [htk] at h
        exact Own.base h (by omega)
      have HQ : Hid (¬ (k : Int) < most ∨ ¬ k < n) := show _ ∨ _ by omega
      clear HTO2 HRO HCT HFZ hkq hq
      generalize hbs : bump rs ord k = bs at *
      generalize toldL rs ord k = TL at *
      by_cases h1 : (k : Int) < most
      · have h3 : ¬ k < n := by rcases HQ.out with h | h <;> omega
        go_wp2_with fail
        go_loopw [13, 14] (fun o i wr => ∃ m : Nat, m ≤ n ∧ i = .int .i64 m ∧ Hid (ROwn wo.heap.size wr o ((bs.take m).filter (keepR times))) ∧ Hid (Below wo.heap.size wo wr)) (fun _ i _ => n - (intOf i).toNat)
        case atStart => exact ⟨0, Nat.zero_le _, rfl, (by simp only [List.take_zero, List.filter_nil]; exact rown_nil _ _), Below.refl _ _⟩
        case round =>
          obtain ⟨m, hm, rfl, HRE, HX⟩ := hrel
          by_cases hmn : m < n
          · obtain ⟨c0, c1, c2, c3, c4, c5⟩ := (HRW.out.below HX.out (by omega)) m (by rw [hbl]; exact hmn)
            have hwz : wo.heap.size ≤ wr.heap.size := HX.out.size
            have htm : bs.take (m + 1) = bs.take m ++ [bs.getD m dr] := by
              rw [List.take_succ_eq_append_getElem (by rw [hbl]; exact hmn)]
              simp [List.getD, List.getElem?_eq_getElem (show m < bs.length by rw [hbl]; exact hmn)]
            have HTM : Hid ((bs.take (m + 1)).filter (keepR times) = (bs.take m).filter (keepR times) ++ [bs.getD m dr].filter (keepR times)) := by
              show _ = _
              rw [htm, List.filter_append]
            have hfl : ((bs.take m).filter (keepR times)).length ≤ 20 := by
              have h1 := List.length_filter_le (keepR times) (bs.take m)
              rw [List.length_take] at h1
              omega
            obtain ⟨oa', oc', hvo⟩ := HRE.out.slice
            subst hvo
            have hkr : keepR times (bs.getD m dr) = decide ((bs.getD m dr).told < times) := rfl
            clear htm
            by_cases hlt2 : (bs.getD m dr).told < times
            · have HTN : Hid ((bs.take (m + 1)).filter (keepR times) = (bs.take m).filter (keepR times) ++ [bs.getD m dr]) := by
                show _ = _
                rw [HTM.out, filter_yes (by rw [hkr]; exact decide_eq_true hlt2)]
              clear HTM hkr
              generalize bs.getD m dr = rk at *
              obtain ⟨⟨nm, st, lf, ad, sv⟩, td⟩ := rk
              simp only at c0 c1 c2 c3 c4 c5 hlt2
              simp only [Nat.zero_add] at c0 c1 c2 c3 c4 c5
              generalize (bs.take m).filter (keepR times) = FL at *
              have HOT : Hid (∀ ob, (wr.alloc ob).ownsRow wo.heap.size 57 6 (.slice oa' FL.length oc') FL.length (flR FL)) := fun ob =>
                ROwn.below (ms := FL) HRE.out ((Below.refl _ _).alloc (Nat.le_refl _) ob)
              have HLT : Hid (∀ j, (Value.slice oa' FL.length oc').ownBlock = some j → wo.heap.size ≤ j) := fun j hj => (HRE.out.lt j hj).1
              clear HRE
              go_wp2_with (at_builtin; refine wpList_append_own _ rfl _ _ 25 rfl wo.heap.size 57 i0 _ 6 56 Tryz.underlying25 hi0 hz0 hzs hzb rfl (by omega) _ FL.length (flR FL) rfl ?hown ⟨wr.heap.size, 0, none⟩ 1 1 (Rum.mk (Mem.mk nm st lf ad sv) td).cs rfl rfl ?hnews (rcs_one _) ?h63 ?hbytes ?hbase ?_)
              case hown => exact HOT.out _
              case hnews => (intro j u hj; rw [Addr.add_lit]; exact (cell_top' (by simp)).trans (by simpa [Rum.cs, Mem.cs] using hj))
              case h63 => (unfold maxLen; omega)
              case hbytes => omega
              case hbase => (simp; omega)
              intro v' w5 r1 r2 r3
              have hb5 : Below wo.heap.size wo w5 := (HX.out.alloc hwz _).grown r2 (by simp; omega) (fun j hj => HLT.out j hj)
              have R1 : Hid (ROwn wo.heap.size w5 v' ((bs.take (m + 1)).filter (keepR times))) := by
                show ROwn _ _ _ _
                rw [HTN.out]
                exact rown_snoc r1
              have R2 : Hid (Below wo.heap.size wo w5) := hb5
              clear r1 r2 r3 hb5
              go_wp2_with fail
              exact ⟨⟨m + 1, by omega, by go_num, R1, R2⟩, by simp [intOf]; omega⟩
            · have HTN : Hid ((bs.take (m + 1)).filter (keepR times) = (bs.take m).filter (keepR times)) := by
                show _ = _
                rw [HTM.out, filter_no (by rw [hkr]; exact decide_eq_false hlt2), List.append_nil]
              clear HTM hkr
              generalize bs.getD m dr = rk at *
              obtain ⟨⟨nm, st, lf, ad, sv⟩, td⟩ := rk
              simp only at c0 c1 c2 c3 c4 c5 hlt2
              simp only [Nat.zero_add] at c0 c1 c2 c3 c4 c5
              clear c0 c1 c2 c3 c4
              go_wp2_with fail
              exact ⟨⟨m + 1, by omega, by go_num, by show ROwn _ _ _ _; rw [HTN.out]; exact HRE.out, HX⟩, by simp [intOf]; omega⟩
          · have hme : m = n := by omega
            subst hme
            have HR2 : Hid (ROwn w.heap.size wr u13 (bs.filter (keepR times))) := by
              have h := HRE.out
              rw [List.take_of_length_le (by omega)] at h
              exact ROwn.base h HB.out.size
            have HT4 : Hid (Own w.heap.size wr (.slice oa k ocp) TL) := HTO3.out.below HX.out
            have HB4 : Hid (Below w.heap.size w wr) := HB.out.trans (HX.out.mono HB.out.size)
            clear HRE
            go_wp2_with fail
            go_ret2
            exact HPO.out _ _ _ _ rfl HT4.out HR2.out HB4.out
      · go_wp2_with fail
        go_loopw [13, 14] (fun o i wr => ∃ m : Nat, m ≤ n ∧ i = .int .i64 m ∧ Hid (ROwn wo.heap.size wr o ((bs.take m).filter (keepR times))) ∧ Hid (Below wo.heap.size wo wr)) (fun _ i _ => n - (intOf i).toNat)
        case atStart => exact ⟨0, Nat.zero_le _, rfl, (by simp only [List.take_zero, List.filter_nil]; exact rown_nil _ _), Below.refl _ _⟩
        case round =>
          obtain ⟨m, hm, rfl, HRE, HX⟩ := hrel
          by_cases hmn : m < n
          · obtain ⟨c0, c1, c2, c3, c4, c5⟩ := (HRW.out.below HX.out (by omega)) m (by rw [hbl]; exact hmn)
            have hwz : wo.heap.size ≤ wr.heap.size := HX.out.size
            have htm : bs.take (m + 1) = bs.take m ++ [bs.getD m dr] := by
              rw [List.take_succ_eq_append_getElem (by rw [hbl]; exact hmn)]
              simp [List.getD, List.getElem?_eq_getElem (show m < bs.length by rw [hbl]; exact hmn)]
            have HTM : Hid ((bs.take (m + 1)).filter (keepR times) = (bs.take m).filter (keepR times) ++ [bs.getD m dr].filter (keepR times)) := by
              show _ = _
              rw [htm, List.filter_append]
            have hfl : ((bs.take m).filter (keepR times)).length ≤ 20 := by
              have h1 := List.length_filter_le (keepR times) (bs.take m)
              rw [List.length_take] at h1
              omega
            obtain ⟨oa', oc', hvo⟩ := HRE.out.slice
            subst hvo
            have hkr : keepR times (bs.getD m dr) = decide ((bs.getD m dr).told < times) := rfl
            clear htm
            by_cases hlt2 : (bs.getD m dr).told < times
            · have HTN : Hid ((bs.take (m + 1)).filter (keepR times) = (bs.take m).filter (keepR times) ++ [bs.getD m dr]) := by
                show _ = _
                rw [HTM.out, filter_yes (by rw [hkr]; exact decide_eq_true hlt2)]
              clear HTM hkr
              generalize bs.getD m dr = rk at *
              obtain ⟨⟨nm, st, lf, ad, sv⟩, td⟩ := rk
              simp only at c0 c1 c2 c3 c4 c5 hlt2
              simp only [Nat.zero_add] at c0 c1 c2 c3 c4 c5
              generalize (bs.take m).filter (keepR times) = FL at *
              have HOT : Hid (∀ ob, (wr.alloc ob).ownsRow wo.heap.size 57 6 (.slice oa' FL.length oc') FL.length (flR FL)) := fun ob =>
                ROwn.below (ms := FL) HRE.out ((Below.refl _ _).alloc (Nat.le_refl _) ob)
              have HLT : Hid (∀ j, (Value.slice oa' FL.length oc').ownBlock = some j → wo.heap.size ≤ j) := fun j hj => (HRE.out.lt j hj).1
              clear HRE
              go_wp2_with (at_builtin; refine wpList_append_own _ rfl _ _ 25 rfl wo.heap.size 57 i0 _ 6 56 Tryz.underlying25 hi0 hz0 hzs hzb rfl (by omega) _ FL.length (flR FL) rfl ?hown ⟨wr.heap.size, 0, none⟩ 1 1 (Rum.mk (Mem.mk nm st lf ad sv) td).cs rfl rfl ?hnews (rcs_one _) ?h63 ?hbytes ?hbase ?_)
              case hown => exact HOT.out _
              case hnews => (intro j u hj; rw [Addr.add_lit]; exact (cell_top' (by simp)).trans (by simpa [Rum.cs, Mem.cs] using hj))
              case h63 => (unfold maxLen; omega)
              case hbytes => omega
              case hbase => (simp; omega)
              intro v' w5 r1 r2 r3
              have hb5 : Below wo.heap.size wo w5 := (HX.out.alloc hwz _).grown r2 (by simp; omega) (fun j hj => HLT.out j hj)
              have R1 : Hid (ROwn wo.heap.size w5 v' ((bs.take (m + 1)).filter (keepR times))) := by
                show ROwn _ _ _ _
                rw [HTN.out]
                exact rown_snoc r1
              have R2 : Hid (Below wo.heap.size wo w5) := hb5
              clear r1 r2 r3 hb5
              go_wp2_with fail
              exact ⟨⟨m + 1, by omega, by go_num, R1, R2⟩, by simp [intOf]; omega⟩
            · have HTN : Hid ((bs.take (m + 1)).filter (keepR times) = (bs.take m).filter (keepR times)) := by
                show _ = _
                rw [HTM.out, filter_no (by rw [hkr]; exact decide_eq_false hlt2), List.append_nil]
              clear HTM hkr
              generalize bs.getD m dr = rk at *
              obtain ⟨⟨nm, st, lf, ad, sv⟩, td⟩ := rk
              simp only at c0 c1 c2 c3 c4 c5 hlt2
              simp only [Nat.zero_add] at c0 c1 c2 c3 c4 c5
              clear c0 c1 c2 c3 c4
              go_wp2_with fail
              exact ⟨⟨m + 1, by omega, by go_num, by show ROwn _ _ _ _; rw [HTN.out]; exact HRE.out, HX⟩, by simp [intOf]; omega⟩
          · have hme : m = n := by omega
            subst hme
            have HR2 : Hid (ROwn w.heap.size wr u13 (bs.filter (keepR times))) := by
              have h := HRE.out
              rw [List.take_of_length_le (by omega)] at h
              exact ROwn.base h HB.out.size
            have HT4 : Hid (Own w.heap.size wr (.slice oa k ocp) TL) := HTO3.out.below HX.out
            have HB4 : Hid (Below w.heap.size w wr) := HB.out.trans (HX.out.mono HB.out.size)
            clear HRE
            go_wp2_with fail
            go_ret2
            exact HPO.out _ _ _ _ rfl HT4.out HR2.out HB4.out

end Go.Proofs.YtigffgjkakalfaaGreatDoor

/- The document's TakeRumors of no rumor. -/
namespace Go.Proofs.YtigffgjkakalfaaGreatDoor
open Go.RowKit

set_option maxHeartbeats 3200000 in
set_option maxRecDepth 100000 in
theorem takeRumors_none (v : Value) (most times : Int) (w : World) (hv : RSl w v []) (hm1 : 1 ≤ most) :
    Calls Tryz.prog 17 #[v, .int .i64 most, .int .i64 times] w fun e w' => ∃ v1 v2, e = .returned (.tuple #[v1, v2]) ∧ Own w.heap.size w' v1 [] ∧ ROwn w.heap.size w' v2 [] ∧ Below w.heap.size w w' := by
  obtain ⟨i0, hi0, hz0, hzs, hzb⟩ := info_parts Tryz.infoR
  obtain ⟨l0, hl0, hm0, hms, hmb⟩ := info_parts Tryz.infoB
  obtain ⟨pa, ca, rfl, _, ha⟩ := hv
  clear ha
  simp only [List.length_nil]
  have hmk := fun w1 => run_make (P := Tryz.prog) w1 84 4 l0 (.bool false) Tryz.underlying84 hl0 hm0 .i64 .i64 0 0 (by omega) (by omega) (by rw [hmb]; omega) (by omega)
  have h0m : (0 : Int) < most := by omega
  rw [hms, Nat.mul_one, show (Value.bool false).cells = #[Value.bool false] from rfl] at hmk
  simp only [Int.toNat_zero] at hmk
  have TAILX : True := trivial
  have hB1 : Below w.heap.size w (w.alloc (.cells #[] 57)) := (Below.refl _ _).alloc (Nat.le_refl _) _
  cases pa with
  | none =>
    have hap : ∀ W, (Builtin.append_ #[25, 25] 25 #[.slice (some ⟨w.heap.size, 0, none⟩) 0 0, .slice none 0 ca]).run Tryz.prog W = .ok (.slice (some ⟨w.heap.size, 0, none⟩) 0 0) W := by
      intro W
      simp [Builtin.append_, run_underlying Tryz.underlying25, typeInfo, hi0, storeCells, Builtin.lenOf, Builtin.firstCells]
    have HB2 : Hid (∀ ob, Below w.heap.size w ((w.alloc (.cells #[] 57)).alloc ob)) := fun ob => hB1.alloc (by simp) ob
    clear hB1
    go_enter Tryz.func17, Tryz.ntmps17
    go_wp2_with fail
    refine wp_loop_rounds 1 ?_
    rw [rounds_succ]
    go_wp2_with fail
    refine wp_loop_rounds 1 ?_
    rw [rounds_succ]
    go_wp2_with fail
    go_ret2
    exact ⟨_, _, rfl, own_nil _ _, rown_nil _ _, HB2.out _⟩
  | some a =>
    have HO : Hid ((w.alloc (.cells #[] 57)).ownsRow w.heap.size 57 6 (.slice (some ⟨w.heap.size, 0, none⟩) 0 0) 0 []) := World.ownsRow_made w #[] 0 (Nat.le_refl _) (by unfold maxLen; omega) rfl
    go_enter Tryz.func17, Tryz.ntmps17
    go_wp2_with (at_builtin; refine wpList_append_own _ rfl _ _ 25 rfl w.heap.size 57 i0 _ 6 56 Tryz.underlying25 hi0 hz0 hzs hzb rfl (by omega) _ 0 [] rfl HO.out a 0 ca [] rfl rfl (by simp) (by simp) (by unfold maxLen; omega) (by omega) (by simp) ?_)
    intro v8 w1 r1 r2 r3
    have HB1 : Hid (Below w.heap.size w w1) := hB1.grown r2 (by simp) (fun k hk => by simp [Value.ownBlock] at hk; omega)
    have HB2 : Hid (∀ ob, Below w.heap.size w (w1.alloc ob)) := fun ob => HB1.out.alloc HB1.out.size ob
    obtain ⟨p8, c8, hv8⟩ : ∃ p c, v8 = .slice p 0 c := by
      rcases r1.2 with ⟨h, _⟩ | ⟨g, c, cur, h, _⟩
      · exact ⟨_, _, h⟩
      · exact ⟨_, _, h⟩
    subst hv8
    clear r1 r2 r3 hB1 HO
    go_wp2_with fail
    refine wp_loop_rounds 1 ?_
    rw [rounds_succ]
    go_wp2_with fail
    refine wp_loop_rounds 1 ?_
    rw [rounds_succ]
    go_wp2_with fail
    go_ret2
    exact ⟨_, _, rfl, own_nil _ _, rown_nil _ _, HB2.out _⟩

end Go.Proofs.YtigffgjkakalfaaGreatDoor

/- The law RumorTakes. -/
namespace Go.Proofs.YtigffgjkakalfaaGreatDoor
open Go.RowKit

theorem sl_none (w : World) : Sl w (.slice none 0 0) [] := ⟨none, 0, rfl, fun j => by simp [dm], .inl rfl⟩
def Short (l : List Rum) : Prop := ∀ r ∈ l, r.m.name.size ≤ maxLen
theorem short_bumpOne {l : List Rum} (h : Short l) (i : Nat) : Short (bumpOne l i) := fun r hr => by
  rcases List.mem_or_eq_of_mem_set hr with h1 | h1
  · exact h r h1
  · subst h1; exact rns_get h i
theorem short_foldl : ∀ (is : List Nat) (l : List Rum), Short l → Short (is.foldl bumpOne l)
  | [], _, h => h
  | i :: r, _, h => short_foldl r _ (short_bumpOne h i)

/-- What Take says, and the document with it. -/
def Takes (rs : List Rum) (v : Value) (most times : Int) : Prop := ∀ w, RSl w v rs → Calls Tryz.prog 9 #[v, .int .i64 most, .int .i64 times] w fun e w' =>
  ∃ (v1 v2 : Value) (tl : List Mem) (rl : List Rum), e = .returned (.tuple #[v1, v2, .int .i64 0]) ∧ Sl w' v1 tl ∧ RSl w' v2 rl ∧ tl.length ≤ 20 ∧ rl.length ≤ 20 ∧ Below w.heap.size w w' ∧
    ∀ w, RSl w v rs → Calls Tryz.prog 17 #[v, .int .i64 most, .int .i64 times] w fun e w' => ∃ v1 v2, e = .returned (.tuple #[v1, v2]) ∧ Sl w' v1 tl ∧ RSl w' v2 rl ∧ Below w.heap.size w w'

theorem takes_all (rs : List Rum) (v : Value) (most times : Int) (h0 : chkR rs = 0) (hm : within most 1 20 = true) (ht : within times 1 100 = true) : Takes rs v most times := by
  intro w hv
  have hm1 : 1 ≤ most ∧ most ≤ 20 := by simp [within] at hm; omega
  obtain ⟨hn20, _, htold, _⟩ := chkR_zero h0
  cases rs with
  | nil =>
    refine (take_none v most times w hv h0 hm ht).mono ?_
    rintro e w' ⟨v1, v2, rfl, o1, o2, hb⟩
    refine ⟨v1, v2, [], [], rfl, o1.sl (ns_get (by simp)), o2.names (by simp), by simp, by simp, hb, fun w hv => (takeRumors_none v most times w hv hm1.1).mono ?_⟩
    rintro e w' ⟨v1, v2, rfl, o1, o2, hb⟩
    exact ⟨v1, v2, rfl, o1.sl (ns_get (by simp)), o2.names (by simp), hb⟩
  | cons r0 rest =>
    have hs : ∀ j, ((r0 :: rest).getD j dr).m.name.size ≤ maxLen := by obtain ⟨_, _, _, h, _⟩ := hv; exact h
    have hsh : Short (r0 :: rest) := rns_mem hs
    generalize hR : r0 :: rest = rs at *
    have hpos : 0 < rs.length := by rw [← hR]; simp
    obtain ⟨m, hm'⟩ : ∃ m, rs.length = m + 1 := ⟨rs.length - 1, by omega⟩
    refine (take_some rs v most times w hv h0 hm ht hpos (turns_some rs v m hm' (by omega))).mono ?_
    rintro e w' ⟨v1, v2, ord, rfl, hord, o1, o2, hb⟩
    have n1 : ∀ m ∈ toldL rs ord (min most.toNat rs.length), m.name.size ≤ maxLen := fun x hx => by
      unfold toldL at hx
      obtain ⟨i, _, rfl⟩ := List.mem_map.1 hx
      exact hs i
    have n2 : ∀ r ∈ (bump rs ord (min most.toNat rs.length)).filter (keepR times), r.m.name.size ≤ maxLen := fun r hr =>
      short_foldl _ _ hsh r (List.mem_filter.1 hr).1
    refine ⟨v1, v2, _, _, rfl, o1.sl (ns_get n1), o2.names n2, ?_, ?_, hb, fun w hv => (takeRumors_some rs v most times w hv hpos hn20 hm1.1 hm1.2 htold ord hord).mono ?_⟩
    · unfold toldL; rw [List.length_map, List.length_take]; omega
    · have h1 := List.length_filter_le (keepR times) (bump rs ord (min most.toNat rs.length))
      rw [bump_len] at h1
      omega
    · rintro e w' ⟨v1, v2, rfl, o1, o2, hb⟩
      exact ⟨v1, v2, rfl, o1.sl (ns_get n1), o2.names n2, hb⟩

end Go.Proofs.YtigffgjkakalfaaGreatDoor

/- The document's own Hear: MemberAt and HearMember. -/
namespace Go.Proofs.YtigffgjkakalfaaGreatDoor
open Go.RowKit

/-- The place of a name; -1: it is none. -/
def AtI (ms : List Mem) (t : ByteArray) (r : Int) : Prop :=
  (∃ k : Nat, k < ms.length ∧ r = k ∧ (ms.getD k dm).name = t) ∨ (r = -1 ∧ ∀ j, j < ms.length → (ms.getD j dm).name ≠ t)

set_option maxHeartbeats 800000 in
theorem memberAt_any (ms : List Mem) (v : Value) (t : ByteArray) (w : World) (hv : Sl w v ms) (hn : ms.length ≤ 1000) :
    Calls Tryz.prog 40 #[v, .string t] w fun e w' => ∃ r : Int, e = .returned (.int .i64 r) ∧ Hid (AtI ms t r) ∧ w' = w := by
  obtain ⟨pa, ca, rfl, _, ha⟩ := hv
  have HA : Hid (ms = [] ∨ ∃ b off, pa = some ⟨b, off, none⟩ ∧ b < w.heap.size ∧ Row w b off ms) := ha
  clear ha
  generalize hna : ms.length = n at *
  have HN : Hid (ms.length = n) := hna
  clear hna
  go_enter Tryz.func40, Tryz.ntmps40
  go_wp2_with fail
  go_loop [5] (fun i => ∃ k : Nat, k ≤ n ∧ i = .int .i64 k ∧ Hid (∀ j, j < k → (ms.getD j dm).name ≠ t)) (fun i => n - (intOf i).toNat)
  case atStart => exact ⟨0, Nat.zero_le _, rfl, fun j h => absurd h (Nat.not_lt_zero _)⟩
  case round =>
    obtain ⟨k, hk, rfl, hz⟩ := hrel
    by_cases hlt : k < n
    · obtain ⟨b1, o1, hp1, hl1, hr1⟩ : ∃ b off, pa = some ⟨b, off, none⟩ ∧ b < w.heap.size ∧ Row w b off ms := by
        rcases HA.out with h | h
        · have := HN.out; rw [h] at this; simp at this; omega
        · exact h
      subst hp1
      obtain ⟨c0, _, _, _, _⟩ := hr1 k (by rw [HN.out]; exact hlt)
      clear hr1
      have HF : Hid ((ms.getD k dm).name = t → AtI ms t (k : Int)) := fun h => .inl ⟨k, by rw [HN.out]; exact hlt, rfl, h⟩
      have HZ : Hid ((ms.getD k dm).name ≠ t → ∀ j, j < k + 1 → (ms.getD j dm).name ≠ t) := fun h j hj => by
        rcases Nat.lt_succ_iff_lt_or_eq.1 hj with h2 | rfl
        · exact hz.out j h2
        · exact h
      generalize (ms.getD k dm).name = nm at *
      by_cases he : nm = t
      · subst he
        have HF2 : Hid (AtI ms nm (k : Int)) := HF.out rfl
        clear HF HZ
        go_wp2_with fail
        go_ret
        exact ⟨k, rfl, HF2, rfl⟩
      · obtain ⟨h1, h2⟩ := beq_name he
        have HE : Hid (nm ≠ t) := he
        clear he
        go_wp2_with fail
        go_round
        case rel => exact ⟨k + 1, by omega, by go_num, HZ.out HE.out⟩
        case measure => simp [intOf]; omega
    · go_wp2_with fail
      go_ret
      exact ⟨-1, rfl, .inr ⟨rfl, fun j hj => hz.out j (by have := HN.out; omega)⟩, rfl⟩

theorem newM_irrefl (m : Mem) : newM m m = false := by simp [newM, newB]

/-- What the document's Hear has put behind k of the members. -/
def outL (ms : List Mem) (m : Mem) (p q k : Nat) : List Mem := if k ≤ p then ms.take k else ms.take p ++ m :: (ms.take k).drop q

theorem outL_lo {ms : List Mem} {m : Mem} {p q k : Nat} (h : k < p) (hk : k < ms.length) : outL ms m p q (k + 1) = outL ms m p q k ++ [ms.getD k dm] := by
  rw [outL, outL, if_pos (by omega), if_pos (by omega), List.take_succ_eq_append_getElem hk]
  simp [List.getD, List.getElem?_eq_getElem hk]
theorem outL_eq {ms : List Mem} {m : Mem} {p : Nat} (hp : p < ms.length) : outL ms m p (p + 1) (p + 1) = outL ms m p (p + 1) p ++ [m] := by
  rw [outL, outL, if_neg (by omega), if_pos (by omega), List.drop_of_length_le (by simp; omega)]
theorem outL_ne {ms : List Mem} {m : Mem} {p : Nat} (hp : p < ms.length) : outL ms m p p (p + 1) = (outL ms m p p p ++ [m]) ++ [ms.getD p dm] := by
  rw [outL, outL, if_neg (by omega), if_pos (by omega), List.take_succ_eq_append_getElem hp, List.drop_append_of_le_length (by simp; omega), List.drop_of_length_le (by simp; omega)]
  simp [List.getD, List.getElem?_eq_getElem hp]
theorem outL_hi {ms : List Mem} {m : Mem} {p q k : Nat} (h : p < k) (hq : q ≤ k) (hk : k < ms.length) : outL ms m p q (k + 1) = outL ms m p q k ++ [ms.getD k dm] := by
  rw [outL, outL, if_neg (by omega), if_neg (by omega), List.take_succ_eq_append_getElem hk, List.drop_append_of_le_length (by simp; omega)]
  simp [List.getD, List.getElem?_eq_getElem hk]
theorem outL_end {ms : List Mem} {m : Mem} {p q : Nat} (hp : p < ms.length) : outL ms m p q ms.length = ms.take p ++ m :: ms.drop q := by
  rw [outL, if_neg (by omega), List.take_length]
theorem outL_len {ms : List Mem} {m : Mem} {p q k : Nat} : (outL ms m p q k).length ≤ 1 + ms.length + ms.length := by
  unfold outL; split <;> simp <;> omega

end Go.Proofs.YtigffgjkakalfaaGreatDoor

