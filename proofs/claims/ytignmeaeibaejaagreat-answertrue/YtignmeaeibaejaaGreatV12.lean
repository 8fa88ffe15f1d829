/- AN1, AN2 -/
import Derived.Test.YtignmeaeibaejaaGreatV9
import Derived.Laws.EntriesVeiled
import Derived.Test.YtignmeaeibaejaaGreatV11
import Derived.Deep.AppendLies
/- Who is out: the member of a name, as one who answers looks it up. -/
namespace Go.Proofs.YtignmeaeibaejaaGreat
open Go.RowKit

theorem beq_nm (a b : ByteArray) : (a.toList == b.toList) = decide (a = b) := by
  by_cases h : a = b
  · subst h; simp
  · rw [(beq_name h).1, decide_eq_false h]

set_option maxHeartbeats 800000 in
theorem isIt_any (m : Mem) (nb : Nat) (nm : ByteArray) (w : World) (h : w.cell? ⟨nb, 0, none⟩ = some (.string nm)) :
    Calls Tryz.prog 70 #[.agg #[.string m.name, .int .i64 m.state, .int .i64 m.life, .int .i64 m.addr, .bool m.server], .pointer (some ⟨nb, 0, none⟩)] w fun e w' => e = .returned (.bool (decide (m.name = nm))) ∧ w' = w.alloc (.cells #[.string m.name, .int .i64 m.state, .int .i64 m.life, .int .i64 m.addr, .bool m.server] 44) := by
  have hb : nb < w.heap.size := World.block_lt_of_cell? w _ h
  have h2 : ∀ ob, (w.alloc ob).cell? ⟨nb, 0, none⟩ = some (.string nm) := fun ob => by
    rw [((Below.refl w.heap.size w).alloc (Nat.le_refl _) ob).cell (p := ⟨nb, 0, none⟩) hb]; exact h
  obtain ⟨mn, st, lf, ad, sv⟩ := m
  go_enter Tryz.func70, Tryz.ntmps70
  go_wp2_with fail
  go_ret
  exact ⟨ret_bool (beq_nm _ _), rfl⟩

set_option maxHeartbeats 1600000 in
theorem mIndex_any (ms : List Mem) (pa : Option Addr) (n c nb : Nat) (nm : ByteArray) (w : World) (hv : Sl w (.slice pa n c) ms) (hsm : n ≤ 1000) (ht : w.cell? ⟨nb, 0, none⟩ = some (.string nm)) :
    Calls Tryz.prog 71 #[.slice pa n c, .func (.func 70) #[] #[.pointer (some ⟨nb, 0, none⟩)]] w fun e w' =>
      ((e = .returned (.int .i64 (-1)) ∧ Hid (fstM ms nm = none)) ∨ (∃ i : Nat, i < n ∧ e = .returned (.int .i64 i) ∧ Hid (fstM ms nm = some (ms.getD i dm)))) ∧ Below w.heap.size w w' := by
  obtain ⟨pa', ca, he, _, ha⟩ := hv
  simp only [Value.slice.injEq] at he
  obtain ⟨rfl, hN, rfl⟩ := he
  have HA : Hid (ms = [] ∨ ∃ b off, pa = some ⟨b, off, none⟩ ∧ b < w.heap.size ∧ Row w b off ms) := ha
  have HN : Hid (ms.length = n) := hN.symm
  have HT : Hid (w.cell? ⟨nb, 0, none⟩ = some (.string nm)) := ht
  have htb : nb < w.heap.size := World.block_lt_of_cell? w _ ht
  clear ha hN ht
  go_enter Tryz.func71, Tryz.ntmps71
  go_wp2_with fail
  go_loopw [8] (fun i wr => ∃ k : Nat, k ≤ n ∧ i = .int .i64 k ∧ Hid (∀ j, j < k → (ms.getD j dm).name ≠ nm) ∧ Hid (Below w.heap.size w wr)) (fun i _ => n - (intOf i).toNat)
  case atStart => exact ⟨0, Nat.zero_le _, rfl, fun j hj => by omega, Below.refl _ _⟩
  case round =>
    obtain ⟨k, hk, rfl, HZ, HB⟩ := hrel
    by_cases hlt : k < n
    · obtain ⟨b, off, hp1, hl1, hr⟩ : ∃ b off, pa = some ⟨b, off, none⟩ ∧ b < w.heap.size ∧ Row w b off ms := by
        rcases HA.out with h | h
        · have := HN.out; rw [h] at this; simp at this; omega
        · exact h
      subst hp1
      obtain ⟨c0, c1, c2, c3, c4⟩ := hr.later HB.out hl1 k (by rw [HN.out]; exact hlt)
      clear hr
      have ht2 : wr.cell? ⟨nb, 0, none⟩ = some (.string nm) := by rw [HB.out.cell (p := ⟨nb, 0, none⟩) htb]; exact HT.out
      have HY : Hid ((ms.getD k dm).name = nm → fstM ms nm = some (ms.getD k dm)) := fun h => fstM_some (by rw [HN.out]; exact hlt) HZ.out h
      have HZ2 : Hid ((ms.getD k dm).name ≠ nm → ∀ j, j < k + 1 → (ms.getD j dm).name ≠ nm) := fun h j hj => by
        by_cases e : j = k
        · subst e; exact h
        · exact HZ.out j (by omega)
      have hF := fun w h => isIt_any (ms.getD k dm) nb nm w h
      by_cases hkp : (ms.getD k dm).name = nm
      · have HF : Hid (fstM ms nm = some (ms.getD k dm)) := HY.out hkp
        rw [decide_eq_true hkp] at hF
        clear hkp HZ2 HY
        generalize hmk : ms.getD k dm = mk at *
        have HMK : Hid (ms.getD k dm = mk) := hmk
        clear hmk
        obtain ⟨mn, st, lf, ad, sv⟩ := mk
        simp only at c0 c1 c2 c3 c4 hF
        go_wp2_with fail
        refine (hF _ ht2).mono ?_
        rintro e w1 ⟨rfl, rfl⟩
        go_wp2_with fail
        go_ret
        exact ⟨.inr ⟨k, hlt, rfl, by rw [HMK.out]; exact HF⟩, HB.out.alloc HB.out.size _⟩
      · have HZ3 : Hid (∀ j, j < k + 1 → (ms.getD j dm).name ≠ nm) := HZ2.out hkp
        rw [decide_eq_false hkp] at hF
        clear hkp HZ2 HY HZ
        generalize ms.getD k dm = mk at *
        obtain ⟨mn, st, lf, ad, sv⟩ := mk
        simp only at c0 c1 c2 c3 c4 hF
        go_wp2_with fail
        refine (hF _ ht2).mono ?_
        rintro e w1 ⟨rfl, rfl⟩
        go_wp2_with fail
        go_roundw
        case rel => exact ⟨k + 1, by omega, by go_num, HZ3, HB.out.alloc HB.out.size _⟩
        case measure => simp [intOf]; omega
    · have HZ3 : Hid (fstM ms nm = none) := fstM_none fun j hj => HZ.out j (by have := HN.out; omega)
      clear HZ
      go_wp2_with fail
      go_ret
      exact ⟨.inl ⟨rfl, HZ3⟩, HB.out⟩

/-- What one who answers knows, as it is handed on. -/
abbrev knA (here : ByteArray) (vs vm : Value) (px py pz ph pq : Int) (vw : Value) : Array Value := #[.string here, vs, vm, .int .i64 px, .int .i64 py, .int .i64 pz, .int .i64 ph, .int .i64 pq, vw]
theorem mOf_some {ms : List Mem} {t : ByteArray} {m : Mem} (h : fstM ms t = some m) : mOf ms t = m := by unfold mOf; rw [h]; rfl
theorem mOf_none {ms : List Mem} {t : ByteArray} (h : fstM ms t = none) : mOf ms t = dm := by unfold mOf; rw [h]; rfl

set_option maxHeartbeats 3200000 in
set_option maxRecDepth 100000 in
theorem kmember_any (here : ByteArray) (ps pm pw : Option Addr) (ns cs nm cm nw cw : Nat) (px py pz ph pq : Int) (ms : List Mem) (t : ByteArray) (w : World) (hm : Sl w (.slice pm nm cm) ms) (hn : nm ≤ 1000) :
    Calls Tryz.prog 47 #[.agg (knA here (.slice ps ns cs) (.slice pm nm cm) px py pz ph pq (.slice pw nw cw)), .string t] w fun e w' => e = .returned (.agg #[.string (mOf ms t).name, .int .i64 (mOf ms t).state, .int .i64 (mOf ms t).life, .int .i64 (mOf ms t).addr, .bool (mOf ms t).server]) ∧ Below w.heap.size w w' := by
  have HM : Hid (Sl w (.slice pm nm cm) ms) := hm
  clear hm
  go_enter Tryz.func47, Tryz.ntmps47
  go_wp2_with fail
  obtain ⟨W, hW⟩ : ∃ W, W = ((w.alloc (.cells (knA here (.slice ps ns cs) (.slice pm nm cm) px py pz ph pq (.slice pw nw cw)) 48)).alloc (.cells #[.string t] 9)).alloc (.cells #[.string ⟨#[]⟩, .int .i64 0, .int .i64 0, .int .i64 0, .bool false] 44) := ⟨_, rfl⟩
  rw [← hW]
  have hbW : Below w.heap.size w W := by rw [hW]; exact (((Below.refl _ _).alloc (Nat.le_refl _) _).alloc (by simp) _).alloc (by simp; omega) _
  have hg0 : W.heap[w.heap.size]? = some (.cells (knA here (.slice ps ns cs) (.slice pm nm cm) px py pz ph pq (.slice pw nw cw)) 48 (0, 0)) := by
    rw [hW, Below.heap_alloc _ _ _ (by simp; omega), Below.heap_alloc _ _ _ (by simp)]; exact heap_alloc_new w _
  have hg1 : W.heap[w.heap.size + 1]? = some (.cells #[.string t] 9 (0, 0)) := by
    rw [hW, Below.heap_alloc _ _ _ (by simp)]
    have h := heap_alloc_new (w.alloc (.cells (knA here (.slice ps ns cs) (.slice pm nm cm) px py pz ph pq (.slice pw nw cw)) 48)) (.cells #[.string t] 9)
    simpa using h
  have hg2 : W.heap[w.heap.size + 2]? = some (.cells #[.string ⟨#[]⟩, .int .i64 0, .int .i64 0, .int .i64 0, .bool false] 44 (0, 0)) := by
    rw [hW]
    have h := heap_alloc_new ((w.alloc (.cells (knA here (.slice ps ns cs) (.slice pm nm cm) px py pz ph pq (.slice pw nw cw)) 48)).alloc (.cells #[.string t] 9)) (.cells #[.string ⟨#[]⟩, .int .i64 0, .int .i64 0, .int .i64 0, .bool false] 44)
    simpa using h
  have hsW : w.heap.size + 3 ≤ W.heap.size := by rw [hW]; simp
  clear hW
  refine (mIndex_any ms pm nm cm _ t W (HM.out.below hbW) hn (cellsAt hg1 0)).mono ?_
  rintro e w1 ⟨hor, hb1⟩
  have h0 : w1.heap[w.heap.size]? = _ := (hb1.block _ (by omega)).trans hg0
  have h2 : w1.heap[w.heap.size + 2]? = _ := (hb1.block _ (by omega)).trans hg2
  have HB : Hid (Below w.heap.size w w1) := hbW.trans (hb1.mono (by omega))
  have HM1 : Hid (Sl w1 (.slice pm nm cm) ms) := HM.out.below HB.out
  have d2 : w1.cell? ⟨w.heap.size, 2, none⟩ = some (.slice pm nm cm) := cellsAt h0 2
  have r0 : w1.cell? ⟨w.heap.size + 2, 0, none⟩ = some (.string ⟨#[]⟩) := cellsAt h2 0
  have r1 : w1.cell? ⟨w.heap.size + 2, 1, none⟩ = some (.int .i64 0) := cellsAt h2 1
  have r2 : w1.cell? ⟨w.heap.size + 2, 2, none⟩ = some (.int .i64 0) := cellsAt h2 2
  have r3 : w1.cell? ⟨w.heap.size + 2, 3, none⟩ = some (.int .i64 0) := cellsAt h2 3
  have r4 : w1.cell? ⟨w.heap.size + 2, 4, none⟩ = some (.bool false) := cellsAt h2 4
  have z0 : w1.frozen? ⟨w.heap.size + 2, 0, none⟩ = false := by simp [World.frozen?, h2]
  have z1 : w1.frozen? ⟨w.heap.size + 2, 1, none⟩ = false := by simp [World.frozen?, h2]
  have z2 : w1.frozen? ⟨w.heap.size + 2, 2, none⟩ = false := by simp [World.frozen?, h2]
  have z3 : w1.frozen? ⟨w.heap.size + 2, 3, none⟩ = false := by simp [World.frozen?, h2]
  have z4 : w1.frozen? ⟨w.heap.size + 2, 4, none⟩ = false := by simp [World.frozen?, h2]
  have hz2 : w.heap.size + 2 < w1.heap.size := (Array.getElem?_eq_some_iff.1 h2).1
  clear hbW hg0 hg1 hg2 hb1 h0 h2 hsW
  rcases hor with ⟨rfl, HF⟩ | ⟨i, hi, rfl, HF⟩
  · have HO : Hid (mOf ms t = dm) := mOf_none HF.out
    go_wp2_with fail
    refine bodyPost_ret (v := .agg #[.string ⟨#[]⟩, .int .i64 0, .int .i64 0, .int .i64 0, .bool false]) ?_ rfl ⟨by rw [HO.out]; rfl, ?_⟩
    · simp [results, Tryz.results47, go_sem, r0, r1, r2, r3, r4]
    exact ((((HB.out.setCell (p := ⟨w.heap.size + 2, 0, none⟩) (by simp) _).setCell (p := ⟨w.heap.size + 2, 1, none⟩) (by simp) _).setCell (p := ⟨w.heap.size + 2, 2, none⟩) (by simp) _).setCell (p := ⟨w.heap.size + 2, 3, none⟩) (by simp) _).setCell (p := ⟨w.heap.size + 2, 4, none⟩) (by simp) _
  · have HO : Hid (mOf ms t = ms.getD i dm) := mOf_some HF.out
    obtain ⟨pa', ca, he, _, ha⟩ := HM1.out
    simp only [Value.slice.injEq] at he
    obtain ⟨rfl, hN, rfl⟩ := he
    obtain ⟨b, off, hp1, hl1, hr⟩ : ∃ b off, pm = some ⟨b, off, none⟩ ∧ b < w1.heap.size ∧ Row w1 b off ms := by
      rcases ha with h | h
      · rw [h] at hN; simp at hN; omega
      · exact h
    subst hp1
    obtain ⟨c0, c1, c2, c3, c4⟩ := hr i (by omega)
    clear hr hN ha HF
    generalize ms.getD i dm = mk at *
    obtain ⟨mn, st, lf, ad, sv⟩ := mk
    simp only at c0 c1 c2 c3 c4
    go_wp2_with fail
    refine bodyPost_ret (v := .agg #[.string mn, .int .i64 st, .int .i64 lf, .int .i64 ad, .bool sv]) ?_ rfl ⟨by rw [HO.out], ?_⟩
    · simp [results, Tryz.results47, go_sem, r0, r1, r2, r3, r4]
    exact ((((HB.out.setCell (p := ⟨w.heap.size + 2, 0, none⟩) (by simp) _).setCell (p := ⟨w.heap.size + 2, 1, none⟩) (by simp) _).setCell (p := ⟨w.heap.size + 2, 2, none⟩) (by simp) _).setCell (p := ⟨w.heap.size + 2, 3, none⟩) (by simp) _).setCell (p := ⟨w.heap.size + 2, 4, none⟩) (by simp) _

theorem fld_state (a : ByteArray) (b c d : Int) (e : Bool) (w : World) : (Instr.field 44 (.agg #[.string a, .int .i64 b, .int .i64 c, .int .i64 d, .bool e]) 1).run Tryz.prog w = .ok (.int .i64 b) w := by kernel_rfl

set_option maxHeartbeats 3200000 in
set_option maxRecDepth 100000 in
theorem isOut_any (here : ByteArray) (ps pm pw : Option Addr) (ns cs nm cm nw cw : Nat) (px py pz ph pq : Int) (ms : List Mem) (t : ByteArray) (w : World) (hm : Sl w (.slice pm nm cm) ms) (hn : nm ≤ 1000) :
    Calls Tryz.prog 72 #[.agg (knA here (.slice ps ns cs) (.slice pm nm cm) px py pz ph pq (.slice pw nw cw)), .string t] w fun e w' => e = .returned (.bool (outB ms t)) ∧ Below w.heap.size w w' := by
  have HM : Hid (Sl w (.slice pm nm cm) ms) := hm
  clear hm
  have HU : Hid (outB ms t = (decide ((mOf ms t).state = 3) || decide ((mOf ms t).state = 4))) := rfl
  generalize outB ms t = R at *
  go_enter Tryz.func72, Tryz.ntmps72
  go_wp2_with fail
  have hbW : Below w.heap.size w (w.alloc (.cells (knA here (.slice ps ns cs) (.slice pm nm cm) px py pz ph pq (.slice pw nw cw)) 48)) := (Below.refl _ _).alloc (Nat.le_refl _) _
  refine (kmember_any here ps pm pw ns cs nm cm nw cw px py pz ph pq ms t _ (HM.out.below hbW) hn).mono ?_
  rintro e w1 ⟨rfl, hb1⟩
  have HB : Hid (Below w.heap.size w w1) := hbW.trans (hb1.mono (by simp))
  clear hb1 hbW
  generalize mOf ms t = m at *
  obtain ⟨mn, st, lf, ad, sv⟩ := m
  have hfld := fld_state
  by_cases h3 : st = 3
  · have HR : Hid (R = true) := HU.out.trans (by simp [h3])
    subst h3
    go_wp2_with fail
    go_ret
    exact ⟨ret_bool HR.out.symm, HB.out⟩
  · have HR : Hid (R = decide (st = 4)) := HU.out.trans (by simp [h3])
    have h3' : (st == 3) = false := by simpa using h3
    go_wp2_with fail
    go_ret
    exact ⟨ret_bool (by rw [HR.out]; rfl), HB.out⟩

end Go.Proofs.YtignmeaeibaejaaGreat

/- A map from texts to rows of services, which the call itself has made: groups of services, by their nodes. -/
namespace Go.Proofs.YtignmeaeibaejaaGreat
open Go.RowKit Go.WideMaps Go.Maps

def rawE (v : Value) : Option (DataW Value × List MemPlace) := some (.held v, [])
/-- Block b is a map that has the slice M s at s. -/
def MapIs (w : World) (b n : Nat) (M : ByteArray → Value) : Prop := ∃ D : DataW Value, w.ownsMap Tryz.prog 9 rawE b n D ∧ ∀ s, D.atKey (kS s) (.held (.slice none 0 0)) = .held (M s)
def updM (M : ByteArray → Value) (s : ByteArray) (v : Value) : ByteArray → Value := fun x => if x = s then v else M x
theorem updM_same (M : ByteArray → Value) (s : ByteArray) (v : Value) : updM M s v s = v := if_pos rfl
theorem updM_other (M : ByteArray → Value) {s x : ByteArray} (v : Value) (h : x ≠ s) : updM M s v x = M x := if_neg h
theorem law9k : Keyed Tryz.prog 9 := string_keyed Tryz.underlying9
theorem zeroSs (w : World) : (zeroValue 24).run Tryz.prog w = .ok (.slice none 0 0) w := by kernel_rfl
theorem mapIs_made (w : World) : MapIs (w.alloc (.map #[] 0)) w.heap.size 0 (fun _ => .slice none 0 0) := ⟨.map [], World.ownsMap_made w Tryz.prog 9 rawE, fun s => by simp [DataW.atKey]⟩
theorem MapIs.kept {w w' : World} {b n : Nat} {M : ByteArray → Value} {row : Option Nat} (h : MapIs w b n M) (hg : w.grownBy w' row) (hne : some b ≠ row) : MapIs w' b n M := by
  obtain ⟨D, h1, h2⟩ := h
  exact ⟨D, h1.kept hg hne, h2⟩
theorem MapIs.lt {w : World} {b n : Nat} {M : ByteArray → Value} (h : MapIs w b n M) : b < w.heap.size := by
  obtain ⟨D, h1, h2⟩ := h
  exact h1.lt
theorem MapIs.below {w w' : World} {b n : Nat} {M : ByteArray → Value} (h : MapIs w b n M) (hb : Below w.heap.size w w') : MapIs w' b n M := by
  have hl := h.lt
  obtain ⟨D, ⟨es, clock, h1, h3⟩, h2⟩ := h
  exact ⟨D, ⟨es, clock, (hb.block b hl).trans h1, h3⟩, h2⟩
theorem MapIs.look {w : World} {b n : Nat} {M : ByteArray → Value} (h : MapIs w b n M) {s : ByteArray} (hs : s.size ≤ maxLen) : (Instr.lookup 100 (.map (some b)) (.string s) false).run Tryz.prog w = .ok (M s) w := by
  obtain ⟨D, h1, h2⟩ := h
  obtain ⟨v, ps, hrun, hv⟩ := h1.lookup law9k Tryz.underlying100 (zeroSs w) (show rawE (.slice none 0 0) = some (.held (.slice none 0 0), []) from rfl) (keyOf_string_mk Tryz.underlying9 hs)
  have e : v = M s := by
    have h3 : (DataW.held v : DataW Value) = D.atKey (kS s) (.held (.slice none 0 0)) := by
      simp only [rawE, Option.some.injEq, Prod.mk.injEq] at hv
      exact hv.1
    rw [h2 s] at h3
    injection h3
  rw [hrun, e]
theorem MapIs.put {w : World} {b n : Nat} {M : ByteArray → Value} (h : MapIs w b n M) (hn : n < maxLen) {s : ByteArray} (hs : s.size ≤ maxLen) (v : Value) : ∃ w', (Instr.mapUpdate 100 (.map (some b)) (.string s) v).run Tryz.prog w = .ok () w' ∧ MapIs w' b (n + 1) (updM M s v) ∧ w.grownBy w' (some b) := by
  obtain ⟨D, h1, h2⟩ := h
  obtain ⟨w', hrun, ho, hg⟩ := h1.update law9k Tryz.underlying100 hn (keyOf_string_mk Tryz.underlying9 hs) (show rawE v = some (.held v, []) from rfl)
  refine ⟨w', hrun, ⟨_, ho, fun x => ?_⟩, hg⟩
  by_cases e : x = s
  · subst e
    rw [updM_same]
    exact atKey_put_same h1.isMap (kS_key _) _ _
  · rw [updM_other M v e]
    exact (atKey_put_other (kS_ne e) _ _).trans (h2 x)

/-- Groups: the map, the nodes that were met, each group's row, and no two in one row. -/
structure Grp (B : Nat) (w : World) (mb n : Nat) (vn : Value) (M : ByteArray → Value) (ns : List ByteArray) (L : List Sv.Svc) : Prop where
  map : MapIs w mb n M
  nodes : OwnS B w vn ns
  rows : ∀ s, Sv.Own B w (M s) (ofN L s)
  apart : ∀ s t, s ≠ t → (M s).ownBlock = none ∨ (M s).ownBlock ≠ (M t).ownBlock
  off : ∀ s, (M s).ownBlock = none ∨ (M s).ownBlock ≠ vn.ownBlock
  base : mb < B
theorem grp_made (w : World) : Grp (w.heap.size + 1) (w.alloc (.map #[] 0)) w.heap.size 0 (.slice none 0 0) (fun _ => .slice none 0 0) [] [] :=
  ⟨mapIs_made w, World.ownsRow_nil _ _ _ _, fun _ => Sv.own_nil _ _, fun _ _ _ => .inl rfl, fun _ => .inl rfl, Nat.lt_succ_self _⟩
theorem Grp.below {B : Nat} {w w' : World} {mb n : Nat} {vn : Value} {M : ByteArray → Value} {ns : List ByteArray} {L : List Sv.Svc} (h : Grp B w mb n vn M ns L) (hb : Below w.heap.size w w') : Grp B w' mb n vn M ns L :=
  ⟨h.map.below hb, OwnS.below h.nodes hb, fun s => (h.rows s).below hb, h.apart, h.off, h.base⟩
theorem Grp.more {B : Nat} {w : World} {mb n n' : Nat} {vn : Value} {M : ByteArray → Value} {ns : List ByteArray} {L : List Sv.Svc} (h : Grp B w mb n vn M ns L) (hn : n ≤ n') : Grp B w mb n' vn M ns L := by
  obtain ⟨⟨D, h1, h2⟩, h3, h4, h5, h6, h7⟩ := h
  exact ⟨⟨D, h1.mono hn, h2⟩, h3, h4, h5, h6, h7⟩
theorem off_block {B mb : Nat} {w : World} {v : Value} {t : TypeId} {k n : Nat} {xs : List Value} (h : w.ownsRow B t k v n xs) (hb : mb < B) : v.ownBlock = none ∨ v.ownBlock ≠ some mb := by
  cases e : v.ownBlock with
  | none => exact .inl rfl
  | some g => exact .inr (fun e2 => by have := (World.ownsRow.lt h g e).1; cases e2; omega)
/-- One more node. -/
theorem Grp.node {B : Nat} {w w' : World} {mb n : Nat} {vn v' : Value} {M : ByteArray → Value} {ns : List ByteArray} {L : List Sv.Svc} (h : Grp B w mb n vn M ns L) (x : ByteArray)
    (r1 : w'.ownsRow B 9 1 v' (ns.length + 1) (ns.map Value.string ++ [.string x])) (r2 : w.grownBy w' vn.ownBlock) (r4 : v'.ownBlock = vn.ownBlock ∨ ∃ g, v'.ownBlock = some g ∧ w.heap.size ≤ g) : Grp B w' mb n v' M (ns ++ [x]) L := by
  refine ⟨h.map.kept r2 (fun e => ?_), ownS_snoc r1, fun s => (h.rows s).kept r2 (h.off s), h.apart, fun s => ?_, h.base⟩
  · rcases off_block h.nodes h.base with h1 | h1
    · rw [h1] at e; cases e
    · exact h1 e.symm
  · rcases r4 with e | ⟨g, e, hg⟩
    · rw [e]; exact h.off s
    · rw [e]
      cases e2 : (M s).ownBlock with
      | none => exact .inl rfl
      | some k => exact .inr (fun e3 => by have := (World.ownsRow.lt (h.rows s) k e2).2; cases e3; omega)
theorem ofN_snoc_same (L : List Sv.Svc) (x : Sv.Svc) : ofN (L ++ [x]) x.node = ofN L x.node ++ [x] := by simp [ofN, List.filter_append]
theorem ofN_snoc_other (L : List Sv.Svc) (x : Sv.Svc) {s : ByteArray} (h : s ≠ x.node) : ofN (L ++ [x]) s = ofN L s := by
  have h2 : decide (x.node = s) = false := by simpa using Ne.symm h
  simp [ofN, List.filter_append, h2]
/-- One more service, at its node. -/
theorem Grp.put {B : Nat} {w w5 : World} {mb n : Nat} {vn v' : Value} {M : ByteArray → Value} {ns : List ByteArray} {L : List Sv.Svc} (h : Grp B w mb n vn M ns L) (x : Sv.Svc) (hx : x.node.size ≤ maxLen) (hn : n < maxLen)
    (r1 : Sv.Own B w5 v' (ofN L x.node ++ [x])) (r2 : w.grownBy w5 (M x.node).ownBlock) (r4 : v'.ownBlock = (M x.node).ownBlock ∨ ∃ g, v'.ownBlock = some g ∧ w.heap.size ≤ g) :
    ∃ w6, (Instr.mapUpdate 100 (.map (some mb)) (.string x.node) v').run Tryz.prog w5 = .ok () w6 ∧ Grp B w6 mb (n + 1) vn (updM M x.node v') ns (L ++ [x]) ∧ w5.grownBy w6 (some mb) := by
  have hm5 : MapIs w5 mb n M := h.map.kept r2 (fun e => by
    rcases off_block (h.rows x.node) h.base with h1 | h1
    · rw [h1] at e; cases e
    · exact h1 e.symm)
  obtain ⟨w6, hrun, hm6, hg6⟩ := hm5.put hn hx v'
  have hnew : ∀ (u : Value) (t : TypeId) (k m : Nat) (xs : List Value), w.ownsRow B t k u m xs → (u.ownBlock = none ∨ u.ownBlock ≠ (M x.node).ownBlock) → (u.ownBlock = none ∨ u.ownBlock ≠ v'.ownBlock) := fun u t k m xs ho hne => by
    rcases r4 with e | ⟨g, e, hg⟩
    · rw [e]; exact hne
    · rw [e]
      cases e2 : u.ownBlock with
      | none => exact .inl rfl
      | some j => exact .inr (fun e3 => by have := (World.ownsRow.lt ho j e2).2; cases e3; omega)
  have hvn : vn.ownBlock = none ∨ vn.ownBlock ≠ (M x.node).ownBlock := by
    cases e : vn.ownBlock with
    | none => exact .inl rfl
    | some j =>
      refine .inr (fun e2 => ?_)
      rcases h.off x.node with h1 | h1
      · rw [h1] at e2; cases e2
      · exact h1 (e2.symm.trans e.symm)
  refine ⟨w6, hrun, ⟨hm6, ?_, fun s => ?_, fun s t hst => ?_, fun s => ?_, h.base⟩, hg6⟩
  · exact (World.ownsRow.kept h.nodes r2 hvn).kept hg6 (off_block (World.ownsRow.kept h.nodes r2 hvn) h.base)
  · by_cases e : s = x.node
    · subst e
      rw [updM_same, ofN_snoc_same]
      exact World.ownsRow.kept r1 hg6 (off_block r1 h.base)
    · rw [updM_other M v' e, ofN_snoc_other L x e]
      have h5 : w5.ownsRow B 39 9 (M s) (ofN L s).length (Sv.fl (ofN L s)) := World.ownsRow.kept (h.rows s) r2 (h.apart s x.node e)
      exact World.ownsRow.kept h5 hg6 (off_block h5 h.base)
  · by_cases e : s = x.node
    · subst e
      rw [updM_same, updM_other M v' (Ne.symm hst)]
      cases e2 : v'.ownBlock with
      | none => exact .inl rfl
      | some j =>
        refine .inr (fun e3 => ?_)
        rcases hnew (M t) _ _ _ _ (h.rows t) (h.apart t x.node (Ne.symm hst)) with h1 | h1
        · rw [h1] at e3; cases e3
        · exact h1 (e3.symm.trans e2.symm)
    · by_cases e2 : t = x.node
      · subst e2
        rw [updM_same, updM_other M v' e]
        exact hnew (M s) _ _ _ _ (h.rows s) (h.apart s x.node e)
      · rw [updM_other M v' e, updM_other M v' e2]
        exact h.apart s t hst
  · by_cases e : s = x.node
    · subst e
      rw [updM_same]
      cases e2 : v'.ownBlock with
      | none => exact .inl rfl
      | some j =>
        refine .inr (fun e3 => ?_)
        rcases hnew vn _ _ _ _ h.nodes hvn with h1 | h1
        · rw [h1] at e3; cases e3
        · exact h1 (e3.symm.trans e2.symm)
    · rw [updM_other M v' e]
      exact h.off s

end Go.Proofs.YtignmeaeibaejaaGreat

