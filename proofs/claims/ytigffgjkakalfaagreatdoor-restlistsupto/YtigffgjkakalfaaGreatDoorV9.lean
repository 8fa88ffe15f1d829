/- MP, MQ, MR, MX, MY -/
import Derived.Test.YtigffgjkakalfaaGreatDoorV8
/- The document's own Hear: what it puts. -/
namespace Go.Proofs.YtigffgjkakalfaaGreatDoor
open Go.RowKit

theorem atI_at {ms : List Mem} {t : ByteArray} {r : Int} {p : Nat} {f : Bool} (hi : AtI ms t r) (ha : At ms t p f) (hr : Rise ms) : (f = true → r = p) ∧ (f = false → r = -1) := by
  rcases hi with ⟨k, hk, rfl, hn⟩ | ⟨rfl, hn⟩
  · have hc : cmpI (ms.getD k dm).name t = 0 := (cmpI_eq _ _).2 hn
    have hat : At ms t k true := ⟨by omega, fun j hj => ?_, fun j hj hl => ?_, ⟨fun _ => ⟨hk, hc⟩, fun _ => rfl⟩⟩
    · obtain ⟨rfl, rfl⟩ := at_uniq ha hat
      exact ⟨fun _ => rfl, fun h => by cases h⟩
    · have hp := List.pairwise_iff_getElem.1 hr j k (by omega) hk hj
      have e1 : ms.getD j dm = ms[j] := by simp [List.getD, List.getElem?_eq_getElem (show j < ms.length by omega)]
      have e2 : ms.getD k dm = ms[k] := by simp [List.getD, List.getElem?_eq_getElem hk]
      rw [cmpI_lt, e1, ← hn, e2]; exact hp
    · rcases Nat.lt_or_eq_of_le hj with h | rfl
      · have hp := List.pairwise_iff_getElem.1 hr k j hk hl h
        have e1 : ms.getD j dm = ms[j] := by simp [List.getD, List.getElem?_eq_getElem hl]
        have e2 : ms.getD k dm = ms[k] := by simp [List.getD, List.getElem?_eq_getElem hk]
        have : 0 < cmpI (ms.getD j dm).name t := by rw [cmpI_gt, e1, ← hn, e2]; exact hp
        omega
      · omega
  · refine ⟨fun h => ?_, fun _ => rfl⟩
    have := ha.is.1 h
    exact absurd ((cmpI_eq _ _).1 this.2) (hn p this.1)

theorem at_hi_ne {ms : List Mem} {t : ByteArray} {p : Nat} {f : Bool} (ha : At ms t p f) (hr : Rise ms) (k : Nat) (hk : p < k) (hl : k < ms.length) : (ms.getD k dm).name ≠ t := by
  intro e
  have hp := List.pairwise_iff_getElem.1 hr p k (by omega) hl hk
  have e1 : ms.getD p dm = ms[p] := by simp [List.getD, List.getElem?_eq_getElem (show p < ms.length by omega)]
  have e2 : ms.getD k dm = ms[k] := by simp [List.getD, List.getElem?_eq_getElem hl]
  have h := ha.hi p (Nat.le_refl _) (by omega)
  have : cmpI (ms.getD p dm).name t < 0 := by rw [cmpI_lt, e1, ← e, e2]; exact hp
  omega

theorem hearL_old {ms : List Mem} {m : Mem} {p : Nat} (h : At ms m.name p true) (hn : newM m (ms.getD p dm) = false) : hearL ms m = ms := by
  rw [hearL_at ms m p true h, if_pos rfl, if_neg (by rw [hn]; exact Bool.false_ne_true)]
theorem hearL_ne {ms : List Mem} {m : Mem} {p : Nat} {f : Bool} (h : At ms m.name p f) (hn : f = true → newM m (ms.getD p dm) = true) : hearL ms m ≠ ms := by
  rw [hearL_at ms m p f h]
  cases f
  · intro e
    have := congrArg List.length e
    simp at this
    have := h.le
    omega
  · rw [if_pos rfl, if_pos (hn rfl)]
    intro e
    have hp := (h.is.1 rfl).1
    have h2 : (ms.set p m).getD p dm = m := by simp [List.getD, hp]
    rw [e] at h2
    have h3 := hn rfl
    rw [h2, newM_irrefl] at h3
    cases h3
theorem hearL_out {ms : List Mem} {m : Mem} {p : Nat} {f : Bool} (h : At ms m.name p f) (hn : f = true → newM m (ms.getD p dm) = true) : hearL ms m = ms.take p ++ m :: ms.drop (if f = true then p + 1 else p) := by
  rw [hearL_at ms m p f h]
  cases f
  · simp
  · rw [if_pos rfl, if_pos (hn rfl), if_pos rfl]
    rw [List.set_eq_take_append_cons_drop, if_pos (h.is.1 rfl).1]

set_option maxHeartbeats 1000000 in
set_option maxRecDepth 100000 in
theorem hearMember_old (ms : List Mem) (v : Value) (nm : ByteArray) (st lf ad : Int) (sv : Bool) (w : World) (hv : Sl w v ms) (hn : ms.length ≤ 1000) (hr : Rise ms) (p : Nat) (hat : At ms nm p true) (hnew : newM ⟨nm, st, lf, ad, sv⟩ (ms.getD p dm) = false) :
    Calls Tryz.prog 16 #[v, .agg #[.string nm, .int .i64 st, .int .i64 lf, .int .i64 ad, .bool sv]] w fun e w' => e = .returned (.tuple #[v, .bool false]) ∧ Below w.heap.size w w' := by
  have hb0 : Below w.heap.size w (w.alloc (.cells #[.string nm, .int .i64 st, .int .i64 lf, .int .i64 ad, .bool sv] 24)) := (Below.refl _ _).alloc (Nat.le_refl _) _
  have HV : Hid (Sl (w.alloc (.cells #[.string nm, .int .i64 st, .int .i64 lf, .int .i64 ad, .bool sv] 24)) v ms) := hv.below hb0
  have hp := (hat.is.1 rfl).1
  have HR : Hid (Rise ms) := hr
  have HAT : Hid (At ms nm p true) := hat
  obtain ⟨pa, ca, rfl, _, ha⟩ := hv
  obtain ⟨b1, o1, hp1, hl1, hr1⟩ : ∃ b off, pa = some ⟨b, off, none⟩ ∧ b < w.heap.size ∧ Row w b off ms := by
    rcases ha with h | h
    · rw [h] at hp; simp at hp
    · exact h
  subst hp1
  obtain ⟨c0, c1, c2, c3, c4⟩ := hr1 p hp
  clear hr1 ha hat hr
  generalize ms.getD p dm = mk at *
  obtain ⟨nk, sk, lk, ak, vk⟩ := mk
  simp only at c0 c1 c2 c3 c4
  have hq : newB st lf ad sv sk lk ak vk = false := hnew
  clear hnew
  go_enter Tryz.func16, Tryz.ntmps16
  go_wp2_with fail
  refine (memberAt_any ms _ _ _ HV.out hn).mono ?_
  rintro e w1 ⟨r, rfl, hI, rfl⟩
  have hrp : r = (p : Int) := (atI_at hI.out HAT.out HR.out).1 rfl
  subst hrp
  go_wp2_with fail
  go_region_with (go_at_call 41; refine (newerMember_any _ _ _ _ _ _ _ _ _ _ _).mono ?_; rintro e w' ⟨rfl, rfl⟩; rw [hq])
  all_goals
    go_wp2_with fail
    go_ret2
    exact ⟨rfl, (((hb0.alloc (by simp) _).alloc (by simp; omega) _).drew)⟩


set_option maxHeartbeats 1600000 in
set_option maxRecDepth 100000 in
theorem hearMember_none (ms : List Mem) (v : Value) (nm : ByteArray) (st lf ad : Int) (sv : Bool) (w : World) (hv : Sl w v ms) (hn : ms.length ≤ 1000) (hr : Rise ms) (p : Nat) (hat : At ms nm p false) :
    Calls Tryz.prog 16 #[v, .agg #[.string nm, .int .i64 st, .int .i64 lf, .int .i64 ad, .bool sv]] w fun e w' => ∃ v', e = .returned (.tuple #[v', .bool true]) ∧ Own (w.heap.size + 1) w' v' (ms.take p ++ ⟨nm, st, lf, ad, sv⟩ :: ms.drop p) ∧ Below w.heap.size w w' := by
  obtain ⟨i0, hi0, hz0, hzs, hzb⟩ := info_parts Tryz.info24
  have hb0 : Below w.heap.size w (w.alloc (.cells #[.string nm, .int .i64 st, .int .i64 lf, .int .i64 ad, .bool sv] 24)) := (Below.refl _ _).alloc (Nat.le_refl _) _
  have HV : Hid (Sl (w.alloc (.cells #[.string nm, .int .i64 st, .int .i64 lf, .int .i64 ad, .bool sv] 24)) v ms) := hv.below hb0
  have HR : Hid (Rise ms) := hr
  have HAT : Hid (At ms nm p false) := hat
  obtain ⟨pa, ca, rfl, _, ha⟩ := hv
  have HA : Hid (ms = [] ∨ ∃ b off, pa = some ⟨b, off, none⟩ ∧ b < w.heap.size ∧ Row w b off ms) := ha
  have hpn := hat.le
  clear ha hat hr
  generalize hna : ms.length = n at *
  have HN : Hid (ms.length = n) := hna
  clear hna
  go_enter Tryz.func16, Tryz.ntmps16
  go_wp2_with fail
  refine (memberAt_any ms _ _ _ HV.out (by have := HN.out; omega)).mono ?_
  rintro e w1 ⟨r, rfl, hI, rfl⟩
  have hrp : r = (-1 : Int) := (atI_at hI.out HAT.out HR.out).2 rfl
  subst hrp
  go_wp2_with fail
  go_quiet (fail)
  go_wp2_with fail
  have hm1000 : n ≤ 1000 := hn
  obtain ⟨W1, hW1⟩ : ∃ W1, W1 = w.alloc (.cells #[.string nm, .int .i64 st, .int .i64 lf, .int .i64 ad, .bool sv] 24) := ⟨_, rfl⟩
  have hs1 : W1.heap.size = w.heap.size + 1 := by rw [hW1]; simp
  have hB1 : Below (w.heap.size + 1) W1 ((w.alloc (.cells #[.string nm, .int .i64 st, .int .i64 lf, .int .i64 ad, .bool sv] 24)).drewN nq) := by rw [hW1]; exact below_drewN (Below.refl _ _) _
  have hg1 : W1.heap[w.heap.size]? = some (.cells #[.string nm, .int .i64 st, .int .i64 lf, .int .i64 ad, .bool sv] 24 (0, 0)) := by rw [hW1]; exact heap_alloc_new w _
  have d0 : W1.cell? ⟨w.heap.size, 0, none⟩ = some (.string nm) := cellsAt hg1 0
  have d1 : W1.cell? ⟨w.heap.size, 1, none⟩ = some (.int .i64 st) := cellsAt hg1 1
  have d2 : W1.cell? ⟨w.heap.size, 2, none⟩ = some (.int .i64 lf) := cellsAt hg1 2
  have d3 : W1.cell? ⟨w.heap.size, 3, none⟩ = some (.int .i64 ad) := cellsAt hg1 3
  have d4 : W1.cell? ⟨w.heap.size, 4, none⟩ = some (.bool sv) := cellsAt hg1 4
  have hb01 : Hid (Below w.heap.size w W1) := by rw [hW1]; exact hb0
  have HA : Hid (ms = [] ∨ ∃ b off, pa = some ⟨b, off, none⟩ ∧ b < w.heap.size + 1 ∧ Row W1 b off ms) := by
    rcases HA.out with h | ⟨b, off, h1, h2, h3⟩
    · exact .inl h
    · exact .inr ⟨b, off, h1, by omega, h3.later hb01.out h2⟩
  clear hW1 hg1 hb0 HV hI
  go_loopw [7, 8, 9] (fun kn b i w' => ∃ (k : Nat) (bb : Bool), k ≤ n ∧ i = .int .i64 k ∧ b = .bool bb ∧ Hid (bb = true ↔ p < k) ∧ Below (w.heap.size + 1) W1 w' ∧ Hid (Own (w.heap.size + 1) w' kn (outL ms (Mem.mk nm st lf ad sv) p (p) k))) (fun _ _ i _ => n - (intOf i).toNat)
  case atStart => exact ⟨0, false, Nat.zero_le _, rfl, rfl, ⟨fun h => (by cases h), fun h => (by omega)⟩, hB1, own_nil _ _⟩
  case round =>
    obtain ⟨k, bb, hk, rfl, rfl, hbb, hbl, HO⟩ := hrel
    have hbc : ∀ b o, b < w.heap.size + 1 → wr.cell? ⟨b, o, none⟩ = W1.cell? ⟨b, o, none⟩ := fun b o h => hbl.cell (p := ⟨b, o, none⟩) h
    have hsz := hbl.size
    have hlen := @outL_len ms (Mem.mk nm st lf ad sv) p (p) k
    have hlen2 : (outL ms (Mem.mk nm st lf ad sv) p (p) k).length ≤ 2001 := by have := HN.out; omega
    clear hlen
    by_cases hlt : k < n
    · obtain ⟨b1, o1, hp1, hl1, hr1⟩ : ∃ b off, pa = some ⟨b, off, none⟩ ∧ b < w.heap.size + 1 ∧ Row W1 b off ms := by
        rcases HA.out with h | h
        · have := HN.out; rw [h] at this; simp at this; omega
        · exact h
      subst hp1
      obtain ⟨c0, c1, c2, c3, c4⟩ := hr1 k (by rw [HN.out]; exact hlt)
      clear hr1
      have HLO : Hid (k < p → outL ms (Mem.mk nm st lf ad sv) p (p) (k + 1) = outL ms (Mem.mk nm st lf ad sv) p (p) k ++ [ms.getD k dm] ∧ less (ms.getD k dm).name nm = true) := fun h => ⟨outL_lo h (by rw [HN.out]; exact hlt), (cmpI_lt _ _).1 (HAT.out.lo k h)⟩
      have HHI : Hid (p < k → outL ms (Mem.mk nm st lf ad sv) p (p) (k + 1) = outL ms (Mem.mk nm st lf ad sv) p (p) k ++ [ms.getD k dm] ∧ (ms.getD k dm).name ≠ nm) := fun h => ⟨outL_hi h (by omega) (by rw [HN.out]; exact hlt), at_hi_ne HAT.out HR.out k h (by rw [HN.out]; exact hlt)⟩
      have HEQ : Hid (k = p → outL ms (Mem.mk nm st lf ad sv) p (p) (k + 1) = (outL ms (Mem.mk nm st lf ad sv) p (p) k ++ [(Mem.mk nm st lf ad sv)]) ++ [ms.getD k dm] ∧ less nm (ms.getD k dm).name = true) := fun h => by
        subst h
        refine ⟨outL_ne (by rw [HN.out]; exact hlt), (cmpI_gt _ _).1 ?_⟩
        have h1 := HAT.out.hi k (Nat.le_refl _) (by rw [HN.out]; exact hlt)
        have h2 : ¬ cmpI (ms.getD k dm).name nm = 0 := fun e => by have := HAT.out.is.2 ⟨by rw [HN.out]; exact hlt, e⟩; cases this
        omega
      generalize ms.getD k dm = mk at *
      obtain ⟨nk, sk, lk, ak, vk⟩ := mk
      simp only at c0 c1 c2 c3 c4
      rcases Nat.lt_trichotomy k p with hkp | hkp | hkp
      · have hbf : bb = false := by
          cases bb
          · rfl
          · have := hbb.out.1 rfl; omega
        subst hbf
        obtain ⟨hO, hls⟩ := HLO.out hkp
        have HOL : Hid (outL ms (Mem.mk nm st lf ad sv) p (p) (k + 1) = outL ms (Mem.mk nm st lf ad sv) p (p) k ++ [⟨nk, sk, lk, ak, vk⟩]) := hO
        have hl1' : Op.bytesLess nk.toList nm.toList = true := hls
        obtain ⟨hne1, hne2⟩ := beq_name (a := nk) (b := nm) (fun e => by rw [e] at hls; have := less_irrefl nm; rw [hls] at this; cases this)
        clear hO hls HLO HHI HEQ hbb
        generalize outL ms (Mem.mk nm st lf ad sv) p (p) k = L at *
        go_wp2_with fail
        go_quiet (fail)
        go_wp2_with fail
        go_quiet (fail)
        go_wp2_with (at_builtin; refine wpList_append_own _ rfl _ _ 22 rfl (w.heap.size + 1) 24 i0 _ 5 48 Tryz.underlying22 hi0 hz0 hzs hzb rfl (by omega) _ (L).length (fl (L)) rfl ?hown ⟨wr.heap.size, 0, none⟩ 1 1 (Mem.mk nk sk lk ak vk).cs rfl rfl ?hnews (cs_one _) ?h63 ?hbytes ?hbase ?_)
        case hown => (refine HO.out.below ?_; repeat (first | exact Below.refl _ _ | refine below_drewN ?_ _ | refine Below.alloc ?_ (by simp) _ | refine Below.drew ?_))
        case hnews => (intro j u hj; rw [Addr.add_lit]; exact (cellsAt (heap_alloc_new wr (.cells #[.string nk, .int .i64 sk, .int .i64 lk, .int .i64 ak, .bool vk] 24)) (0 + j)).trans (by simpa [Mem.cs] using hj))
        case h63 => (unfold maxLen; omega)
        case hbytes => omega
        case hbase => (simp; omega)
        intro v' w2 r1 r2 r3
        have HBX : Hid (Below (w.heap.size + 1) W1 w2) := by
          have h0 : Below (w.heap.size + 1) W1 (wr.alloc (.cells #[.string nk, .int .i64 sk, .int .i64 lk, .int .i64 ak, .bool vk] 24)) := hbl.alloc (by omega) _
          have h1 := h0.trans (below_drewN (Below.refl _ _) 0)
          exact h0.trans ((Below.refl _ _).grown (w := wr.alloc (.cells #[.string nk, .int .i64 sk, .int .i64 lk, .int .i64 ak, .bool vk] 24)) ⟨r2.os, r2.tape, r2.output, r2.size, r2.block⟩ (by simp; omega) (fun j hj => (HO.out.lt j hj).1))
        have HOX : Hid (Own (w.heap.size + 1) w2 v' (L ++ [⟨nk, sk, lk, ak, vk⟩])) := own_snoc r1
        go_wp2_with fail
        exact ⟨⟨k + 1, false, by omega, by go_num, rfl, ⟨fun h => (by cases h), fun h => (by omega)⟩, HBX.out, (by rw [HOL.out]; exact HOX.out)⟩, by simp [intOf]; omega⟩
      · subst hkp
        have hbf : bb = false := by
          cases bb
          · rfl
          · have := hbb.out.1 rfl; omega
        subst hbf
        obtain ⟨hO, hls⟩ := HEQ.out rfl
        have HOL : Hid (outL ms (Mem.mk nm st lf ad sv) k k (k + 1) = (outL ms (Mem.mk nm st lf ad sv) k k k ++ [(Mem.mk nm st lf ad sv)]) ++ [⟨nk, sk, lk, ak, vk⟩]) := hO
        have hl1' : Op.bytesLess nk.toList nm.toList = false := less_asymm hls
        obtain ⟨hne1, hne2⟩ := beq_name (a := nk) (b := nm) (fun e => by rw [e] at hls; have := less_irrefl nm; rw [hls] at this; cases this)
        clear hO hls HLO HHI HEQ hbb
        generalize outL ms (Mem.mk nm st lf ad sv) k k k = L at *
        go_wp2_with fail
        go_quiet (fail)
        go_wp2_with (at_builtin; refine wpList_append_own _ rfl _ _ 22 rfl (w.heap.size + 1) 24 i0 _ 5 48 Tryz.underlying22 hi0 hz0 hzs hzb rfl (by omega) _ (L).length (fl (L)) rfl ?hown ⟨wr.heap.size, 0, none⟩ 1 1 (Mem.mk nm st lf ad sv).cs rfl rfl ?hnews (cs_one _) ?h63 ?hbytes ?hbase ?_)
        case hown => (refine HO.out.below ?_; repeat (first | exact Below.refl _ _ | refine below_drewN ?_ _ | refine Below.alloc ?_ (by simp) _ | refine Below.drew ?_))
        case hnews => (intro j u hj; rw [Addr.add_lit]; exact (cellsAt (heap_alloc_new wr (.cells #[.string nm, .int .i64 st, .int .i64 lf, .int .i64 ad, .bool sv] 24)) (0 + j)).trans (by simpa [Mem.cs] using hj))
        case h63 => (unfold maxLen; omega)
        case hbytes => omega
        case hbase => (simp; omega)
        intro v' w2 r1 r2 r3
        have HBX : Hid (Below (w.heap.size + 1) W1 w2) := by
          have h0 : Below (w.heap.size + 1) W1 (wr.alloc (.cells #[.string nm, .int .i64 st, .int .i64 lf, .int .i64 ad, .bool sv] 24)) := hbl.alloc (by omega) _
          have h1 := h0.trans (below_drewN (Below.refl _ _) 0)
          exact h0.trans ((Below.refl _ _).grown (w := wr.alloc (.cells #[.string nm, .int .i64 st, .int .i64 lf, .int .i64 ad, .bool sv] 24)) ⟨r2.os, r2.tape, r2.output, r2.size, r2.block⟩ (by simp; omega) (fun j hj => (HO.out.lt j hj).1))
        have HOX : Hid (Own (w.heap.size + 1) w2 v' (L ++ [(Mem.mk nm st lf ad sv)])) := own_snoc r1
        have hlen3 : (L ++ [(Mem.mk nm st lf ad sv)]).length ≤ 2002 := by simp; omega
        clear r1 r2 r3 hbl hbc hsz HO hlen2
        have hbl := HBX.out
        have hbc : ∀ b o, b < w.heap.size + 1 → w2.cell? ⟨b, o, none⟩ = W1.cell? ⟨b, o, none⟩ := fun b o h => hbl.cell (p := ⟨b, o, none⟩) h
        have hsz := hbl.size
        go_wp2_with fail
        go_quiet (fail)
        go_wp2_with (at_builtin; refine wpList_append_own _ rfl _ _ 22 rfl (w.heap.size + 1) 24 i0 _ 5 48 Tryz.underlying22 hi0 hz0 hzs hzb rfl (by omega) _ (L ++ [(Mem.mk nm st lf ad sv)]).length (fl (L ++ [(Mem.mk nm st lf ad sv)])) rfl ?hown ⟨w2.heap.size, 0, none⟩ 1 1 (Mem.mk nk sk lk ak vk).cs rfl rfl ?hnews (cs_one _) ?h63 ?hbytes ?hbase ?_)
        case hown => (refine HOX.out.below ?_; repeat (first | exact Below.refl _ _ | refine below_drewN ?_ _ | refine Below.alloc ?_ (by simp) _ | refine Below.drew ?_))
        case hnews => (intro j u hj; rw [Addr.add_lit]; exact (cellsAt (heap_alloc_new w2 (.cells #[.string nk, .int .i64 sk, .int .i64 lk, .int .i64 ak, .bool vk] 24)) (0 + j)).trans (by simpa [Mem.cs] using hj))
        case h63 => (unfold maxLen; omega)
        case hbytes => omega
        case hbase => (simp; omega)
        intro v'' w3 r1 r2 r3
        have HOY : Hid (Own (w.heap.size + 1) w3 v'' ((L ++ [(Mem.mk nm st lf ad sv)]) ++ [⟨nk, sk, lk, ak, vk⟩])) := own_snoc (by rw [List.length_append]; exact r1)
        have HBX : Hid (Below (w.heap.size + 1) W1 w3) := by
          have h0 : Below (w.heap.size + 1) W1 (w2.alloc (.cells #[.string nk, .int .i64 sk, .int .i64 lk, .int .i64 ak, .bool vk] 24)) := hbl.alloc (by omega) _
          exact h0.trans ((Below.refl _ _).grown (w := w2.alloc (.cells #[.string nk, .int .i64 sk, .int .i64 lk, .int .i64 ak, .bool vk] 24)) ⟨r2.os, r2.tape, r2.output, r2.size, r2.block⟩ (by simp; omega) (fun j hj => (HOX.out.lt j hj).1))
        go_wp2_with fail
        exact ⟨⟨k + 1, true, by omega, by go_num, rfl, ⟨fun _ => (by omega), fun _ => rfl⟩, HBX.out, (by rw [HOL.out]; exact HOY.out)⟩, by simp [intOf]; omega⟩
      · have hbf : bb = true := hbb.out.2 hkp
        subst hbf
        obtain ⟨hO, hnn⟩ := HHI.out hkp
        have HOL : Hid (outL ms (Mem.mk nm st lf ad sv) p (p) (k + 1) = outL ms (Mem.mk nm st lf ad sv) p (p) k ++ [⟨nk, sk, lk, ak, vk⟩]) := hO
        obtain ⟨hne1, hne2⟩ := beq_name (a := nk) (b := nm) hnn
        clear hO hnn HLO HHI HEQ hbb
        generalize outL ms (Mem.mk nm st lf ad sv) p (p) k = L at *
        go_wp2_with fail
        go_quiet (fail)
        go_wp2_with fail
        go_quiet (fail)
        go_wp2_with (at_builtin; refine wpList_append_own _ rfl _ _ 22 rfl (w.heap.size + 1) 24 i0 _ 5 48 Tryz.underlying22 hi0 hz0 hzs hzb rfl (by omega) _ (L).length (fl (L)) rfl ?hown ⟨wr.heap.size, 0, none⟩ 1 1 (Mem.mk nk sk lk ak vk).cs rfl rfl ?hnews (cs_one _) ?h63 ?hbytes ?hbase ?_)
        case hown => (refine HO.out.below ?_; repeat (first | exact Below.refl _ _ | refine below_drewN ?_ _ | refine Below.alloc ?_ (by simp) _ | refine Below.drew ?_))
        case hnews => (intro j u hj; rw [Addr.add_lit]; exact (cellsAt (heap_alloc_new wr (.cells #[.string nk, .int .i64 sk, .int .i64 lk, .int .i64 ak, .bool vk] 24)) (0 + j)).trans (by simpa [Mem.cs] using hj))
        case h63 => (unfold maxLen; omega)
        case hbytes => omega
        case hbase => (simp; omega)
        intro v' w2 r1 r2 r3
        have HBX : Hid (Below (w.heap.size + 1) W1 w2) := by
          have h0 : Below (w.heap.size + 1) W1 (wr.alloc (.cells #[.string nk, .int .i64 sk, .int .i64 lk, .int .i64 ak, .bool vk] 24)) := hbl.alloc (by omega) _
          have h1 := h0.trans (below_drewN (Below.refl _ _) 0)
          exact h0.trans ((Below.refl _ _).grown (w := wr.alloc (.cells #[.string nk, .int .i64 sk, .int .i64 lk, .int .i64 ak, .bool vk] 24)) ⟨r2.os, r2.tape, r2.output, r2.size, r2.block⟩ (by simp; omega) (fun j hj => (HO.out.lt j hj).1))
        have HOX : Hid (Own (w.heap.size + 1) w2 v' (L ++ [⟨nk, sk, lk, ak, vk⟩])) := own_snoc r1
        go_wp2_with fail
        exact ⟨⟨k + 1, true, by omega, by go_num, rfl, ⟨fun _ => (by omega), fun _ => rfl⟩, HBX.out, (by rw [HOL.out]; exact HOX.out)⟩, by simp [intOf]; omega⟩
    · have hkn : k = n := by omega
      subst hkn
      by_cases hpk : p < k
      · have hbf : bb = true := hbb.out.2 hpk
        subst hbf
        have HFO : Hid (Own (w.heap.size + 1) wr u7 (ms.take p ++ (Mem.mk nm st lf ad sv) :: ms.drop (p))) := by
          have h := HO.out
          have hk' := HN.out
          rw [← hk', outL_end (by omega)] at h
          exact h
        have HBX : Hid (Below w.heap.size w wr) := hb01.out.trans (hbl.mono (by omega))
        clear HO hlen2
        go_wp2_with fail
        go_ret2
        exact ⟨u7, rfl, HFO.out, HBX.out⟩
      · have hbf : bb = false := by
          cases bb
          · rfl
          · have := hbb.out.1 rfl; omega
        subst hbf
        have hpe : p = k := by omega
        subst hpe
        have HOZ : Hid (Own (w.heap.size + 1) wr u7 ms) := by
          have h := HO.out
          rw [outL, if_pos (Nat.le_refl _), List.take_of_length_le (by rw [HN.out]; exact Nat.le_refl _)] at h
          exact h
        have hle : ms.length ≤ 1000 := by rw [HN.out]; exact hm1000
        have hfin : Hid (ms.take p ++ (Mem.mk nm st lf ad sv) :: ms.drop p = ms ++ [(Mem.mk nm st lf ad sv)]) := by
          have h : ms.length ≤ p := by rw [HN.out]; exact Nat.le_refl _
          show ms.take p ++ (Mem.mk nm st lf ad sv) :: ms.drop p = ms ++ [(Mem.mk nm st lf ad sv)]
          rw [List.take_of_length_le h, List.drop_of_length_le h]
        clear HO hlen2
        go_wp2_with (at_builtin; refine wpList_append_own _ rfl _ _ 22 rfl (w.heap.size + 1) 24 i0 _ 5 48 Tryz.underlying22 hi0 hz0 hzs hzb rfl (by omega) _ (ms).length (fl (ms)) rfl ?hown ⟨wr.heap.size, 0, none⟩ 1 1 (Mem.mk nm st lf ad sv).cs rfl rfl ?hnews (cs_one _) ?h63 ?hbytes ?hbase ?_)
        case hown => (refine HOZ.out.below ?_; repeat (first | exact Below.refl _ _ | refine below_drewN ?_ _ | refine Below.alloc ?_ (by simp) _ | refine Below.drew ?_))
        case hnews => (intro j u hj; rw [Addr.add_lit]; exact (cellsAt (heap_alloc_new wr (.cells #[.string nm, .int .i64 st, .int .i64 lf, .int .i64 ad, .bool sv] 24)) (0 + j)).trans (by simpa [Mem.cs] using hj))
        case h63 => (unfold maxLen; omega)
        case hbytes => omega
        case hbase => (simp; omega)
        intro v' w2 r1 r2 r3
        have HFO : Hid (Own (w.heap.size + 1) w2 v' (ms ++ [(Mem.mk nm st lf ad sv)])) := own_snoc r1
        have HBX : Hid (Below w.heap.size w w2) := by
          have h0 : Below (w.heap.size + 1) W1 (wr.alloc (.cells #[.string nm, .int .i64 st, .int .i64 lf, .int .i64 ad, .bool sv] 24)) := hbl.alloc (by omega) _
          have h1 := h0.trans ((Below.refl _ _).grown (w := wr.alloc (.cells #[.string nm, .int .i64 st, .int .i64 lf, .int .i64 ad, .bool sv] 24)) ⟨r2.os, r2.tape, r2.output, r2.size, r2.block⟩ (by simp; omega) (fun j hj => (HOZ.out.lt j hj).1))
          exact hb01.out.trans (h1.mono (by omega))
        go_wp2_with fail
        go_ret2
        exact ⟨v', rfl, by rw [hfin.out]; exact HFO.out, HBX.out⟩

end Go.Proofs.YtigffgjkakalfaaGreatDoor

/- The document's own Hear: a newer rumor of one that is known. -/
namespace Go.Proofs.YtigffgjkakalfaaGreatDoor
open Go.RowKit

set_option maxHeartbeats 4000000 in
set_option maxRecDepth 100000 in
theorem hearMember_newer (ms : List Mem) (v : Value) (nm : ByteArray) (st lf ad : Int) (sv : Bool) (w : World) (hv : Sl w v ms) (hn : ms.length ≤ 1000) (hr : Rise ms) (p : Nat) (hat : At ms nm p true) (hnew : newM ⟨nm, st, lf, ad, sv⟩ (ms.getD p dm) = true) :
    Calls Tryz.prog 16 #[v, .agg #[.string nm, .int .i64 st, .int .i64 lf, .int .i64 ad, .bool sv]] w fun e w' => ∃ v', e = .returned (.tuple #[v', .bool true]) ∧ Own (w.heap.size + 1) w' v' (ms.take p ++ ⟨nm, st, lf, ad, sv⟩ :: ms.drop (p + 1)) ∧ Below w.heap.size w w' := by
  obtain ⟨i0, hi0, hz0, hzs, hzb⟩ := info_parts Tryz.info24
  have hb0 : Below w.heap.size w (w.alloc (.cells #[.string nm, .int .i64 st, .int .i64 lf, .int .i64 ad, .bool sv] 24)) := (Below.refl _ _).alloc (Nat.le_refl _) _
  have HV : Hid (Sl (w.alloc (.cells #[.string nm, .int .i64 st, .int .i64 lf, .int .i64 ad, .bool sv] 24)) v ms) := hv.below hb0
  have HR : Hid (Rise ms) := hr
  have HAT : Hid (At ms nm p true) := hat
  have hp := (hat.is.1 rfl).1
  obtain ⟨pa, ca, rfl, _, ha⟩ := hv
  have HA : Hid (ms = [] ∨ ∃ b off, pa = some ⟨b, off, none⟩ ∧ b < w.heap.size ∧ Row w b off ms) := ha
  have hpn := hat.le
  obtain ⟨b9, o9, hp9, hl9, hr9⟩ : ∃ b off, pa = some ⟨b, off, none⟩ ∧ b < w.heap.size ∧ Row w b off ms := by
    rcases ha with h | h
    · rw [h] at hp; simp at hp
    · exact h
  subst hp9
  obtain ⟨e0, e1, e2, e3, e4⟩ := hr9 p hp
  clear hr9 ha hat hr
  generalize hm9 : ms.getD p dm = m9 at *
  have Hm9 : Hid (ms.getD p dm = m9) := hm9
  clear hm9
  obtain ⟨nm2, s2, l2, a2, v2⟩ := m9
  simp only at e0 e1 e2 e3 e4
  have hq : newB st lf ad sv s2 l2 a2 v2 = true := hnew
  clear hnew
  generalize hna : ms.length = n at *
  have HN : Hid (ms.length = n) := hna
  clear hna
  go_enter Tryz.func16, Tryz.ntmps16
  go_wp2_with fail
  refine (memberAt_any ms _ _ _ HV.out (by have := HN.out; omega)).mono ?_
  rintro e w1 ⟨r, rfl, hI, rfl⟩
  have hrp : r = (p : Int) := (atI_at hI.out HAT.out HR.out).1 rfl
  subst hrp
  go_wp2_with fail
  go_region_with (go_at_call 41; refine (newerMember_any _ _ _ _ _ _ _ _ _ _ _).mono ?_; rintro e w' ⟨rfl, rfl⟩; rw [hq])
  all_goals clear e0 e1 e2 e3 e4
  all_goals go_wp2_with fail
  all_goals
    have hm1000 : n ≤ 1000 := hn
    obtain ⟨W1, hW1⟩ : ∃ W1, W1 = w.alloc (.cells #[.string nm, .int .i64 st, .int .i64 lf, .int .i64 ad, .bool sv] 24) := ⟨_, rfl⟩
    have hs1 : W1.heap.size = w.heap.size + 1 := by rw [hW1]; simp
    have hB1 : Below (w.heap.size + 1) W1 ((((w.alloc (.cells #[.string nm, .int .i64 st, .int .i64 lf, .int .i64 ad, .bool sv] 24)).alloc (.cells #[.string nm, .int .i64 st, .int .i64 lf, .int .i64 ad, .bool sv] 24)).alloc (.cells #[.string nm2, .int .i64 s2, .int .i64 l2, .int .i64 a2, .bool v2] 24)).drew) := by rw [hW1]; exact ((((Below.refl _ _).alloc (by simp) _).alloc (by simp) _).drew)
    have hg1 : W1.heap[w.heap.size]? = some (.cells #[.string nm, .int .i64 st, .int .i64 lf, .int .i64 ad, .bool sv] 24 (0, 0)) := by rw [hW1]; exact heap_alloc_new w _
    have d0 : W1.cell? ⟨w.heap.size, 0, none⟩ = some (.string nm) := cellsAt hg1 0
    have d1 : W1.cell? ⟨w.heap.size, 1, none⟩ = some (.int .i64 st) := cellsAt hg1 1
    have d2 : W1.cell? ⟨w.heap.size, 2, none⟩ = some (.int .i64 lf) := cellsAt hg1 2
    have d3 : W1.cell? ⟨w.heap.size, 3, none⟩ = some (.int .i64 ad) := cellsAt hg1 3
    have d4 : W1.cell? ⟨w.heap.size, 4, none⟩ = some (.bool sv) := cellsAt hg1 4
    have hb01 : Hid (Below w.heap.size w W1) := by rw [hW1]; exact hb0
    have HA : Hid (ms = [] ∨ ∃ b off, (some ⟨b9, o9, none⟩ : Option Addr) = some ⟨b, off, none⟩ ∧ b < w.heap.size + 1 ∧ Row W1 b off ms) := by
      rcases HA.out with h | ⟨b, off, h1, h2, h3⟩
      · exact .inl h
      · exact .inr ⟨b, off, h1, by omega, h3.later hb01.out h2⟩
    clear hW1 hg1 hb0 HV hI
    go_loopw [7, 8, 9] (fun kn b i w' => ∃ (k : Nat) (bb : Bool), k ≤ n ∧ i = .int .i64 k ∧ b = .bool bb ∧ Hid (bb = true ↔ p < k) ∧ Below (w.heap.size + 1) W1 w' ∧ Hid (Own (w.heap.size + 1) w' kn (outL ms (Mem.mk nm st lf ad sv) p (p + 1) k))) (fun _ _ i _ => n - (intOf i).toNat)
    case atStart => exact ⟨0, false, Nat.zero_le _, rfl, rfl, ⟨fun h => (by cases h), fun h => (by omega)⟩, hB1, own_nil _ _⟩
    case round =>
      obtain ⟨k, bb, hk, rfl, rfl, hbb, hbl, HO⟩ := hrel
      have hbc : ∀ b o, b < w.heap.size + 1 → wr.cell? ⟨b, o, none⟩ = W1.cell? ⟨b, o, none⟩ := fun b o h => hbl.cell (p := ⟨b, o, none⟩) h
      have hsz := hbl.size
      have hlen := @outL_len ms (Mem.mk nm st lf ad sv) p (p + 1) k
      have hlen2 : (outL ms (Mem.mk nm st lf ad sv) p (p + 1) k).length ≤ 2001 := by have := HN.out; omega
      clear hlen
      by_cases hlt : k < n
      · obtain ⟨b1, o1, hp1, hl1, hr1⟩ : ∃ b off, (some ⟨b9, o9, none⟩ : Option Addr) = some ⟨b, off, none⟩ ∧ b < w.heap.size + 1 ∧ Row W1 b off ms := by
          rcases HA.out with h | h
          · have := HN.out; rw [h] at this; simp at this; omega
          · exact h
        simp only [Option.some.injEq, Addr.mk.injEq, and_true] at hp1
        obtain ⟨rfl, rfl⟩ := hp1
        obtain ⟨c0, c1, c2, c3, c4⟩ := hr1 k (by rw [HN.out]; exact hlt)
        clear hr1
        have HLO : Hid (k < p → outL ms (Mem.mk nm st lf ad sv) p (p + 1) (k + 1) = outL ms (Mem.mk nm st lf ad sv) p (p + 1) k ++ [ms.getD k dm] ∧ less (ms.getD k dm).name nm = true) := fun h => ⟨outL_lo h (by rw [HN.out]; exact hlt), (cmpI_lt _ _).1 (HAT.out.lo k h)⟩
        have HHI : Hid (p < k → outL ms (Mem.mk nm st lf ad sv) p (p + 1) (k + 1) = outL ms (Mem.mk nm st lf ad sv) p (p + 1) k ++ [ms.getD k dm] ∧ (ms.getD k dm).name ≠ nm) := fun h => ⟨outL_hi h (by omega) (by rw [HN.out]; exact hlt), at_hi_ne HAT.out HR.out k h (by rw [HN.out]; exact hlt)⟩
        have HEQ : Hid (k = p → outL ms (Mem.mk nm st lf ad sv) p (p + 1) (k + 1) = outL ms (Mem.mk nm st lf ad sv) p (p + 1) k ++ [(Mem.mk nm st lf ad sv)] ∧ (ms.getD k dm).name = nm) := fun h => by subst h; exact ⟨outL_eq (by rw [HN.out]; exact hlt), (cmpI_eq _ _).1 (HAT.out.is.1 rfl).2⟩
        generalize ms.getD k dm = mk at *
        obtain ⟨nk, sk, lk, ak, vk⟩ := mk
        simp only at c0 c1 c2 c3 c4
        rcases Nat.lt_trichotomy k p with hkp | hkp | hkp
        · have hbf : bb = false := by
            cases bb
            · rfl
            · have := hbb.out.1 rfl; omega
          subst hbf
          obtain ⟨hO, hls⟩ := HLO.out hkp
          have HOL : Hid (outL ms (Mem.mk nm st lf ad sv) p (p + 1) (k + 1) = outL ms (Mem.mk nm st lf ad sv) p (p + 1) k ++ [⟨nk, sk, lk, ak, vk⟩]) := hO
          have hl1' : Op.bytesLess nk.toList nm.toList = true := hls
          obtain ⟨hne1, hne2⟩ := beq_name (a := nk) (b := nm) (fun e => by rw [e] at hls; have := less_irrefl nm; rw [hls] at this; cases this)
          clear hO hls HLO HHI HEQ hbb
          generalize outL ms (Mem.mk nm st lf ad sv) p (p + 1) k = L at *
          go_wp2_with fail
          go_quiet (fail)
          go_wp2_with fail
          go_quiet (fail)
          go_wp2_with (at_builtin; refine wpList_append_own _ rfl _ _ 22 rfl (w.heap.size + 1) 24 i0 _ 5 48 Tryz.underlying22 hi0 hz0 hzs hzb rfl (by omega) _ (L).length (fl (L)) rfl ?hown ⟨wr.heap.size, 0, none⟩ 1 1 (Mem.mk nk sk lk ak vk).cs rfl rfl ?hnews (cs_one _) ?h63 ?hbytes ?hbase ?_)
          case hown => (refine HO.out.below ?_; repeat (first | exact Below.refl _ _ | refine below_drewN ?_ _ | refine Below.alloc ?_ (by simp) _ | refine Below.drew ?_))
          case hnews => (intro j u hj; rw [Addr.add_lit]; exact (cellsAt (heap_alloc_new wr (.cells #[.string nk, .int .i64 sk, .int .i64 lk, .int .i64 ak, .bool vk] 24)) (0 + j)).trans (by simpa [Mem.cs] using hj))
          case h63 => (unfold maxLen; omega)
          case hbytes => omega
          case hbase => (simp; omega)
          intro v' w2 r1 r2 r3
          have HBX : Hid (Below (w.heap.size + 1) W1 w2) := by
            have h0 : Below (w.heap.size + 1) W1 (wr.alloc (.cells #[.string nk, .int .i64 sk, .int .i64 lk, .int .i64 ak, .bool vk] 24)) := hbl.alloc (by omega) _
            have h1 := h0.trans (below_drewN (Below.refl _ _) 0)
            exact h0.trans ((Below.refl _ _).grown (w := wr.alloc (.cells #[.string nk, .int .i64 sk, .int .i64 lk, .int .i64 ak, .bool vk] 24)) ⟨r2.os, r2.tape, r2.output, r2.size, r2.block⟩ (by simp; omega) (fun j hj => (HO.out.lt j hj).1))
          have HOX : Hid (Own (w.heap.size + 1) w2 v' (L ++ [⟨nk, sk, lk, ak, vk⟩])) := own_snoc r1
          go_wp2_with fail
          exact ⟨⟨k + 1, false, by omega, by go_num, rfl, ⟨fun h => (by cases h), fun h => (by omega)⟩, HBX.out, (by rw [HOL.out]; exact HOX.out)⟩, by simp [intOf]; omega⟩
        · subst hkp
          have hbf : bb = false := by
            cases bb
            · rfl
            · have := hbb.out.1 rfl; omega
          subst hbf
          obtain ⟨hO, hls⟩ := HEQ.out rfl
          have HOL : Hid (outL ms (Mem.mk nm st lf ad sv) k (k + 1) (k + 1) = outL ms (Mem.mk nm st lf ad sv) k (k + 1) k ++ [(Mem.mk nm st lf ad sv)]) := hO
          subst hls
          have hl1' : Op.bytesLess nk.toList nk.toList = false := bl_irrefl _
          clear hO HLO HHI HEQ hbb
          generalize outL ms (Mem.mk nk st lf ad sv) k (k + 1) k = L at *
          go_wp2_with fail
          go_quiet (fail)
          go_wp2_with (at_builtin; refine wpList_append_own _ rfl _ _ 22 rfl (w.heap.size + 1) 24 i0 _ 5 48 Tryz.underlying22 hi0 hz0 hzs hzb rfl (by omega) _ (L).length (fl (L)) rfl ?hown ⟨wr.heap.size, 0, none⟩ 1 1 (Mem.mk nk st lf ad sv).cs rfl rfl ?hnews (cs_one _) ?h63 ?hbytes ?hbase ?_)
          case hown => (refine HO.out.below ?_; repeat (first | exact Below.refl _ _ | refine below_drewN ?_ _ | refine Below.alloc ?_ (by simp) _ | refine Below.drew ?_))
          case hnews => (intro j u hj; rw [Addr.add_lit]; exact (cellsAt (heap_alloc_new wr (.cells #[.string nk, .int .i64 st, .int .i64 lf, .int .i64 ad, .bool sv] 24)) (0 + j)).trans (by simpa [Mem.cs] using hj))
          case h63 => (unfold maxLen; omega)
          case hbytes => omega
          case hbase => (simp; omega)
          intro v' w2 r1 r2 r3
          have HBX : Hid (Below (w.heap.size + 1) W1 w2) := by
            have h0 : Below (w.heap.size + 1) W1 (wr.alloc (.cells #[.string nk, .int .i64 st, .int .i64 lf, .int .i64 ad, .bool sv] 24)) := hbl.alloc (by omega) _
            have h1 := h0.trans (below_drewN (Below.refl _ _) 0)
            exact h0.trans ((Below.refl _ _).grown (w := wr.alloc (.cells #[.string nk, .int .i64 st, .int .i64 lf, .int .i64 ad, .bool sv] 24)) ⟨r2.os, r2.tape, r2.output, r2.size, r2.block⟩ (by simp; omega) (fun j hj => (HO.out.lt j hj).1))
          have HOX : Hid (Own (w.heap.size + 1) w2 v' (L ++ [Mem.mk nk st lf ad sv])) := own_snoc r1
          clear r1 r2 r3 hbl hbc hsz HO hlen2
          have hbl := HBX.out
          have hbc : ∀ b o, b < w.heap.size + 1 → w2.cell? ⟨b, o, none⟩ = W1.cell? ⟨b, o, none⟩ := fun b o h => hbl.cell (p := ⟨b, o, none⟩) h
          have hsz := hbl.size
          go_wp2_with fail
          go_quiet (fail)
          go_wp2_with fail
          exact ⟨⟨k + 1, true, by omega, by go_num, rfl, ⟨fun _ => (by omega), fun _ => rfl⟩, below_drewN HBX.out _, (by rw [HOL.out]; exact HOX.out.below (below_drewN (Below.refl _ _) _))⟩, by simp [intOf]; omega⟩
        · have hbf : bb = true := hbb.out.2 hkp
          subst hbf
          obtain ⟨hO, hnn⟩ := HHI.out hkp
          have HOL : Hid (outL ms (Mem.mk nm st lf ad sv) p (p + 1) (k + 1) = outL ms (Mem.mk nm st lf ad sv) p (p + 1) k ++ [⟨nk, sk, lk, ak, vk⟩]) := hO
          obtain ⟨hne1, hne2⟩ := beq_name (a := nk) (b := nm) hnn
          clear hO hnn HLO HHI HEQ hbb
          generalize outL ms (Mem.mk nm st lf ad sv) p (p + 1) k = L at *
          go_wp2_with fail
          go_quiet (fail)
          go_wp2_with fail
          go_quiet (fail)
          go_wp2_with (at_builtin; refine wpList_append_own _ rfl _ _ 22 rfl (w.heap.size + 1) 24 i0 _ 5 48 Tryz.underlying22 hi0 hz0 hzs hzb rfl (by omega) _ (L).length (fl (L)) rfl ?hown ⟨wr.heap.size, 0, none⟩ 1 1 (Mem.mk nk sk lk ak vk).cs rfl rfl ?hnews (cs_one _) ?h63 ?hbytes ?hbase ?_)
          case hown => (refine HO.out.below ?_; repeat (first | exact Below.refl _ _ | refine below_drewN ?_ _ | refine Below.alloc ?_ (by simp) _ | refine Below.drew ?_))
          case hnews => (intro j u hj; rw [Addr.add_lit]; exact (cellsAt (heap_alloc_new wr (.cells #[.string nk, .int .i64 sk, .int .i64 lk, .int .i64 ak, .bool vk] 24)) (0 + j)).trans (by simpa [Mem.cs] using hj))
          case h63 => (unfold maxLen; omega)
          case hbytes => omega
          case hbase => (simp; omega)
          intro v' w2 r1 r2 r3
          have HBX : Hid (Below (w.heap.size + 1) W1 w2) := by
            have h0 : Below (w.heap.size + 1) W1 (wr.alloc (.cells #[.string nk, .int .i64 sk, .int .i64 lk, .int .i64 ak, .bool vk] 24)) := hbl.alloc (by omega) _
            have h1 := h0.trans (below_drewN (Below.refl _ _) 0)
            exact h0.trans ((Below.refl _ _).grown (w := wr.alloc (.cells #[.string nk, .int .i64 sk, .int .i64 lk, .int .i64 ak, .bool vk] 24)) ⟨r2.os, r2.tape, r2.output, r2.size, r2.block⟩ (by simp; omega) (fun j hj => (HO.out.lt j hj).1))
          have HOX : Hid (Own (w.heap.size + 1) w2 v' (L ++ [⟨nk, sk, lk, ak, vk⟩])) := own_snoc r1
          go_wp2_with fail
          exact ⟨⟨k + 1, true, by omega, by go_num, rfl, ⟨fun _ => (by omega), fun _ => rfl⟩, HBX.out, (by rw [HOL.out]; exact HOX.out)⟩, by simp [intOf]; omega⟩
      · have hkn : k = n := by omega
        subst hkn
        by_cases hpk : p < k
        · have hbf : bb = true := hbb.out.2 hpk
          subst hbf
          have HFO : Hid (Own (w.heap.size + 1) wr u7 (ms.take p ++ (Mem.mk nm st lf ad sv) :: ms.drop (p + 1))) := by
            have h := HO.out
            have hk' := HN.out
            rw [← hk', outL_end (by omega)] at h
            exact h
          have HBX : Hid (Below w.heap.size w wr) := hb01.out.trans (hbl.mono (by omega))
          clear HO hlen2
          go_wp2_with fail
          go_ret2
          exact ⟨u7, rfl, HFO.out, HBX.out⟩
        · have := (HAT.out.is.1 rfl).1
          have := HN.out
          omega

theorem hearMember_any (ms : List Mem) (v : Value) (m : Mem) (w : World) (hv : Sl w v ms) (hn : ms.length ≤ 1000) (hr : Rise ms) (hm : m.name.size ≤ maxLen) :
    Calls Tryz.prog 16 #[v, .agg #[.string m.name, .int .i64 m.state, .int .i64 m.life, .int .i64 m.addr, .bool m.server]] w fun e w' => ∃ (v' : Value) (r : Bool), e = .returned (.tuple #[v', .bool r]) ∧ Sl w' v' (hearL ms m) ∧ (r = true ↔ hearL ms m ≠ ms) ∧ Below w.heap.size w w' := by
  obtain ⟨p, f, hat⟩ := at_any ms hr m.name
  have hns : ∀ x ∈ hearL ms m, x.name.size ≤ maxLen := by obtain ⟨_, _, _, h, _⟩ := hv; exact ns_hear (ns_mem h) hm
  cases f
  · refine (hearMember_none ms v m.name m.state m.life m.addr m.server w hv hn hr p hat).mono ?_
    rintro e w' ⟨v', rfl, h1, h2⟩
    have e := hearL_out (f := false) hat (fun h => by cases h)
    refine ⟨v', true, rfl, own_names (base := w.heap.size + 1) ?_ hns, ⟨fun _ => hearL_ne hat (fun h => by cases h), fun _ => rfl⟩, h2⟩
    rw [e]; exact h1
  · cases hnew : newM m (ms.getD p dm)
    · refine (hearMember_old ms v m.name m.state m.life m.addr m.server w hv hn hr p hat hnew).mono ?_
      rintro e w' ⟨rfl, h2⟩
      have e := hearL_old hat hnew
      refine ⟨v, false, rfl, ?_, ⟨fun h => (by cases h), fun h => absurd e h⟩, h2⟩
      rw [e]; exact hv.below h2
    · refine (hearMember_newer ms v m.name m.state m.life m.addr m.server w hv hn hr p hat hnew).mono ?_
      rintro e w' ⟨v', rfl, h1, h2⟩
      have e := hearL_out hat (fun _ => hnew)
      refine ⟨v', true, rfl, own_names (base := w.heap.size + 1) ?_ hns, ⟨fun _ => hearL_ne hat (fun _ => hnew), fun _ => rfl⟩, h2⟩
      rw [e]; exact h1

end Go.Proofs.YtigffgjkakalfaaGreatDoor

/- The laws MemberHears and MemberJoins. -/
namespace Go.Proofs.YtigffgjkakalfaaGreatDoor
open Go.RowKit

theorem chk_one (m : Mem) : chk [m] = m.e := by
  unfold chk
  simp only [List.length_cons, List.length_nil, firstE, risesB]
  by_cases h : m.e = 0 <;> simp [h]

theorem sl_nil (w : World) : Sl w (.slice none 0 0) [] := ⟨none, 0, rfl, fun j => by simp [dm], .inl rfl⟩

theorem joinE_bad1 {a b : List Mem} (h : chk a ≠ 0) : joinE a b = chk a := by
  have : chkTwo a b = chk a := if_neg h
  rw [joinE, this, if_neg h]
theorem joinE_bad2 {a b : List Mem} (h : chk a = 0) (h2 : chk b ≠ 0) : joinE a b = chk b := by
  have : chkTwo a b = chk b := if_pos h
  rw [joinE, this, if_neg h2]
theorem joinE_good {a b : List Mem} (h : chk a = 0) (h2 : chk b = 0) : joinE a b = if 20 < (joinL a b).length then 2 else 0 := by
  have : chkTwo a b = 0 := (if_pos h).trans h2
  rw [joinE, if_pos this]

end Go.Proofs.YtigffgjkakalfaaGreatDoor

/- Whoever hears the same, in whatever order, however often, knows the same: of plain lists. -/
namespace Go.Proofs.YtigffgjkakalfaaGreatDoor
open Go.RowKit

def svI (m : Mem) : Int := if m.server = true then 1 else 0

theorem new_iff (x y : Mem) : newM x y = true ↔ y.life < x.life ∨ (x.life = y.life ∧ (y.state < x.state ∨ (x.state = y.state ∧ (y.addr < x.addr ∨ (x.addr = y.addr ∧ svI y < svI x))))) := by
  obtain ⟨n1, s1, l1, a1, v1⟩ := x
  obtain ⟨n2, s2, l2, a2, v2⟩ := y
  simp only [newM, newB, svI]
  by_cases h1 : l1 = l2
  · rw [if_pos h1]
    by_cases h2 : s1 = s2
    · rw [if_pos h2]
      by_cases h3 : a1 = a2
      · rw [if_pos h3]
        cases v1 <;> cases v2 <;> simp [h1, h2, h3]
      · rw [if_neg h3]
        simp only [decide_eq_true_eq]
        omega
    · rw [if_neg h2]
      simp only [decide_eq_true_eq]
      omega
  · rw [if_neg h1]
    simp only [decide_eq_true_eq]
    omega
theorem new_not (x y : Mem) : newM x y = false ↔ ¬ (y.life < x.life ∨ (x.life = y.life ∧ (y.state < x.state ∨ (x.state = y.state ∧ (y.addr < x.addr ∨ (x.addr = y.addr ∧ svI y < svI x)))))) := by
  rw [← new_iff]; simp
theorem new_total {x y : Mem} (hn : x.name = y.name) (h1 : newM x y = false) (h2 : newM y x = false) : x = y := by
  rw [new_not] at h1 h2
  have hl : x.life = y.life := by omega
  have hs : x.state = y.state := by omega
  have ha : x.addr = y.addr := by omega
  have hv : svI x = svI y := by omega
  have hvv : x.server = y.server := by
    unfold svI at hv
    cases h : x.server <;> cases h' : y.server <;> simp [h, h'] at hv ⊢
  obtain ⟨n1, s1, l1, a1, v1⟩ := x
  obtain ⟨n2, s2, l2, a2, v2⟩ := y
  simp only at hn hl hs ha hvv
  subst hn hl hs ha hvv
  rfl

/-- The newer one of two of one name. -/
def mx (x y : Mem) : Mem := if newM y x = true then y else x
theorem mx_comm {x y : Mem} (hn : x.name = y.name) : mx x y = mx y x := by
  unfold mx
  cases h1 : newM y x <;> cases h2 : newM x y
  · simp [new_total hn h2 h1]
  · simp
  · simp
  · exfalso; rw [new_iff] at h1 h2; omega
theorem mx_assoc (x y z : Mem) : mx (mx x y) z = mx x (mx y z) := by
  unfold mx
  cases h1 : newM y x <;> cases h2 : newM z y <;> cases h3 : newM z x <;> simp [h1, h2, h3]
  all_goals
    exfalso
    simp only [new_not, new_iff] at h1 h2 h3
    omega
theorem mx_self (x : Mem) : mx x x = x := by unfold mx; split <;> rfl
theorem mx_name {x y : Mem} {n : ByteArray} (hx : x.name = n) (hy : y.name = n) : (mx x y).name = n := by unfold mx; split <;> assumption

def getM (ms : List Mem) (n : ByteArray) : Option Mem := ms.find? fun x => decide (x.name = n)

theorem getM_nil (n : ByteArray) : getM [] n = none := rfl
theorem getM_cons_eq (x : Mem) (r : List Mem) {n : ByteArray} (h : x.name = n) : getM (x :: r) n = some x := by simp [getM, h]
theorem getM_cons_ne (x : Mem) (r : List Mem) {n : ByteArray} (h : x.name ≠ n) : getM (x :: r) n = getM r n := by simp [getM, h]
theorem getM_name {ms : List Mem} {n : ByteArray} {x : Mem} (h : getM ms n = some x) : x.name = n := by
  have := List.find?_some h
  simpa using this
theorem getM_none {ms : List Mem} {n : ByteArray} (h : ∀ x ∈ ms, x.name ≠ n) : getM ms n = none := by
  unfold getM
  rw [List.find?_eq_none]
  intro x hx
  simpa using h x hx
theorem rise_head {x : Mem} {r : List Mem} (h : Rise (x :: r)) : ∀ y ∈ r, y.name ≠ x.name := by
  intro y hy e
  have := List.rel_of_pairwise_cons h hy
  rw [e, less_irrefl] at this
  cases this

theorem rise_ext : ∀ {a b : List Mem}, Rise a → Rise b → (∀ n, getM a n = getM b n) → a = b
  | [], [], _, _, _ => rfl
  | [], y :: s, _, _, h => by
    have := h y.name
    rw [getM_nil, getM_cons_eq y s rfl] at this
    cases this
  | x :: r, [], _, _, h => by
    have := h x.name
    rw [getM_nil, getM_cons_eq x r rfl] at this
    cases this
  | x :: r, y :: s, ha, hb, h => by
    have hname : x.name = y.name := by
      rcases less_total x.name y.name with hl | he | hl
      · have h1 := h x.name
        rw [getM_cons_eq x r rfl, getM_none] at h1
        · cases h1
        · intro z hz e
          rcases List.mem_cons.1 hz with rfl | hz
          · rw [e, less_irrefl] at hl; cases hl
          · have h2 := less_trans hl (List.rel_of_pairwise_cons hb hz)
            rw [e, less_irrefl] at h2; cases h2
      · exact he
      · have h1 := h y.name
        rw [getM_cons_eq y s rfl, getM_none] at h1
        · cases h1
        · intro z hz e
          rcases List.mem_cons.1 hz with rfl | hz
          · rw [e, less_irrefl] at hl; cases hl
          · have h2 := less_trans hl (List.rel_of_pairwise_cons ha hz)
            rw [e, less_irrefl] at h2; cases h2
    have hxy : x = y := by
      have h1 := h x.name
      rw [getM_cons_eq x r rfl, getM_cons_eq y s hname.symm] at h1
      exact Option.some.inj h1
    subst hxy
    have hrs : r = s := rise_ext (List.Pairwise.of_cons ha) (List.Pairwise.of_cons hb) fun n => by
      by_cases hn : x.name = n
      · rw [getM_none (fun z hz => by rw [← hn]; exact rise_head ha z hz), getM_none (fun z hz => by rw [← hn]; exact rise_head hb z hz)]
      · have h1 := h n
        rw [getM_cons_ne x r hn, getM_cons_ne x s hn] at h1
        exact h1
    rw [hrs]

def comb : Option Mem → Option Mem → Option Mem
  | none, y => y
  | some x, none => some x
  | some x, some y => some (mx x y)

theorem comb_none (x : Option Mem) : comb x none = x := by cases x <;> rfl
theorem comb_comm {x y : Option Mem} {n : ByteArray} (hx : ∀ z, x = some z → z.name = n) (hy : ∀ z, y = some z → z.name = n) : comb x y = comb y x := by
  cases x with
  | none => rw [comb_none]; rfl
  | some x => cases y with
    | none => rfl
    | some y => simp only [comb]; rw [mx_comm ((hx x rfl).trans (hy y rfl).symm)]
theorem comb_assoc (x y z : Option Mem) : comb (comb x y) z = comb x (comb y z) := by
  cases x with
  | none => rfl
  | some x => cases y with
    | none => rfl
    | some y => cases z with
      | none => rfl
      | some z => simp only [comb]; rw [mx_assoc]

theorem getM_hear : ∀ (ms : List Mem) (m : Mem), Rise ms → ∀ n, getM (hearL ms m) n = if m.name = n then comb (getM ms n) (some m) else getM ms n
  | [], m, _, n => by
    by_cases h : m.name = n
    · rw [if_pos h, hearL, getM_cons_eq m [] h]; rfl
    · rw [if_neg h, hearL, getM_cons_ne m [] h]
  | x :: r, m, hr, n => by
    have ih := getM_hear r m (List.Pairwise.of_cons hr) n
    rw [hearL]
    by_cases hlt : cmpI x.name m.name < 0
    · rw [if_pos hlt]
      have hxm : x.name ≠ m.name := fun e => by rw [(cmpI_eq _ _).2 e] at hlt; omega
      by_cases hx : x.name = n
      · rw [getM_cons_eq x _ hx, getM_cons_eq x r hx, if_neg (fun e => hxm (hx.trans e.symm))]
      · rw [getM_cons_ne x _ hx, getM_cons_ne x r hx, ih]
    · rw [if_neg hlt]
      by_cases he : cmpI x.name m.name = 0
      · rw [if_pos he]
        have hxm : x.name = m.name := (cmpI_eq _ _).1 he
        by_cases hm : m.name = n
        · rw [if_pos hm, getM_cons_eq x r (hxm.trans hm)]
          by_cases hnew : newM m x = true
          · rw [if_pos hnew, getM_cons_eq m r hm]; simp [comb, mx, hnew]
          · rw [if_neg hnew, getM_cons_eq x r (hxm.trans hm)]; simp [comb, mx, hnew]
        · have hx : x.name ≠ n := fun e => hm (hxm.symm.trans e)
          rw [if_neg hm, getM_cons_ne x r hx]
          by_cases hnew : newM m x = true
          · rw [if_pos hnew, getM_cons_ne m r hm]
          · rw [if_neg hnew, getM_cons_ne x r hx]
      · rw [if_neg he]
        by_cases hm : m.name = n
        · rw [if_pos hm, getM_cons_eq m _ hm, getM_none]
          · rfl
          · have hg : less m.name x.name = true := (cmpI_gt _ _).1 (by omega)
            intro z hz e
            rcases List.mem_cons.1 hz with rfl | hz
            · rw [e, hm, less_irrefl] at hg; cases hg
            · have := less_trans hg (List.rel_of_pairwise_cons hr hz)
              rw [e, hm, less_irrefl] at this; cases this
        · rw [if_neg hm, getM_cons_ne m _ hm]

theorem getM_join : ∀ (b a : List Mem), Rise a → Rise b → ∀ n, getM (joinL a b) n = comb (getM a n) (getM b n)
  | [], a, _, _, n => by rw [getM_nil, comb_none]; rfl
  | m :: r, a, ha, hb, n => by
    have ih := getM_join r (hearL a m) (hearL_rise a m ha) (List.Pairwise.of_cons hb) n
    show getM (joinL (hearL a m) r) n = _
    rw [ih, getM_hear a m ha n]
    by_cases hm : m.name = n
    · rw [if_pos hm, getM_cons_eq m r hm, getM_none (ms := r) (fun z hz => by rw [← hm]; exact rise_head hb z hz), comb_none]
    · rw [if_neg hm, getM_cons_ne m r hm]

theorem joinL_comm {a b : List Mem} (ha : Rise a) (hb : Rise b) : joinL a b = joinL b a :=
  rise_ext (joinL_rise b a ha) (joinL_rise a b hb) fun n => by
    rw [getM_join b a ha hb, getM_join a b hb ha]
    exact comb_comm (n := n) (fun z h => getM_name h) (fun z h => getM_name h)
theorem joinL_assoc {a b c : List Mem} (ha : Rise a) (hb : Rise b) (hc : Rise c) : joinL (joinL a b) c = joinL a (joinL b c) :=
  rise_ext (joinL_rise c _ (joinL_rise b a ha)) (joinL_rise _ a ha) fun n => by
    rw [getM_join c _ (joinL_rise b a ha) hc, getM_join b a ha hb, getM_join _ a ha (joinL_rise c b hb), getM_join c b hb hc, comb_assoc]
theorem hearL_comm {l : List Mem} (a b : Mem) (hl : Rise l) : hearL (hearL l a) b = hearL (hearL l b) a :=
  rise_ext (hearL_rise _ b (hearL_rise l a hl)) (hearL_rise _ a (hearL_rise l b hl)) fun n => by
    rw [getM_hear _ b (hearL_rise l a hl), getM_hear l a hl, getM_hear _ a (hearL_rise l b hl), getM_hear l b hl]
    by_cases h1 : a.name = n <;> by_cases h2 : b.name = n <;> simp only [h1, h2, if_true, if_false]
    rw [comb_assoc, comb_assoc]
    congr 1
    exact comb_comm (n := n) (fun z h => by cases h; exact h1) (fun z h => by cases h; exact h2)
theorem hearL_idem {l : List Mem} (a : Mem) (hl : Rise l) : hearL (hearL l a) a = hearL l a :=
  rise_ext (hearL_rise _ a (hearL_rise l a hl)) (hearL_rise l a hl) fun n => by
    rw [getM_hear _ a (hearL_rise l a hl), getM_hear l a hl]
    by_cases h1 : a.name = n <;> simp only [h1, if_true, if_false]
    rw [comb_assoc]
    simp [comb, mx_self]

theorem firstE_all : ∀ (ms : List Mem), (∀ m ∈ ms, m.e = 0) → firstE ms = 0
  | [], _ => rfl
  | x :: r, h => by rw [firstE, if_pos (h x (by simp))]; exact firstE_all r fun m hm => h m (by simp [hm])
theorem chk_of {ms : List Mem} (h1 : ms.length ≤ 20) (h2 : Rise ms) (h3 : ∀ m ∈ ms, m.e = 0) : chk ms = 0 := by
  rw [chk, if_neg (by omega), firstE_all ms h3, if_pos rfl, if_pos (rises_of ms h2)]
theorem joinL_mem : ∀ (b a : List Mem) (x : Mem), x ∈ joinL a b → x ∈ a ∨ x ∈ b
  | [], _, _, h => .inl h
  | m :: r, a, x, h => by
    rcases joinL_mem r (hearL a m) x h with h | h
    · rcases hearL_mem a m x h with rfl | h
      · exact .inr (by simp)
      · exact .inl h
    · exact .inr (by simp [h])

theorem joinE_zero {a b : List Mem} (h : joinE a b = 0) : chk a = 0 ∧ chk b = 0 ∧ (joinL a b).length ≤ 20 := by
  by_cases ha : chk a = 0
  · by_cases hb : chk b = 0
    · rw [joinE_good ha hb] at h
      refine ⟨ha, hb, ?_⟩
      split at h
      · cases h
      · omega
    · rw [joinE_bad2 ha hb] at h; exact absurd h hb
  · rw [joinE_bad1 ha] at h; exact absurd h ha
theorem joinE_mk {a b : List Mem} (ha : chk a = 0) (hb : chk b = 0) (hl : (joinL a b).length ≤ 20) : joinE a b = 0 := by
  rw [joinE_good ha hb, if_neg (by omega)]
theorem joinE_right {a b : List Mem} (h : joinE a b = 0) : chk (joinL a b) = 0 := by
  obtain ⟨ha, hb, hl⟩ := joinE_zero h
  have za := chk_zero ha
  have zb := chk_zero hb
  exact chk_of hl (joinL_rise b a za.2.1) fun m hm => by
    rcases joinL_mem b a m hm with h | h
    · exact firstE_mem a za.2.2 m h
    · exact firstE_mem b zb.2.2 m h

/-- What is handed back: with an error nothing. -/
def jx (a b : List Mem) : List Mem := if joinE a b = 0 then joinL a b else []
theorem jx_len (a b : List Mem) : (jx a b).length ≤ 20 := by
  unfold jx
  split
  · rename_i h; exact (joinE_zero h).2.2
  · simp
theorem jx_names {a b : List Mem} (ha : ∀ m ∈ a, m.name.size ≤ maxLen) (hb : ∀ m ∈ b, m.name.size ≤ maxLen) : ∀ m ∈ jx a b, m.name.size ≤ maxLen := by
  unfold jx
  split
  · exact ns_join b a ha hb
  · simp
theorem joinE_comm0 {a b : List Mem} (h : joinE a b = 0) : joinE b a = 0 := by
  obtain ⟨ha, hb, hl⟩ := joinE_zero h
  exact joinE_mk hb ha (by rw [← joinL_comm (chk_zero ha).2.1 (chk_zero hb).2.1]; exact hl)
theorem jx_comm (a b : List Mem) : jx a b = jx b a := by
  unfold jx
  by_cases h : joinE a b = 0
  · obtain ⟨ha, hb, hl⟩ := joinE_zero h
    rw [if_pos h, if_pos (joinE_comm0 h), joinL_comm (chk_zero ha).2.1 (chk_zero hb).2.1]
  · rw [if_neg h, if_neg (fun h' => h (joinE_comm0 h'))]
theorem jx_assoc {l o t : List Mem} (h1 : joinE l o = 0) (h3 : joinE (jx l o) t = 0) (h4 : joinE o t = 0) : joinE l (jx o t) = 0 ∧ jx (jx l o) t = jx l (jx o t) := by
  have e1 : jx l o = joinL l o := if_pos h1
  have e4 : jx o t = joinL o t := if_pos h4
  rw [e1] at h3
  rw [e1, e4]
  obtain ⟨hl, ho, _⟩ := joinE_zero h1
  obtain ⟨_, ht, hlen⟩ := joinE_zero h3
  have e := joinL_assoc (chk_zero hl).2.1 (chk_zero ho).2.1 (chk_zero ht).2.1
  have h5 : joinE l (joinL o t) = 0 := joinE_mk hl (joinE_right h4) (by rw [← e]; exact hlen)
  exact ⟨h5, by rw [jx, jx, if_pos h3, if_pos h5, e]⟩

theorem hear_orders {l : List Mem} {a b : Mem} (h1 : joinE l [a] = 0) (h2 : joinE (jx l [a]) [b] = 0) :
    joinE l [b] = 0 ∧ joinE (jx l [b]) [a] = 0 ∧ jx (jx l [b]) [a] = jx (jx l [a]) [b] ∧ joinE (jx (jx l [a]) [b]) [a] = 0 ∧ hearL (jx (jx l [a]) [b]) a = jx (jx l [a]) [b] := by
  have e1 : jx l [a] = hearL l a := if_pos h1
  rw [e1] at h2 ⊢
  have e2 : jx (hearL l a) [b] = hearL (hearL l a) b := if_pos h2
  rw [e2]
  obtain ⟨hl, ha, _⟩ := joinE_zero h1
  obtain ⟨_, hb, hlen⟩ := joinE_zero h2
  have hr := (chk_zero hl).2.1
  have hc := hearL_comm a b hr
  have hlen2 : (hearL (hearL l b) a).length ≤ 20 := by rw [← hc]; exact hlen
  have h3 : joinE l [b] = 0 := joinE_mk hl hb (Nat.le_trans (hearL_len (hearL l b) a).1 hlen2)
  have e3 : jx l [b] = hearL l b := if_pos h3
  rw [e3]
  have h4 : joinE (hearL l b) [a] = 0 := joinE_mk (joinE_right h3) ha hlen2
  have e4 : jx (hearL l b) [a] = hearL (hearL l b) a := if_pos h4
  rw [e4]
  have hid : hearL (hearL (hearL l a) b) a = hearL (hearL l a) b := by
    rw [hc, hearL_idem a (hearL_rise l b hr)]
  exact ⟨h3, h4, hc.symm, joinE_mk (joinE_right h2) ha (by show (hearL _ a).length ≤ 20; rw [hid]; exact hlen), hid⟩

end Go.Proofs.YtigffgjkakalfaaGreatDoor

/- The law MemberOrders. -/
namespace Go.Proofs.YtigffgjkakalfaaGreatDoor
open Go.RowKit

theorem hear_jx (ms : List Mem) (m : Mem) (v : Value) (w : World) (hv : Sl w v ms) (hm : m.name.size ≤ maxLen) :
    Calls Tryz.prog 7 #[v, .agg #[.string m.name, .int .i64 m.state, .int .i64 m.life, .int .i64 m.addr, .bool m.server]] w fun e w' => ∃ (v' : Value) (r : Bool), e = .returned (.tuple #[v', .bool r, .int .i64 (joinE ms [m])]) ∧ Hid (Sl w' v' (jx ms [m])) ∧ Hid (joinE ms [m] = 0 → (r = true ↔ hearL ms m ≠ ms)) ∧ Below w.heap.size w w' := by
  have hns : ∀ x ∈ ms, x.name.size ≤ maxLen := by obtain ⟨_, _, _, h, _⟩ := hv; exact ns_mem h
  refine (hear_any ms m v w hv hm).mono ?_
  rintro e w' ⟨v', r, rfl, hb, hbad, hgood⟩
  refine ⟨v', r, rfl, ?_, fun h => (hgood h).2, hb⟩
  show Sl w' v' (jx ms [m])
  by_cases h : joinE ms [m] = 0
  · rw [jx, if_pos h]
    exact own_names (hgood h).1 (ns_hear hns hm)
  · rw [jx, if_neg h, (hbad h).1]
    exact sl_nil _

theorem join_jx (a b : List Mem) (va vb : Value) (w : World) (ha : Sl w va a) (hb : Sl w vb b) :
    Calls Tryz.prog 8 #[va, vb] w fun e w' => ∃ v', e = .returned (.tuple #[v', .int .i64 (joinE a b)]) ∧ Hid (Sl w' v' (jx a b)) ∧ Below w.heap.size w w' := by
  have hna : ∀ x ∈ a, x.name.size ≤ maxLen := by obtain ⟨_, _, _, h, _⟩ := ha; exact ns_mem h
  have hnb : ∀ x ∈ b, x.name.size ≤ maxLen := by obtain ⟨_, _, _, h, _⟩ := hb; exact ns_mem h
  refine (join2_any a b va vb w ha hb).mono ?_
  rintro e w' ⟨v', rfl, hbl, hbad, hgood⟩
  refine ⟨v', rfl, ?_, hbl⟩
  show Sl w' v' (jx a b)
  by_cases h : joinE a b = 0
  · rw [jx, if_pos h]
    exact own_names (hgood h) (ns_join b a hna hnb)
  · rw [jx, if_neg h, hbad h]
    exact sl_nil _

theorem same_eq (L : List Mem) (v1 v2 : Value) (w : World) (h1 : Sl w v1 L) (h2 : Sl w v2 L) (hn : L.length ≤ 1000) :
    Calls Tryz.prog 13 #[v1, v2] w fun e w' => e = .returned (.bool true) ∧ Below w.heap.size w w' := by
  refine (same_any L L v1 v2 w h1 h2 hn).mono ?_
  rintro e w' ⟨r, rfl, h, hb⟩
  exact ⟨ret_bool (h.2 rfl), hb⟩

end Go.Proofs.YtigffgjkakalfaaGreatDoor

