
/- The document's TakeRumors. -/
import Derived.Test.YtdcekfbejjjkkaaRU18
namespace Go.Proofs.Ytdcekfbejjjkkaa
open Go.RowKit

theorem Try.infoB : (Try.prog.info? 4).map (fun i => (i.zero, i.size, i.bytes)) = some (some (.bool false), 1, 1) := by kernel_rfl
def slLen : Value → Nat | .slice _ n _ => n | _ => 0
theorem ownsRow_block {w w' : World} {base g n c m : Nat} {e : TypeId} {s : Nat} {xs : List Value} (h : w.ownsRow base e s (.slice (some ⟨g, 0, none⟩) n c) m xs) (hg : w'.heap[g]? = w.heap[g]?) : w'.ownsRow base e s (.slice (some ⟨g, 0, none⟩) n c) m xs := by
  obtain ⟨h1, h2⟩ := h
  refine ⟨h1, ?_⟩
  rcases h2 with h2 | ⟨g', c', cur, hv, hbg, hg', hr⟩
  · exact .inl h2
  · have hgg : g' = g := by simp only [Value.slice.injEq, Option.some.injEq, Addr.mk.injEq, and_true] at hv; exact hv.1.symm
    subst hgg
    exact .inr ⟨g', c', cur, hv, hbg, by rw [hg]; exact hg', hr⟩
theorem madeB (w : World) (n j : Nat) (hj : j < n) : (w.alloc (.cells (madeCells #[Value.bool false] n) 4)).cell? ⟨w.heap.size, j, none⟩ = some (.bool false) := by
  rw [cell_top' rfl]
  rw [← Array.getElem?_toList, toList_madeCells_one]
  simp [hj]

theorem rbelow_drewN (w : World) (m : Nat) : Below w.heap.size w (w.drewN m) := ⟨rfl, rfl, rfl, Nat.le_refl _, fun _ _ => rfl⟩

set_option maxHeartbeats 3200000 in
set_option maxRecDepth 100000 in
theorem takeRumors_some (rs : List Rum) (v : Value) (most times : Int) (w : World) (hv : RSl w v rs) (hpos : 0 < rs.length) (hn20 : rs.length ≤ 20) (hm1 : 1 ≤ most) (hm2 : most ≤ 20) (htold : AllTold rs) (ord : List Nat) (hord : IsOrd rs ord) :
    Calls Try.prog 15 #[v, .int .i64 most, .int .i64 times] w fun e w' => ∃ v1 v2, e = .returned (.tuple #[v1, v2]) ∧ Own w.heap.size w' v1 (toldL rs ord (min most.toNat rs.length)) ∧ ROwn w.heap.size w' v2 ((bump rs ord (min most.toNat rs.length)).filter (keepR times)) ∧ Below w.heap.size w w' := by
  obtain ⟨i0, hi0, hz0, hzs, hzb⟩ := info_parts Try.infoR
  obtain ⟨j0, hj0, hk0, hks, hkb⟩ := info_parts Try.info24
  obtain ⟨l0, hl0, hm0, hms, hmb⟩ := info_parts Try.infoB
  have HTO : Hid (AllTold rs) := htold
  have HORD : Hid (IsOrd rs ord) := hord
  clear htold hord
  obtain ⟨pa, ca, rfl, _, ha⟩ := hv
  obtain ⟨b, off, hpa, hlb, hr⟩ : ∃ b off, pa = some ⟨b, off, none⟩ ∧ b < w.heap.size ∧ RRow w b off rs := by
    rcases ha with h | h
    · rw [h] at hpos; simp at hpos
    · exact h
  subst hpa
  have HR : Hid (RRow w b off rs) := hr
  have hnews : Hid (∀ j u, (flR rs)[j]? = some u → (w.alloc (.cells #[] 47)).cell? (Addr.add ⟨b, off, none⟩ j) = some u) := by
    intro j u hj
    rw [Addr.add_lit, World.cell?_alloc_past (w := w) _ b _ hlb]
    exact rrow_cell hr hj
  have HO : Hid ((w.alloc (.cells #[] 47)).ownsRow w.heap.size 47 6 (.slice (some ⟨w.heap.size, 0, none⟩) 0 0) 0 []) := World.ownsRow_made w #[] 0 (Nat.le_refl _) (by unfold maxLen; omega) rfl
  have HFL : Hid ((flR rs).length = rs.length * 6) := flR_len rs
  clear ha hr
  generalize hN : rs.length = n at *
  have HN : Hid (rs.length = n) := hN
  clear hN
  go_enter Try.func15, Try.ntmps15
  go_wp2_with (at_builtin; refine wpList_append_own _ rfl _ _ 22 rfl w.heap.size 47 i0 _ 6 56 Try.underlying22 hi0 hz0 hzs hzb rfl (by omega) _ 0 [] rfl HO.out ⟨b, off, none⟩ n ca (flR rs) rfl HFL.out hnews.out (flR_one rs) (by unfold maxLen; omega) (by omega) (by simp) ?_)
  intro v8 w1 r1 r2 r3
  have HO1 : Hid (ROwn w.heap.size w1 v8 rs) := by
    show World.ownsRow _ _ _ _ _ rs.length _
    rw [HN.out]
    simpa using r1
  have HB1 : Hid (Below w.heap.size w w1) := ((Below.refl _ _).alloc (Nat.le_refl _) _).grown r2 (by simp) (fun k hk => by simp [Value.ownBlock] at hk; omega)
  clear r1 r2 r3 HO hnews
  have hmk := run_make (P := Try.prog) w1 61 4 l0 (.bool false) Try.underlying61 hl0 hm0 .i64 .i64 n n (by omega) (by omega) (by rw [hmb]; omega) (by omega)
  rw [hms, Nat.mul_one, Int.toNat_natCast, show (Value.bool false).cells = #[Value.bool false] from rfl] at hmk
  obtain ⟨g, c, hv8⟩ : ∃ g c, v8 = .slice (some ⟨g, 0, none⟩) n c := by
    rcases HO1.out.2 with ⟨_, h0⟩ | ⟨g, c, cur, h, _⟩
    · have := HN.out; omega
    · exact ⟨g, c, by rw [h, HN.out]⟩
  subst hv8
  obtain ⟨hgl, hgh⟩ := HO1.out.lt g rfl
  have HK2 : Hid (∀ j, j < n → (w1.alloc (.cells (madeCells #[Value.bool false] n) 4)).cell? ⟨w1.heap.size, j, none⟩ = some (.bool (decide (j ∈ ord.take 0)))) := fun j hj => by rw [madeB _ _ _ hj]; simp
  have HF2 : Hid (∀ o, (w1.alloc (.cells (madeCells #[Value.bool false] n) 4)).frozen? ⟨w1.heap.size, o, none⟩ = false) := fun o => World.ownsRow.frozenAt (World.ownsRow_made (base := 0) (e := 4) (size := 1) w1 (madeCells #[Value.bool false] n) n (Nat.zero_le _) (by unfold maxLen; omega) (by rw [size_madeCells, Nat.mul_one])) o
  have hB2 := (Below.refl w1.heap.size w1).alloc (Nat.le_refl _) (.cells (madeCells #[Value.bool false] n) 4)
  have HO2 : Hid (ROwn w.heap.size (w1.alloc (.cells (madeCells #[Value.bool false] n) 4)) (.slice (some ⟨g, 0, none⟩) n c) rs) := HO1.out.below hB2
  have HB2 : Hid (Below w.heap.size w (w1.alloc (.cells (madeCells #[Value.bool false] n) 4))) := HB1.out.trans (hB2.mono HB1.out.size)
  have hz2 : (w1.alloc (.cells (madeCells #[Value.bool false] n) 4)).heap.size = w1.heap.size + 1 := by simp
  clear HO1 HB1 hB2
  go_wp2_with fail
  generalize w1.alloc (.cells (madeCells #[Value.bool false] n) 4) = w2 at *
  clear hmk
  obtain ⟨q, hq⟩ : ∃ q : Nat, q = min most.toNat n := ⟨_, rfl⟩
  have hqn : q ≤ n := by omega
  go_loopw [9] (fun o wr => ∃ k : Nat, k ≤ q ∧ Hid (Own (w1.heap.size + 1) wr o (toldL rs ord k)) ∧ Hid (ROwn w.heap.size wr (.slice (some ⟨g, 0, none⟩) n c) (bump rs ord k)) ∧ Hid (∀ j, j < n → wr.cell? ⟨w1.heap.size, j, none⟩ = some (.bool (decide (j ∈ ord.take k)))) ∧ Hid (∀ o, wr.frozen? ⟨w1.heap.size, o, none⟩ = false) ∧ Hid (Below w.heap.size w wr) ∧ w1.heap.size + 1 ≤ wr.heap.size) (fun o _ => q - slLen o)
  case atStart => exact ⟨0, Nat.zero_le _, (by rw [toldL_zero]; exact own_nil _ _), (by rw [bump_zero]; exact HO2.out), HK2, HF2, HB2, by omega⟩
  case round =>
    obtain ⟨k, hk, HTO2, HRO, HCT, HFZ, HB, hsz⟩ := hrel
    obtain ⟨wo, hwo⟩ : ∃ wo, wo = wr := ⟨_, rfl⟩
    subst hwo
    have htk : (toldL rs ord k).length = k := by
      unfold toldL
      have h1 := HORD.out.len
      have h2 := HN.out
      rw [List.length_map, List.length_take]; omega
    obtain ⟨oa, ocp, hvo⟩ := HTO2.out.slice
    subst hvo
    rw [htk]
    by_cases hlt : k < q
    · have h1 : (k : Int) < most := by omega
      have h2 : k < n := by omega
      have HRW : Hid (RRow wo b off rs) := HR.out.below HB.out hlb
      clear HK2 HF2 HB2 HO2
      go_wp2_with fail
      go_loopw [11, 12] (fun x y wx => Hid (Below wo.heap.size wo wx) ∧ ∃ (j : Nat) (z : Int), j ≤ n ∧ x = .int .i64 z ∧ y = .int .i64 j ∧ Hid (BestIs rs (ord.take k) j z)) (fun _ y _ => n - (intOf y).toNat)
      case atStart => exact ⟨Below.refl _ _, 0, -1, Nat.zero_le _, rfl, rfl, BestIs.start _ _⟩
      case round =>
        obtain ⟨HX, j, z, hj, rfl, rfl, HBE⟩ := hrel
        have HXS : Hid (wo.heap.size ≤ wr.heap.size) := HX.out.size
        have HXN : Hid (∀ m, Below wo.heap.size wo (wr.drewN m)) := fun m => HX.out.trans ((rbelow_drewN wr m).mono HX.out.size)
        by_cases hjn : j < n
        · have t1 : wr.cell? ⟨w1.heap.size, j, none⟩ = some (.bool (decide (j ∈ ord.take k))) := by
            rw [HX.out.cell (p := ⟨w1.heap.size, j, none⟩) (by simp only; omega)]; exact HCT.out j hjn
          by_cases hT : j ∈ ord.take k
          · have HNX : Hid (BestIs rs (ord.take k) (j + 1) z) := HBE.out.taken hT
            rw [decide_eq_true hT] at t1
            clear hT
            go_wp2_with fail
            go_quiet (fail)
            go_wp2_with fail
            exact ⟨⟨HXN.out _, j + 1, z, by omega, rfl, by go_num, HNX⟩, by simp [intOf]; omega⟩
          · have HT : Hid (j ∉ ord.take k) := hT
            rw [decide_eq_false hT] at t1
            clear hT
            rcases id HBE.out with ⟨hz, _⟩ | ⟨p, hz, hpj, _, _⟩
            · subst hz
              have HNX : Hid (BestIs rs (ord.take k) (j + 1) j) := HBE.out.first HT.out
              go_wp2_with fail
              go_quiet (fail)
              go_wp2_with fail
              exact ⟨⟨HXN.out _, j + 1, j, by omega, rfl, by go_num, HNX⟩, by simp [intOf]; omega⟩
            · subst hz
              have HRX : Hid (RRow wr b off rs) := HRW.out.below HX.out (by have := HB.out.size; omega)
              obtain ⟨_, _, _, _, _, c5⟩ := HRX.out j (by rw [HN.out]; exact hjn)
              obtain ⟨_, _, _, _, _, e5⟩ := HRX.out p (by rw [HN.out]; omega)
              have hpn : p < n := by omega
              have hp0 : decide ((p : Int) < 0) = false := by simp
              by_cases hle : (rs.getD j dr).told ≤ (rs.getD p dr).told
              · have HNX : Hid (BestIs rs (ord.take k) (j + 1) j) := HBE.out.turn HT.out hle
                generalize (rs.getD j dr).told = a at *
                generalize (rs.getD p dr).told = a' at *
                go_wp2_with fail
                go_quiet (fail)
                go_wp2_with fail
                exact ⟨⟨HXN.out _, j + 1, j, by omega, rfl, by go_num, HNX⟩, by simp [intOf]; omega⟩
              · have HNX : Hid (BestIs rs (ord.take k) (j + 1) p) := HBE.out.stay (by omega)
                generalize (rs.getD j dr).told = a at *
                generalize (rs.getD p dr).told = a' at *
                have hld : decide (a ≤ a') = false := by simpa using hle
                clear hle
                go_wp2_with fail
                go_quiet (fail)
                go_wp2_with fail
                exact ⟨⟨HXN.out _, j + 1, p, by omega, rfl, by go_num, HNX⟩, by simp [intOf]; omega⟩
        · have hjj : j = n := by omega
          subst hjj
          have hkn : k < rs.length := by rw [HN.out]; exact h2
          have hz : z = (ord.getD k 0 : Nat) := BestIs.done HORD.out hkn (by rw [HN.out]; exact HBE.out)
          subst hz
          have hat : ord.getD k 0 < j := by have := HORD.out.lt hkn; rwa [HN.out] at this
          have hbl : (bump rs ord k).length = j := by rw [bump_len]; exact HN.out
          have hwz : wo.heap.size ≤ wr.heap.size := HX.out.size
          have HBX : Hid (Below w.heap.size w wr) := HB.out.trans (HX.out.mono HB.out.size)
          have t1 : wr.cell? ⟨w1.heap.size, ord.getD k 0, none⟩ = some (.bool (decide (ord.getD k 0 ∈ ord.take k))) := by
            rw [HX.out.cell (p := ⟨w1.heap.size, ord.getD k 0, none⟩) (by simp only; omega)]; exact HCT.out _ hat
          have tf : ∀ o, wr.frozen? ⟨w1.heap.size, o, none⟩ = false := fun o => by
            rw [HX.out.frozen (p := ⟨w1.heap.size, o, none⟩) (by simp only; omega)]; exact HFZ.out o
          obtain ⟨e0, e1, e2, e3, e4, e5⟩ := (HRW.out.below HX.out (by have := HB.out.size; omega)) (ord.getD k 0) (by rw [HN.out]; exact hat)
          have HWA : Hid (∀ i, i < j → (wr.setCell ⟨w1.heap.size, ord.getD k 0, none⟩ (.bool true)).cell? ⟨w1.heap.size, i, none⟩ = some (.bool (decide (i ∈ ord.take (k + 1))))) := fun i hi => by
            rw [take_ord (by rw [HORD.out.len]; exact hkn)]
            by_cases hia : i = ord.getD k 0
            · subst hia
              rw [World.cell?_setCell_same (h := t1)]
              simp
            · rw [World.cell?_setCell_other (a := ⟨w1.heap.size, ord.getD k 0, none⟩) (b := ⟨w1.heap.size, i, none⟩) (h := by intro h; simp only [Addr.mk.injEq] at h; exact hia h.2.1.symm), HX.out.cell (p := ⟨w1.heap.size, i, none⟩) (by simp only; omega), HCT.out i hi]
              simp only [List.mem_append, List.mem_singleton, hia, or_false]
          have HFA : Hid (∀ o, (wr.setCell ⟨w1.heap.size, ord.getD k 0, none⟩ (.bool true)).frozen? ⟨w1.heap.size, o, none⟩ = false) := fun o => by
            have h := tf o
            simpa using h
          have HROx : Hid (ROwn w.heap.size (wr.setCell ⟨w1.heap.size, ord.getD k 0, none⟩ (.bool true)) (.slice (some ⟨g, 0, none⟩) j c) (bump rs ord k)) :=
            ownsRow_setCell_other (HRO.out.below HX.out) (by simp [Value.ownBlock]; omega) _
          have HTOx : Hid (Own (w1.heap.size + 1) (wr.setCell ⟨w1.heap.size, ord.getD k 0, none⟩ (.bool true)) (.slice oa (toldL rs ord k).length ocp) (toldL rs ord k)) :=
            ownsRow_setCell_below (HTO2.out.below HX.out) (a := ⟨w1.heap.size, ord.getD k 0, none⟩) (by simp only; omega) _
          have HBA : Hid (Below w.heap.size w (wr.setCell ⟨w1.heap.size, ord.getD k 0, none⟩ (.bool true))) := HBX.out.setCell (p := ⟨w1.heap.size, ord.getD k 0, none⟩) (by simp only; omega) _
          have HTS : Hid (toldL rs ord (k + 1) = toldL rs ord k ++ [(rs.getD (ord.getD k 0) dr).m]) := toldL_succ (by rw [HORD.out.len]; exact hkn)
          have htd := HTO.out _ (HORD.out.lt hkn)
          obtain ⟨ht3, ht4⟩ := within_bd htd
          have HLT : Hid (∀ i, (Value.slice oa (toldL rs ord k).length ocp).ownBlock = some i → w1.heap.size + 1 ≤ i) := fun i hi => (HTO2.out.lt i hi).1
          have hza : (wr.setCell ⟨w1.heap.size, ord.getD k 0, none⟩ (.bool true)).heap.size = wr.heap.size := by simp [World.setCell]
          have HBU : Hid (bump rs ord (k + 1) = (bump rs ord k).set (ord.getD k 0) ⟨(rs.getD (ord.getD k 0) dr).m, (rs.getD (ord.getD k 0) dr).told + 1⟩) := by
            show _ = _
            rw [bump_succ (by rw [HORD.out.len]; exact hkn), bumpOne, bump_fresh HORD.out hkn]
          have HFR : Hid ((bump rs ord k).getD (ord.getD k 0) dr = rs.getD (ord.getD k 0) dr) := bump_fresh HORD.out hkn
          rw [htk] at HLT
          clear HX HCT HFZ HTO2 HRO HXN HXS HBX HBE HRW htd
          generalize ord.getD k 0 = at1 at *
          generalize hrk : rs.getD at1 dr = rk at *
          clear hrk
          obtain ⟨⟨nm, st, lf, ad, sv⟩, td⟩ := rk
          simp only at e0 e1 e2 e3 e4 e5 ht3 ht4 HTS HBU HFR
          have hTL : (toldL rs ord k).length = k := htk
          generalize toldL rs ord k = TL at *
          have f0 : (wr.setCell ⟨w1.heap.size, at1, none⟩ (.bool true)).cell? ⟨b, off + at1 * 6, none⟩ = some (.string nm) := by rw [World.cell?_setCell_far _ _ _ _ (by simp only; omega)]; exact e0
          have f1 : (wr.setCell ⟨w1.heap.size, at1, none⟩ (.bool true)).cell? ⟨b, off + at1 * 6 + 1, none⟩ = some (.int .i64 st) := by rw [World.cell?_setCell_far _ _ _ _ (by simp only; omega)]; exact e1
          have f2 : (wr.setCell ⟨w1.heap.size, at1, none⟩ (.bool true)).cell? ⟨b, off + at1 * 6 + 2, none⟩ = some (.int .i64 lf) := by rw [World.cell?_setCell_far _ _ _ _ (by simp only; omega)]; exact e2
          have f3 : (wr.setCell ⟨w1.heap.size, at1, none⟩ (.bool true)).cell? ⟨b, off + at1 * 6 + 3, none⟩ = some (.int .i64 ad) := by rw [World.cell?_setCell_far _ _ _ _ (by simp only; omega)]; exact e3
          have f4 : (wr.setCell ⟨w1.heap.size, at1, none⟩ (.bool true)).cell? ⟨b, off + at1 * 6 + 4, none⟩ = some (.bool sv) := by rw [World.cell?_setCell_far _ _ _ _ (by simp only; omega)]; exact e4
          clear e0 e1 e2 e3 e4 e5
          have HOT : Hid (∀ ob, ((wr.setCell ⟨w1.heap.size, at1, none⟩ (.bool true)).alloc ob).ownsRow (w1.heap.size + 1) 24 5 (.slice oa k ocp) k (fl TL)) := fun ob => by
            have h := Own.below (ms := TL) HTOx.out ((Below.refl _ _).alloc (Nat.le_refl _) ob)
            rw [← hTL]; exact h
          have hfl : Hid ((fl TL).length = k * 5) := by show _ = _; rw [fl_len, hTL]
          clear HTOx
          go_wp2_with (at_builtin; refine wpList_append_own _ rfl _ _ 33 rfl (w1.heap.size + 1) 24 j0 _ 5 48 Try.underlying33 hj0 hk0 hks hkb rfl (by omega) _ k (fl TL) rfl ?hown ⟨wr.heap.size, 0, none⟩ 1 1 (Mem.mk nm st lf ad sv).cs rfl rfl ?hnews (cs_one _) ?h63 ?hbytes ?hbase ?_)
          case hown => exact HOT.out _
          case hnews => (intro j u hj; rw [Addr.add_lit]; exact (cell_top' (by simp)).trans (by simpa [Mem.cs] using hj))
          case h63 => (unfold maxLen; omega)
          case hbytes => omega
          case hbase => (simp; omega)
          intro v' w5 r1 r2 r3
          have hb5 : Below (w1.heap.size + 1) (wr.setCell ⟨w1.heap.size, at1, none⟩ (.bool true)) w5 :=
            ((Below.refl (w1.heap.size + 1) (wr.setCell ⟨w1.heap.size, at1, none⟩ (.bool true))).alloc (by simp; omega) _).grown r2 (by simp; omega) (fun j hj => HLT.out j hj)
          have R1 : Hid (Own (w1.heap.size + 1) w5 v' (TL ++ [⟨nm, st, lf, ad, sv⟩])) := own_snoc' (by rw [hTL]; exact r1)
          have hRO : w5.ownsRow w.heap.size 47 6 (.slice (some ⟨g, 0, none⟩) j c) j (flR (bump rs ord k)) := by
            have h2 : (wr.setCell ⟨w1.heap.size, at1, none⟩ (.bool true)).ownsRow w.heap.size 47 6 (.slice (some ⟨g, 0, none⟩) j c) (bump rs ord k).length (flR (bump rs ord k)) := HROx.out
            rw [hbl] at h2
            exact ownsRow_block h2 (hb5.block g (by omega))
          have g5 : w5.cell? ⟨g, at1 * 6 + 5, none⟩ = some (.int .i64 td) := by
            have h := rown_row (rs := bump rs ord k) (n := j) (c := c) (g := g) (base := w.heap.size) (w := w5) (by rw [hbl]; exact hRO) at1 (by rw [hbl]; exact hat)
            have h5 := h.2.2.2.2.2
            rw [HFR.out, Nat.zero_add] at h5
            exact h5
          have gf : ∀ o, w5.frozen? ⟨g, o, none⟩ = false := fun o => World.ownsRow.frozenAt hRO o
          have hb6 : Below (w1.heap.size + 1) wr w5 → True := fun _ => trivial
          have S1 : Hid (Own (w1.heap.size + 1) (w5.setCell ⟨g, at1 * 6 + 5, none⟩ (.int .i64 (td + 1))) v' (toldL rs ord (k + 1))) := by
            show Own _ _ _ _
            rw [HTS.out]
            exact ownsRow_setCell_below R1.out (a := ⟨g, at1 * 6 + 5, none⟩) (by simp only; omega) _
          have S2 : Hid (ROwn w.heap.size (w5.setCell ⟨g, at1 * 6 + 5, none⟩ (.int .i64 (td + 1))) (.slice (some ⟨g, 0, none⟩) j c) (bump rs ord (k + 1))) := by
            have h3 := (World.ownsRow.stored hRO (at1 * 6 + 5) (.int .i64 (td + 1))).1
            rw [wrs_told (by rw [hbl]; exact hat), HFR.out] at h3
            show World.ownsRow _ _ _ _ _ (bump rs ord (k + 1)).length _
            rw [bump_len, HN.out, HBU.out]
            exact h3
          have S3 : Hid (∀ i, i < j → (w5.setCell ⟨g, at1 * 6 + 5, none⟩ (.int .i64 (td + 1))).cell? ⟨w1.heap.size, i, none⟩ = some (.bool (decide (i ∈ ord.take (k + 1))))) := fun i hi => by
            rw [World.cell?_setCell_far _ _ _ _ (by simp only; omega), hb5.cell (p := ⟨w1.heap.size, i, none⟩) (by simp only; omega)]
            exact HWA.out i hi
          have S4 : Hid (∀ o, (w5.setCell ⟨g, at1 * 6 + 5, none⟩ (.int .i64 (td + 1))).frozen? ⟨w1.heap.size, o, none⟩ = false) := fun o => by
            have h := hb5.frozen (p := ⟨w1.heap.size, o, none⟩) (by simp only; omega)
            rw [HFA.out o] at h
            simpa using h
          have S5 : Hid (Below w.heap.size w (w5.setCell ⟨g, at1 * 6 + 5, none⟩ (.int .i64 (td + 1)))) := (HBA.out.trans (hb5.mono (by have := HB.out.size; omega))).setCell (p := ⟨g, at1 * 6 + 5, none⟩) (by simp only; omega) _
          have hz5 : w1.heap.size + 1 ≤ (w5.setCell ⟨g, at1 * 6 + 5, none⟩ (.int .i64 (td + 1))).heap.size := by
            have := hb5.size
            simp at this
            simp [World.setCell]
            omega
          have hlen : slLen v' = k + 1 := by
            obtain ⟨oa', oc', hv'⟩ := R1.out.slice
            rw [hv']
            simp [slLen, hTL]
          clear r1 r2 r3 hb5 hRO HWA HFA HROx HBA HOT R1
          go_wp2_with fail
          exact ⟨⟨k + 1, by omega, S1, S2, S3, S4, S5, hz5⟩, by rw [hlen]; simp only [slLen]; omega⟩
    · have hkq : k = q := by omega
      have hbl : (bump rs ord k).length = n := by rw [bump_len]; exact HN.out
      have HRW : Hid (RRow wo g 0 (bump rs ord k)) := rown_row HRO.out
      have HPO : Hid (∀ v1 v2 w', ∀ E : Ending, E = .returned (.tuple #[v1, v2]) → Own w.heap.size w' v1 (toldL rs ord k) → ROwn w.heap.size w' v2 ((bump rs ord k).filter (keepR times)) → Below w.heap.size w w' → ∃ v1 v2, E = .returned (.tuple #[v1, v2]) ∧ Own w.heap.size w' v1 (toldL rs ord (min most.toNat n)) ∧ ROwn w.heap.size w' v2 ((bump rs ord (min most.toNat n)).filter (keepR times)) ∧ Below w.heap.size w w') := by
        intro v1 v2 w' E a b c d
        rw [← hq, ← hkq]
        exact ⟨v1, v2, a, b, c, d⟩
      have HTO3 : Hid (Own w.heap.size wo (.slice oa k ocp) (toldL rs ord k)) := by
        have h := HTO2.out
        rw [htk] at h
        exact Own.base h (by omega)
      have HQ : Hid (¬ (k : Int) < most ∨ ¬ k < n) := show _ ∨ _ by omega
      clear HTO2 HRO HCT HFZ hkq hq
      generalize hbs : bump rs ord k = bs at *
      generalize toldL rs ord k = TL at *
      by_cases h1 : (k : Int) < most
      · have h3 : ¬ k < n := by rcases HQ.out with h | h <;> omega
        go_wp2_with fail
        go_loopw [13, 14] (fun o i wr => ∃ m : Nat, m ≤ n ∧ i = .int .i64 m ∧ Hid (ROwn wo.heap.size wr o ((bs.take m).filter (keepR times))) ∧ Hid (Below wo.heap.size wo wr)) (fun _ i _ => n - (intOf i).toNat)
        case atStart => exact ⟨0, Nat.zero_le _, rfl, (by simp only [List.take_zero, List.filter_nil]; exact rown_nil _ _), Below.refl _ _⟩
        case round =>
          obtain ⟨m, hm, rfl, HRE, HX⟩ := hrel
          by_cases hmn : m < n
          · obtain ⟨c0, c1, c2, c3, c4, c5⟩ := (HRW.out.below HX.out (by omega)) m (by rw [hbl]; exact hmn)
            have hwz : wo.heap.size ≤ wr.heap.size := HX.out.size
            have htm : bs.take (m + 1) = bs.take m ++ [bs.getD m dr] := by
              rw [List.take_succ_eq_append_getElem (by rw [hbl]; exact hmn)]
              simp [List.getD, List.getElem?_eq_getElem (show m < bs.length by rw [hbl]; exact hmn)]
            have HTM : Hid ((bs.take (m + 1)).filter (keepR times) = (bs.take m).filter (keepR times) ++ [bs.getD m dr].filter (keepR times)) := by
              show _ = _
              rw [htm, List.filter_append]
            have hfl : ((bs.take m).filter (keepR times)).length ≤ 20 := by
              have h1 := List.length_filter_le (keepR times) (bs.take m)
              rw [List.length_take] at h1
              omega
            obtain ⟨oa', oc', hvo⟩ := HRE.out.slice
            subst hvo
            have hkr : keepR times (bs.getD m dr) = decide ((bs.getD m dr).told < times) := rfl
            clear htm
            by_cases hlt2 : (bs.getD m dr).told < times
            · have HTN : Hid ((bs.take (m + 1)).filter (keepR times) = (bs.take m).filter (keepR times) ++ [bs.getD m dr]) := by
                show _ = _
                rw [HTM.out, filter_yes (by rw [hkr]; exact decide_eq_true hlt2)]
              clear HTM hkr
              generalize bs.getD m dr = rk at *
              obtain ⟨⟨nm, st, lf, ad, sv⟩, td⟩ := rk
              simp only at c0 c1 c2 c3 c4 c5 hlt2
              simp only [Nat.zero_add] at c0 c1 c2 c3 c4 c5
              generalize (bs.take m).filter (keepR times) = FL at *
              have HOT : Hid (∀ ob, (wr.alloc ob).ownsRow wo.heap.size 47 6 (.slice oa' FL.length oc') FL.length (flR FL)) := fun ob =>
                ROwn.below (ms := FL) HRE.out ((Below.refl _ _).alloc (Nat.le_refl _) ob)
              have HLT : Hid (∀ j, (Value.slice oa' FL.length oc').ownBlock = some j → wo.heap.size ≤ j) := fun j hj => (HRE.out.lt j hj).1
              clear HRE
              go_wp2_with (at_builtin; refine wpList_append_own _ rfl _ _ 22 rfl wo.heap.size 47 i0 _ 6 56 Try.underlying22 hi0 hz0 hzs hzb rfl (by omega) _ FL.length (flR FL) rfl ?hown ⟨wr.heap.size, 0, none⟩ 1 1 (Rum.mk (Mem.mk nm st lf ad sv) td).cs rfl rfl ?hnews (rcs_one _) ?h63 ?hbytes ?hbase ?_)
              case hown => exact HOT.out _
              case hnews => (intro j u hj; rw [Addr.add_lit]; exact (cell_top' (by simp)).trans (by simpa [Rum.cs, Mem.cs] using hj))
              case h63 => (unfold maxLen; omega)
              case hbytes => omega
              case hbase => (simp; omega)
              intro v' w5 r1 r2 r3
              have hb5 : Below wo.heap.size wo w5 := (HX.out.alloc hwz _).grown r2 (by simp; omega) (fun j hj => HLT.out j hj)
              have R1 : Hid (ROwn wo.heap.size w5 v' ((bs.take (m + 1)).filter (keepR times))) := by
                show ROwn _ _ _ _
                rw [HTN.out]
                exact rown_snoc r1
              have R2 : Hid (Below wo.heap.size wo w5) := hb5
              clear r1 r2 r3 hb5
              go_wp2_with fail
              exact ⟨⟨m + 1, by omega, by go_num, R1, R2⟩, by simp [intOf]; omega⟩
            · have HTN : Hid ((bs.take (m + 1)).filter (keepR times) = (bs.take m).filter (keepR times)) := by
                show _ = _
                rw [HTM.out, filter_no (by rw [hkr]; exact decide_eq_false hlt2), List.append_nil]
              clear HTM hkr
              generalize bs.getD m dr = rk at *
              obtain ⟨⟨nm, st, lf, ad, sv⟩, td⟩ := rk
              simp only at c0 c1 c2 c3 c4 c5 hlt2
              simp only [Nat.zero_add] at c0 c1 c2 c3 c4 c5
              clear c0 c1 c2 c3 c4
              go_wp2_with fail
              exact ⟨⟨m + 1, by omega, by go_num, by show ROwn _ _ _ _; rw [HTN.out]; exact HRE.out, HX⟩, by simp [intOf]; omega⟩
          · have hme : m = n := by omega
            subst hme
            have HR2 : Hid (ROwn w.heap.size wr u13 (bs.filter (keepR times))) := by
              have h := HRE.out
              rw [List.take_of_length_le (by omega)] at h
              exact ROwn.base h HB.out.size
            have HT4 : Hid (Own w.heap.size wr (.slice oa k ocp) TL) := HTO3.out.below HX.out
            have HB4 : Hid (Below w.heap.size w wr) := HB.out.trans (HX.out.mono HB.out.size)
            clear HRE
            go_wp2_with fail
            go_ret2
            exact HPO.out _ _ _ _ rfl HT4.out HR2.out HB4.out
      · go_wp2_with fail
        go_loopw [13, 14] (fun o i wr => ∃ m : Nat, m ≤ n ∧ i = .int .i64 m ∧ Hid (ROwn wo.heap.size wr o ((bs.take m).filter (keepR times))) ∧ Hid (Below wo.heap.size wo wr)) (fun _ i _ => n - (intOf i).toNat)
        case atStart => exact ⟨0, Nat.zero_le _, rfl, (by simp only [List.take_zero, List.filter_nil]; exact rown_nil _ _), Below.refl _ _⟩
        case round =>
          obtain ⟨m, hm, rfl, HRE, HX⟩ := hrel
          by_cases hmn : m < n
          · obtain ⟨c0, c1, c2, c3, c4, c5⟩ := (HRW.out.below HX.out (by omega)) m (by rw [hbl]; exact hmn)
            have hwz : wo.heap.size ≤ wr.heap.size := HX.out.size
            have htm : bs.take (m + 1) = bs.take m ++ [bs.getD m dr] := by
              rw [List.take_succ_eq_append_getElem (by rw [hbl]; exact hmn)]
              simp [List.getD, List.getElem?_eq_getElem (show m < bs.length by rw [hbl]; exact hmn)]
            have HTM : Hid ((bs.take (m + 1)).filter (keepR times) = (bs.take m).filter (keepR times) ++ [bs.getD m dr].filter (keepR times)) := by
              show _ = _
              rw [htm, List.filter_append]
            have hfl : ((bs.take m).filter (keepR times)).length ≤ 20 := by
              have h1 := List.length_filter_le (keepR times) (bs.take m)
              rw [List.length_take] at h1
              omega
            obtain ⟨oa', oc', hvo⟩ := HRE.out.slice
            subst hvo
            have hkr : keepR times (bs.getD m dr) = decide ((bs.getD m dr).told < times) := rfl
            clear htm
            by_cases hlt2 : (bs.getD m dr).told < times
            · have HTN : Hid ((bs.take (m + 1)).filter (keepR times) = (bs.take m).filter (keepR times) ++ [bs.getD m dr]) := by
                show _ = _
                rw [HTM.out, filter_yes (by rw [hkr]; exact decide_eq_true hlt2)]
              clear HTM hkr
              generalize bs.getD m dr = rk at *
              obtain ⟨⟨nm, st, lf, ad, sv⟩, td⟩ := rk
              simp only at c0 c1 c2 c3 c4 c5 hlt2
              simp only [Nat.zero_add] at c0 c1 c2 c3 c4 c5
              generalize (bs.take m).filter (keepR times) = FL at *
              have HOT : Hid (∀ ob, (wr.alloc ob).ownsRow wo.heap.size 47 6 (.slice oa' FL.length oc') FL.length (flR FL)) := fun ob =>
                ROwn.below (ms := FL) HRE.out ((Below.refl _ _).alloc (Nat.le_refl _) ob)
              have HLT : Hid (∀ j, (Value.slice oa' FL.length oc').ownBlock = some j → wo.heap.size ≤ j) := fun j hj => (HRE.out.lt j hj).1
              clear HRE
              go_wp2_with (at_builtin; refine wpList_append_own _ rfl _ _ 22 rfl wo.heap.size 47 i0 _ 6 56 Try.underlying22 hi0 hz0 hzs hzb rfl (by omega) _ FL.length (flR FL) rfl ?hown ⟨wr.heap.size, 0, none⟩ 1 1 (Rum.mk (Mem.mk nm st lf ad sv) td).cs rfl rfl ?hnews (rcs_one _) ?h63 ?hbytes ?hbase ?_)
              case hown => exact HOT.out _
              case hnews => (intro j u hj; rw [Addr.add_lit]; exact (cell_top' (by simp)).trans (by simpa [Rum.cs, Mem.cs] using hj))
              case h63 => (unfold maxLen; omega)
              case hbytes => omega
              case hbase => (simp; omega)
              intro v' w5 r1 r2 r3
              have hb5 : Below wo.heap.size wo w5 := (HX.out.alloc hwz _).grown r2 (by simp; omega) (fun j hj => HLT.out j hj)
              have R1 : Hid (ROwn wo.heap.size w5 v' ((bs.take (m + 1)).filter (keepR times))) := by
                show ROwn _ _ _ _
                rw [HTN.out]
                exact rown_snoc r1
              have R2 : Hid (Below wo.heap.size wo w5) := hb5
              clear r1 r2 r3 hb5
              go_wp2_with fail
              exact ⟨⟨m + 1, by omega, by go_num, R1, R2⟩, by simp [intOf]; omega⟩
            · have HTN : Hid ((bs.take (m + 1)).filter (keepR times) = (bs.take m).filter (keepR times)) := by
                show _ = _
                rw [HTM.out, filter_no (by rw [hkr]; exact decide_eq_false hlt2), List.append_nil]
              clear HTM hkr
              generalize bs.getD m dr = rk at *
              obtain ⟨⟨nm, st, lf, ad, sv⟩, td⟩ := rk
              simp only at c0 c1 c2 c3 c4 c5 hlt2
              simp only [Nat.zero_add] at c0 c1 c2 c3 c4 c5
              clear c0 c1 c2 c3 c4
              go_wp2_with fail
              exact ⟨⟨m + 1, by omega, by go_num, by show ROwn _ _ _ _; rw [HTN.out]; exact HRE.out, HX⟩, by simp [intOf]; omega⟩
          · have hme : m = n := by omega
            subst hme
            have HR2 : Hid (ROwn w.heap.size wr u13 (bs.filter (keepR times))) := by
              have h := HRE.out
              rw [List.take_of_length_le (by omega)] at h
              exact ROwn.base h HB.out.size
            have HT4 : Hid (Own w.heap.size wr (.slice oa k ocp) TL) := HTO3.out.below HX.out
            have HB4 : Hid (Below w.heap.size w wr) := HB.out.trans (HX.out.mono HB.out.size)
            clear HRE
            go_wp2_with fail
            go_ret2
            exact HPO.out _ _ _ _ rfl HT4.out HR2.out HB4.out

end Go.Proofs.Ytdcekfbejjjkkaa
