
/- Whose turn it is: the program's turns. -/
import Derived.Test.YtdcekfbejjjkkaaRU15
import Derived.Test.YtdcekfbejjjkkaaShelfS
import Derived.Shelf.SlSortFunc.HeapSort
namespace Go.Proofs.Ytdcekfbejjjkkaa
open Go.RowKit Go.Sort Go.Shelf Go.Lib

theorem cfR_neg (rs : List Rum) (i k : Nat) : cfR rs i k < 0 ↔ (rs.getD i dr).told < (rs.getD k dr).told ∨ ((rs.getD i dr).told = (rs.getD k dr).told ∧ k < i) := by
  unfold cfR orZ cmpZ
  generalize (rs.getD i dr).told = a
  generalize (rs.getD k dr).told = b
  repeat' split
  all_goals omega
def cfF (rs : List Rum) (m : Nat) (x y : Fin (m + 1)) : Int := cfR rs x.val y.val
theorem ltF (rs : List Rum) (m : Nat) (x y : Fin (m + 1)) : ltOf (cfF rs m) x y = true ↔ (rs.getD x.val dr).told < (rs.getD y.val dr).told ∨ ((rs.getD x.val dr).told = (rs.getD y.val dr).told ∧ y.val < x.val) := by
  unfold ltOf cfF
  rw [decide_eq_true_iff, cfR_neg]
theorem ltF_false (rs : List Rum) (m : Nat) (x y : Fin (m + 1)) : ltOf (cfF rs m) x y = false ↔ ¬ ((rs.getD x.val dr).told < (rs.getD y.val dr).told ∨ ((rs.getD x.val dr).told = (rs.getD y.val dr).told ∧ y.val < x.val)) := by
  rw [← ltF, Bool.not_eq_true]
theorem swoF (rs : List Rum) (m : Nat) : SWO (ltOf (cfF rs m)) where
  irrefl x := by rw [ltF_false]; omega
  trans x y z h1 h2 := by rw [ltF] at *; omega
  ntrans x y z h1 h2 := by rw [ltF_false] at *; omega
def encF (m : Nat) (x : Fin (m + 1)) : Value := .int .i64 (x.val : Nat)
def allF (m : Nat) : Array (Fin (m + 1)) := Array.ofFn (fun x => x)
theorem allF_size (m : Nat) : (allF m).size = m + 1 := by simp [allF]
theorem allF_get (m j : Nat) (hj : j < m + 1) : (allF m)[j]! = ⟨j, hj⟩ := by
  rw [getElem!_pos _ j (by rw [allF_size]; exact hj)]
  simp [allF]
theorem allF_vals (m : Nat) : (allF m).toList.map (·.val) = List.range (m + 1) := by
  apply List.ext_getElem
  · simp [allF]
  · intro j h1 h2
    rw [List.getElem_map, List.getElem_range, Array.getElem_toList]
    simp only [allF, Array.getElem_ofFn]
theorem alloc_grow (W : World) (o : Obj) : (W.alloc o).drew = grow (W.drewN 1) #[o] := by
  simp only [grow, World.alloc, World.drew, World.drewN, Array.push_eq_append]

theorem cmpF (rs : List Rum) (m lb b off ca g : Nat) (w : World) (hn : rs.length = m + 1) (hr : RRow w b off rs) (hl : w.cell? ⟨lb, 0, none⟩ = some (.slice (some ⟨b, off, none⟩) (m + 1) ca)) (h1 : lb ≠ g) (h2 : b ≠ g) (hb : b < w.heap.size) :
    CmpLays1 Try.prog 39 #[.pointer (some ⟨lb, 0, none⟩)] (encF m) (cfF rs m) g 0 (allF m).size w := by
  intro q os dk hs x y
  have hlb : lb < w.heap.size := World.block_lt_of_cell? w _ hl
  have c1 := (cell?_sortWorld_other (encF m) w g 0 q dk os ⟨lb, 0, none⟩ h1 hlb).trans hl
  have c2 := (cell?_sortWorld_other (encF m) w g 0 q dk os ⟨b, off + x.val * 6 + 5, none⟩ h2 hb).trans (hr x.val (by rw [hn]; exact x.isLt)).2.2.2.2.2
  have c3 := (cell?_sortWorld_other (encF m) w g 0 q dk os ⟨b, off + y.val * 6 + 5, none⟩ h2 hb).trans (hr y.val (by rw [hn]; exact y.isLt)).2.2.2.2.2
  refine (turnF_any _ _ lb b off (m + 1) ca x.val y.val _ c1 x.isLt y.isLt c2 c3).mono ?_
  rintro e w' ⟨rfl, rfl⟩
  exact ⟨rfl, 1, _, alloc_grow _ _⟩

theorem isOrd_of {rs : List Rum} {m : Nat} {d' : Array (Fin (m + 1))} (hn : rs.length = m + 1) (hp : PermIn 0 (allF m).size (allF m) d') (hs : SortedIn (ltOf (cfF rs m)) 0 (allF m).size d') : IsOrd rs (d'.toList.map (·.val)) := by
  obtain ⟨hsz, _, hperm⟩ := hp
  rw [Array.extract_size, show d'.extract 0 (allF m).size = d' by rw [← hsz, Array.extract_size]] at hperm
  have hP : (d'.toList.map (·.val)).Perm (List.range rs.length) := by
    rw [hn, ← allF_vals]
    exact hperm.map _
  have hlen : (d'.toList.map (·.val)).length = m + 1 := by rw [hP.length_eq, hn]; simp
  have hnd : (d'.toList.map (·.val)).Nodup := hP.nodup_iff.2 List.nodup_range
  refine ⟨hP, fun i j hij hj => ?_⟩
  have hds : d'.size = m + 1 := by rw [hsz, allF_size]
  have hj' : j < d'.size := by rw [hds]; omega
  have hi' : i < d'.size := by omega
  have e1 : (d'.toList.map (·.val)).getD i 0 = d'[i].val := by rw [ord_get (by omega)]; simp
  have e2 : (d'.toList.map (·.val)).getD j 0 = d'[j].val := by rw [ord_get hj]; simp
  have hne : (d'.toList.map (·.val))[i]'(by omega) ≠ (d'.toList.map (·.val))[j]'hj := List.pairwise_iff_getElem.1 hnd i j (by omega) hj hij
  simp only [List.getElem_map, Array.getElem_toList] at hne
  have h := hs i j (by omega) hij (by rw [allF_size]; omega)
  rw [getElem!_pos d' j hj', getElem!_pos d' i hi', ltF_false] at h
  rw [e1, e2, cfR_neg]
  omega

abbrev intL (k : Nat) : List Value := (List.range k).map (fun j => Value.int .i64 (j : Nat))
theorem intL_succ (k : Nat) : intL (k + 1) = intL k ++ [.int .i64 (k : Nat)] := by simp [intL, List.range_succ]
theorem intL_one (k : Nat) : ∀ v ∈ intL k, v.oneCell' = true := by
  intro v hv
  simp only [intL, List.mem_map] at hv
  obtain ⟨j, _, rfl⟩ := hv
  rfl

theorem below_sortWorld {m : Nat} {B : Nat} {w : World} {g off n : Nat} {d : Array (Fin (m + 1))} {os : Array Obj} (hg : B ≤ g) (hB : B ≤ w.heap.size) : Below B w (sortWorld (encF m) w g off n d os) := by
  refine ⟨rfl, rfl, rfl, by simp [sortWorld, putRow, mapBlock, Go.Sort.ahead, grow], fun k hk => ?_⟩
  unfold sortWorld
  rw [heap_grow_old _ _ (by simp [putRow, mapBlock, Go.Sort.ahead]; omega)]
  have : g ≠ k := by omega
  simp [putRow, mapBlock, Go.Sort.ahead, Array.getElem?_modify, this]

set_option maxHeartbeats 3200000 in
set_option maxRecDepth 100000 in
theorem turns_some (rs : List Rum) (v : Value) (m : Nat) (hn : rs.length = m + 1) (hsm : m < 1000) : TurnsSays rs v := by
  intro w hv
  obtain ⟨i0, hi0, hz0, hzs, hzb⟩ := info_parts Try.infoI
  obtain ⟨pa, ca, rfl, _, ha⟩ := hv
  obtain ⟨b, off, hpa, hlb, hr⟩ : ∃ b off, pa = some ⟨b, off, none⟩ ∧ b < w.heap.size ∧ RRow w b off rs := by
    rcases ha with h | h
    · rw [h] at hn; simp at hn
    · exact h
  subst hpa
  have HR : Hid (RRow w b off rs) := hr
  have HN : Hid (rs.length = m + 1) := hn
  rw [hn]
  clear ha hr hn
  have eg : ∀ args w, (callFunc 39 args).run Try.prog w = .ok (.enter 39 args) w := enters_of Try.func39 (by kernel_rfl) rfl
  have HEG : Hid (∀ args w, (callFunc 39 args).run Try.prog w = .ok (.enter 39 args) w) := eg
  clear eg
  go_enter Try.func30, Try.ntmps30
  go_wp2_with fail
  go_loopw [3, 7] (fun o i wr => ∃ k : Nat, k ≤ m + 1 ∧ i = .int .i64 k ∧ Hid (wr.ownsRow (w.heap.size + 1) 3 1 o k (intL k)) ∧ Hid (Below (w.heap.size + 1) (w.alloc (.cells #[.slice (some ⟨b, off, none⟩) (m + 1) ca] 22)) wr)) (fun _ i _ => m + 1 - (intOf i).toNat)
  case atStart => exact ⟨0, Nat.zero_le _, rfl, World.ownsRow_nil _ _ _ _, Below.refl _ _⟩
  case round =>
    obtain ⟨k, hk, rfl, HO, HB⟩ := hrel
    have hsz : w.heap.size + 1 ≤ wr.heap.size := by have := HB.out.size; simpa using this
    by_cases hlt : k < m + 1
    · have HO2 : Hid (∀ ob, (wr.alloc ob).ownsRow (w.heap.size + 1) 3 1 u3 k (intL k)) := fun ob => by
        obtain ⟨h1, h2⟩ := HO.out
        refine ⟨h1, ?_⟩
        rcases h2 with h2 | ⟨g, c, cur, hv, hbg, hg, hr⟩
        · exact .inl h2
        · exact .inr ⟨g, c, cur, hv, hbg, by rw [((Below.refl wr.heap.size wr).alloc (Nat.le_refl _) ob).block g (Array.getElem?_eq_some_iff.1 hg).1]; exact hg, hr⟩
      have HLT : Hid (∀ j, u3.ownBlock = some j → w.heap.size + 1 ≤ j) := fun j hj => (World.ownsRow.lt HO.out j hj).1
      clear HO
      go_wp2_with (at_builtin; refine wpList_append_own _ rfl _ _ 45 rfl (w.heap.size + 1) 3 i0 _ 1 8 Try.underlying45 hi0 hz0 hzs hzb rfl (by omega) _ k (intL k) rfl ?hown ⟨wr.heap.size, 0, none⟩ 1 1 [.int .i64 k] rfl rfl ?hnews (by simp [Value.oneCell']) ?h63 ?hbytes ?hbase ?_)
      case hown => exact HO2.out _
      case hnews => (intro j u hj; rw [Addr.add_lit]; exact (cell_top' rfl).trans (by simpa using hj))
      case h63 => (unfold maxLen; omega)
      case hbytes => omega
      case hbase => (simp; omega)
      intro v' w2 r1 r2 r3
      have R1 : Hid (w2.ownsRow (w.heap.size + 1) 3 1 v' (k + 1) (intL (k + 1))) := by rw [intL_succ]; exact r1
      have R2 : Hid (Below (w.heap.size + 1) (w.alloc (.cells #[.slice (some ⟨b, off, none⟩) (m + 1) ca] 22)) w2) :=
        (HB.out.alloc hsz _).grown r2 (by simp; omega) (fun j hj => HLT.out j hj)
      clear r1 r2 r3
      go_wp2_with fail
      exact ⟨⟨k + 1, by omega, by go_num, R1.out, R2.out⟩, by simp [intOf]; omega⟩
    · have hkn : k = m + 1 := by omega
      subst hkn
      obtain ⟨g, c, hu3, hbg, hcm, hcell, hfz⟩ : ∃ g c, u3 = .slice (some ⟨g, 0, none⟩) (m + 1) c ∧ w.heap.size + 1 ≤ g ∧ m + 1 ≤ c ∧ (∀ j, j < m + 1 → wr.cell? ⟨g, j, none⟩ = some (.int .i64 (j : Nat))) ∧ (∀ j, wr.frozen? ⟨g, j, none⟩ = false) := by
        have hO := HO.out
        rcases HO.out.2 with ⟨_, h0⟩ | ⟨g, c, cur, hv, hbg, hg, hnc, hcm, hcs, htake⟩
        · omega
        · subst hv
          refine ⟨g, c, rfl, hbg, hnc, fun j hj => ?_, fun j => World.ownsRow.frozenAt hO j⟩
          rw [World.ownsRow.cellAt hO j (by omega)]
          simp [intL, hj]
      subst hu3
      have hgw : g < wr.heap.size := World.block_lt_of_cell? wr ⟨g, 0, none⟩ (hcell 0 (by omega))
      have hlbx : wr.cell? ⟨w.heap.size, 0, none⟩ = some (.slice (some ⟨b, off, none⟩) (m + 1) ca) := by
        rw [HB.out.cell (p := ⟨w.heap.size, 0, none⟩) (by simp only; omega)]; exact cell_top' rfl
      have hrow : RRow wr b off rs := (HR.out.below ((Below.refl w.heap.size w).alloc (Nat.le_refl _) _) hlb).below HB.out (by omega)
      have hcon := Any.slices_SortFunc Try.sortI (encF m) (fun _ => rfl) (cfF rs m) (swoF rs m) 39 #[.pointer (some ⟨w.heap.size, 0, none⟩)] g 0 c (allF m) wr HEG.out (cmpF rs m w.heap.size b off ca g wr HN.out hrow hlbx (by omega) (by omega) (by omega)) (fun j hj => by
        rw [allF_size] at hj
        rw [allF_get m j hj, Nat.zero_add]
        exact ⟨hcell j hj, hfz j⟩) hgw (by rw [allF_size]; omega)
      have hcon2 : Calls Try.prog 38 #[.slice (some ⟨g, 0, none⟩) (m + 1) c, .func (.func 39) #[] #[.pointer (some ⟨w.heap.size, 0, none⟩)]] wr fun e w' => e = .returned (.tuple #[]) ∧ ∃ d' n os, PermIn 0 (allF m).size (allF m) d' ∧ SortedIn (ltOf (cfF rs m)) 0 (allF m).size d' ∧ w' = sortWorld (encF m) wr g 0 n d' os := by
        have h := hcon
        rw [show Value.slice (some ⟨g, 0, none⟩) (allF m).size c = Value.slice (some ⟨g, 0, none⟩) (m + 1) c by rw [allF_size]] at h
        exact h
      have HHH : Hid (Holds (encF m) wr g 0 (allF m)) := fun j hj => by
        rw [allF_size] at hj
        rw [allF_get m j hj, Nat.zero_add]
        exact ⟨hcell j hj, hfz j⟩
      clear hcon hcell hfz hrow HO
      go_wp2_with fail
      refine hcon2.mono ?_
      rintro e w2 ⟨rfl, d', nd, os, hp, hs, hw2⟩
      have HORD : Hid (IsOrd rs (d'.toList.map (·.val))) := isOrd_of HN.out hp hs
      have hds : d'.size = m + 1 := by rw [hp.1, allF_size]
      have HCT : Hid (∀ j, j < m + 1 → w2.cell? ⟨g, j, none⟩ = some (.int .i64 ((d'.toList.map (·.val)).getD j 0 : Nat))) := fun j hj => by
        have h1 := cell?_putRow (encF m) (Go.Sort.ahead wr nd) g 0 (allF m) d' (show Holds (encF m) (Go.Sort.ahead wr nd) g 0 (allF m) from HHH.out) hp.1 j (by omega)
        have h2 : w2.cell? ⟨g, 0 + j, none⟩ = (putRow (encF m) (Go.Sort.ahead wr nd) g 0 d').cell? ⟨g, 0 + j, none⟩ := by
          rw [hw2]
          exact cell?_grow _ _ _ (by
            have h3 := World.block_lt_of_cell? (putRow (encF m) (Go.Sort.ahead wr nd) g 0 d') ⟨g, 0 + j, none⟩ h1
            exact h3)
        rw [Nat.zero_add] at h1 h2
        rw [h2, h1, getElem!_pos d' j (by omega)]
        simp [encF, List.getD, hds, hj]
      have HBB : Hid (Below w.heap.size w w2) := by
        rw [hw2]
        exact (((Below.refl w.heap.size w).alloc (Nat.le_refl _) _).trans (HB.out.mono (Nat.le_succ _))).trans (below_sortWorld (by omega) (by omega))
      clear HHH hp hs hw2
      go_wp2_with fail
      go_ret
      exact ⟨g, c, d'.toList.map (·.val), rfl, HORD.out, HCT.out, hcm, by omega, HBB.out⟩

end Go.Proofs.Ytdcekfbejjjkkaa
