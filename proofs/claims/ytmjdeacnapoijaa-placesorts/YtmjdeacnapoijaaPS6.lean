
/- Names, sorted by how far they are, then by name: the order, and the library's sort. -/
import Derived.Test.YtmjdeacnapoijaaPSN
import Derived.Test.YtmjdeacnapoijaaShelfT
import Derived.Shelf.SlSortFunc.HeapSort
namespace Go.Proofs.Ytmjdeacnapoijaa
open Go.RowKit Go.Sort Go.Shelf Go.Lib Go.WideMaps Go.Maps

def nm (ns : List ByteArray) (x : Nat) : ByteArray := ns.getD x ByteArray.empty
def cfF (ns : List ByteArray) (d : ByteArray → Int) (m : Nat) (x y : Fin (m + 1)) : Int := cfN d (nm ns x.val) (nm ns y.val)
theorem ltF_is (ns : List ByteArray) (d : ByteArray → Int) (m : Nat) (x y : Fin (m + 1)) : ltOf (cfF ns d m) x y = ltN d (nm ns x.val) (nm ns y.val) := rfl
theorem swoF (ns : List ByteArray) (d : ByteArray → Int) (m : Nat) : SWO (ltOf (cfF ns d m)) where
  irrefl _ := (swoN d).irrefl _
  trans _ _ _ h1 h2 := (swoN d).trans _ _ _ h1 h2
  ntrans _ _ _ h1 h2 := (swoN d).ntrans _ _ _ h1 h2
def encN (ns : List ByteArray) (m : Nat) (x : Fin (m + 1)) : Value := .string (nm ns x.val)
def allF (m : Nat) : Array (Fin (m + 1)) := Array.ofFn (fun x => x)
theorem allF_size (m : Nat) : (allF m).size = m + 1 := by simp [allF]
theorem allF_get (m j : Nat) (hj : j < m + 1) : (allF m)[j]! = ⟨j, hj⟩ := by
  rw [getElem!_pos _ j (by rw [allF_size]; exact hj)]
  simp [allF]
theorem allF_names (ns : List ByteArray) (m : Nat) (hn : ns.length = m + 1) : (allF m).toList.map (fun x => nm ns x.val) = ns := by
  apply List.ext_getElem
  · simp [allF, hn]
  · intro j h1 h2
    rw [List.getElem_map, Array.getElem_toList]
    simp only [allF, Array.getElem_ofFn, nm]
    simp [List.getD, List.getElem?_eq_getElem h2]
theorem alloc_grow (W : World) (o : Obj) : (W.alloc o).drew = grow (W.drewN 1) #[o] := by
  simp only [grow, World.alloc, World.drew, World.drewN, Array.push_eq_append]

theorem sortWorld_block {α : Type} [Inhabited α] (enc : α → Value) (w : World) (b off q g : Nat) (dk : Array α) (os : Array Obj) (hne : g ≠ b) (hl : g < w.heap.size) : (sortWorld enc w b off q dk os).heap[g]? = w.heap[g]? := by
  unfold sortWorld
  rw [heap_grow_old _ _ (by simp [putRow, mapBlock, Go.Sort.ahead]; omega)]
  have : b ≠ g := fun e => hne e.symm
  simp [putRow, mapBlock, Go.Sort.ahead, Array.getElem?_modify, this]
theorem below_sortW {α : Type} [Inhabited α] (enc : α → Value) {B : Nat} {w : World} {g off n : Nat} {d : Array α} {os : Array Obj} (hg : B ≤ g) (hB : B ≤ w.heap.size) : Below B w (sortWorld enc w g off n d os) :=
  ⟨rfl, rfl, rfl, by simp [sortWorld, putRow, mapBlock, Go.Sort.ahead, grow], fun k hk => sortWorld_block enc w g off n k d os (by omega) (by omega)⟩

theorem cmpN (ns : List ByteArray) (m db kb g n gb : Nat) (D : DataW Unit) (w : World) (hsz : ∀ j, (nm ns j).size ≤ maxLen) (hd : w.cell? ⟨db, 0, none⟩ = some (.func (.func 34) #[] #[.pointer (some ⟨kb, 0, none⟩)])) (hk : w.cell? ⟨kb, 0, none⟩ = some (.map (some g))) (hm : w.ownsMap Try.prog 9 (plainElem (H := Unit) Try.prog 3) g n D) (h1 : db ≠ gb) (h2 : kb ≠ gb) (h3 : g ≠ gb) :
    CmpLays1 Try.prog 37 #[.pointer (some ⟨db, 0, none⟩)] (encN ns m) (cfF ns (dV D) m) gb 0 (allF m).size w := by
  intro q os dk hs x y
  have hl1 : db < w.heap.size := World.block_lt_of_cell? w _ hd
  have hl2 : kb < w.heap.size := World.block_lt_of_cell? w _ hk
  have hl3 : g < w.heap.size := hm.lt
  have c1 := (cell?_sortWorld_other (encN ns m) w gb 0 q dk os ⟨db, 0, none⟩ h1 hl1).trans hd
  have c2 := (cell?_sortWorld_other (encN ns m) w gb 0 q dk os ⟨kb, 0, none⟩ h2 hl2).trans hk
  have m1 : (sortWorld (encN ns m) w gb 0 q dk os).ownsMap Try.prog 9 (plainElem (H := Unit) Try.prog 3) g n D := by
    obtain ⟨es, cl, e1, e2⟩ := hm
    exact ⟨es, cl, (sortWorld_block (encN ns m) w gb 0 q g dk os h3 hl3).trans e1, e2⟩
  refine (cmp2_any _ _ db kb g n D _ (hsz x.val) (hsz y.val) c1 c2 m1).mono ?_
  rintro e w' ⟨rfl, rfl⟩
  exact ⟨rfl, 1, _, alloc_grow _ _⟩

theorem sorted_of {ns : List ByteArray} {d : ByteArray → Int} {m : Nat} {d' : Array (Fin (m + 1))} (hn : ns.length = m + 1) (hp : PermIn 0 (allF m).size (allF m) d') (hs : SortedIn (ltOf (cfF ns d m)) 0 (allF m).size d') :
    d'.toList.map (fun x => nm ns x.val) = So.insAll (ltN d) ns := by
  obtain ⟨hsz, _, hperm⟩ := hp
  rw [Array.extract_size, show d'.extract 0 (allF m).size = d' by rw [← hsz, Array.extract_size]] at hperm
  refine So.insAll_eq (swoN d) (ltN_anti d) ?_ ?_
  · have h := hperm.map (fun x => nm ns x.val)
    rw [allF_names ns m hn] at h
    exact h
  · have hds : d'.size = m + 1 := by rw [hsz, allF_size]
    refine List.pairwise_iff_getElem.2 fun i j hi hj hij => ?_
    have hj' : j < d'.size := by simpa using hj
    have hi' : i < d'.size := by omega
    have h := hs i j (Nat.zero_le _) hij (by rw [allF_size]; omega)
    rw [getElem!_pos d' j hj', getElem!_pos d' i hi', ltF_is] at h
    simpa using h

/-- SortFunc, of names: what a slice that is one's own holds is sorted in its place. -/
theorem sortF_any (ns : List ByteArray) (m db kb g n gb c : Nat) (D : DataW Unit) (w : World) (hn : ns.length = m + 1) (hsm : m < 1000) (hsz : ∀ j, (nm ns j).size ≤ maxLen) (hd : w.cell? ⟨db, 0, none⟩ = some (.func (.func 34) #[] #[.pointer (some ⟨kb, 0, none⟩)])) (hk : w.cell? ⟨kb, 0, none⟩ = some (.map (some g))) (hm : w.ownsMap Try.prog 9 (plainElem (H := Unit) Try.prog 3) g n D) (h1 : db ≠ gb) (h2 : kb ≠ gb) (h3 : g ≠ gb)
    (hcell : ∀ j, j < m + 1 → w.cell? ⟨gb, j, none⟩ = some (.string (nm ns j))) (hfz : ∀ j, w.frozen? ⟨gb, j, none⟩ = false) {B : Nat} (hB : B ≤ gb) :
    Calls Try.prog 36 #[.slice (some ⟨gb, 0, none⟩) (m + 1) c, .func (.func 37) #[] #[.pointer (some ⟨db, 0, none⟩)]] w fun e w' => e = .returned (.tuple #[]) ∧ TSl w' (.slice (some ⟨gb, 0, none⟩) (m + 1) c) (So.insAll (ltN (dV D)) ns) ∧ Below B w w' ∧ ∀ j, w'.frozen? ⟨gb, j, none⟩ = false := by
  have eg : ∀ args w, (callFunc 37 args).run Try.prog w = .ok (.enter 37 args) w := enters_of Try.func37 (by kernel_rfl) rfl
  have hgw : gb < w.heap.size := World.block_lt_of_cell? w ⟨gb, 0, none⟩ (hcell 0 (by omega))
  have HHH : Holds (encN ns m) w gb 0 (allF m) := fun j hj => by
    rw [allF_size] at hj
    rw [allF_get m j hj, Nat.zero_add]
    exact ⟨hcell j hj, hfz j⟩
  have hcon := Any.slices_SortFunc Try.sortS (encN ns m) (fun _ => rfl) (cfF ns (dV D) m) (swoF ns (dV D) m) 37 #[.pointer (some ⟨db, 0, none⟩)] gb 0 c (allF m) w eg (cmpN ns m db kb g n gb D w hsz hd hk hm h1 h2 h3) HHH hgw (by rw [allF_size]; omega)
  rw [show Value.slice (some ⟨gb, 0, none⟩) (allF m).size c = Value.slice (some ⟨gb, 0, none⟩) (m + 1) c by rw [allF_size]] at hcon
  refine hcon.mono ?_
  rintro e w2 ⟨rfl, d', nd, os, hp, hs, hw2⟩
  have hL := sorted_of hn hp hs
  have hds : d'.size = m + 1 := by rw [hp.1, allF_size]
  have hlen : (So.insAll (ltN (dV D)) ns).length = m + 1 := by rw [← hL]; simp [hds]
  refine ⟨rfl, ⟨some ⟨gb, 0, none⟩, c, by rw [hlen], fun j => ?_, .inr ⟨gb, 0, rfl, ?_, fun j hj => ?_⟩⟩, ?_, fun j => ?_⟩
  · by_cases hj : j < (So.insAll (ltN (dV D)) ns).length
    · have hm2 : (So.insAll (ltN (dV D)) ns).getD j ByteArray.empty ∈ So.insAll (ltN (dV D)) ns := by simp [List.getD, List.getElem?_eq_getElem hj]
      rw [← hL] at hm2
      obtain ⟨x, _, hx⟩ := List.mem_map.1 hm2
      rw [hL] at hx
      rw [← hx]; exact hsz x.val
    · rw [show (So.insAll (ltN (dV D)) ns).getD j ByteArray.empty = ByteArray.empty by simp [List.getD, List.getElem?_eq_none (by omega : (So.insAll (ltN (dV D)) ns).length ≤ j)]]
      decide
  · rw [hw2]
    exact Nat.lt_of_lt_of_le hgw (below_sortW (encN ns m) (B := 0) (Nat.zero_le _) (Nat.zero_le _)).size
  · have hj' : j < m + 1 := by rw [hlen] at hj; exact hj
    have e1 := cell?_putRow (encN ns m) (Go.Sort.ahead w nd) gb 0 (allF m) d' (show Holds (encN ns m) (Go.Sort.ahead w nd) gb 0 (allF m) from HHH) hp.1 j (by omega)
    have e2 : w2.cell? ⟨gb, 0 + j, none⟩ = (putRow (encN ns m) (Go.Sort.ahead w nd) gb 0 d').cell? ⟨gb, 0 + j, none⟩ := by
      rw [hw2]
      exact cell?_grow _ _ _ (World.block_lt_of_cell? (putRow (encN ns m) (Go.Sort.ahead w nd) gb 0 d') ⟨gb, 0 + j, none⟩ e1)
    rw [e2, e1, getElem!_pos d' j (by omega)]
    have e3 : (So.insAll (ltN (dV D)) ns).getD j ByteArray.empty = nm ns (d'[j]'(by omega)).val := by
      rw [← hL]; simp [List.getD, hds, hj']
    rw [e3]; rfl
  · rw [hw2]
    exact below_sortW (encN ns m) hB (by omega)
  · rw [hw2]
    exact (frozen?_grow _ _ ⟨gb, j, none⟩ (by simpa [putRow, mapBlock, Go.Sort.ahead] using hgw)).trans ((frozen?_putRow _ _ _ _ _ _).trans (hfz j))

end Go.Proofs.Ytmjdeacnapoijaa
