/- FU, FY, GN, GO, FJ, ShelfK, GP, GY -/
import Derived.Test.YtigffgjkakalfaaGreatDoorV15
import Derived.Test.YtigffgjkakalfaaGreatDoorV14
import Derived.Lib.ConvBytes
import Derived.Laws.IdiomStrings
import Derived.Test.YtigffgjkakalfaaGreatDoorV13
import Derived.Lib.SmallJoins
import Derived.Deep.RegionHeld3
import Derived.StillTactics
import Derived.Shelf.Strings.Builder1
import Derived.Shelf.Strings.Builder2
import Derived.Shelf.Strings.OnBuilder
import Derived.Shelf.Small.Bits
import Derived.Shelf.Small.Strs
import Derived.Shelf.Small.Wraps
import Derived.Shelf.Strconv.Itoa0
import Derived.Shelf.LaysM
import Derived.Shelf.Strconv.Clone
import Derived.Shelf.Strings.Search1
import Derived.Shelf.Strings.Search2
import Derived.Shelf.Strings.Search3
import Derived.Shelf.Strings.Cut
import Derived.Shelf.Strings.Count
import Derived.Shelf.Strings.Shaped
import Derived.Shelf.Strings.Split
import Derived.Shelf.Strings.SplitShaped
import Derived.Shelf.Unicode.DecodeSlow
import Derived.Ground.SlsfProg
import Derived.Shelf.SlSortCmp.Insertion
import Derived.Shelf.SlSortCmp.SiftDown1
import Derived.Shelf.SlSortCmp.HeapSort1
import Derived.Shelf.SlSortCmp.Insertion1
import Derived.Shelf.SlSortCmp.Median1
import Derived.Shelf.SlSortCmp.Pivot1
import Derived.Shelf.SlSortCmp.ReverseRange1
import Derived.Shelf.SlSortCmp.PartialInsertion1
import Derived.Shelf.SlSortCmp.PartitionEqual1
import Derived.Shelf.SlSortCmp.Partition1
import Derived.Shelf.SlSortCmp.Pdq1
import Derived.Shelf.SlSortCmp.Whole1
import Derived.Shelf.SlSortCmp.NoneTotal
import Derived.Test.YtigffgjkakalfaaGreatDoorProg
/- Write, of any message. -/
namespace Go.Proofs.YtigffgjkakalfaaGreatDoor
open Go.RowKit

def wrecL (r : Rc.Rec) : List UInt8 := wnameL r.name ++ (nbl r.typ 2 ++ (nbl 1 2 ++ (nbl r.lasts 4 ++ (nbl (wdatL r).length 2 ++ wdatL r))))
def wheadL (id code typ : Int) (ans cut : Bool) (name : ByteArray) (n : Nat) : List UInt8 :=
  nbl id 2 ++ (nbl (flg ans cut) 1 ++ (nbl code 1 ++ (nbl 1 2 ++ (nbl n 2 ++ (nbl 0 2 ++ (nbl 0 2 ++ (wnameL name ++ (nbl typ 2 ++ nbl 1 2))))))))
/-- A message's bytes. -/
def wallL (id code typ : Int) (ans cut : Bool) (name : ByteArray) (rs : List Rc.Rec) : List UInt8 := wheadL id code typ ans cut name rs.length ++ rs.flatMap wrecL
theorem wrec_cells (r : Rc.Rec) : wrec r = Lib.byteCells (wrecL r) := by
  unfold wrec wrecL
  rw [wdat_cells]
  simp only [cells_app, nbs_cells, wname_cells, Lib.byteCells_length]
theorem recs_cells : ∀ (rs : List Rc.Rec), rs.flatMap wrec = Lib.byteCells (rs.flatMap wrecL)
  | [] => rfl
  | r :: t => by rw [List.flatMap_cons, List.flatMap_cons, cells_app, wrec_cells, recs_cells t]
theorem wall_cells (id code typ : Int) (ans cut : Bool) (name : ByteArray) (rs : List Rc.Rec) : whead id code typ ans cut name rs.length ++ rs.flatMap wrec = Lib.byteCells (wallL id code typ ans cut name rs) := by
  unfold whead wallL wheadL
  simp only [cells_app, nbs_cells, wname_cells, recs_cells]
theorem wallL_ne (id code typ : Int) (ans cut : Bool) (name : ByteArray) (rs : List Rc.Rec) : wallL id code typ ans cut name rs ≠ [] := by
  unfold wallL wheadL
  simp [nbl]
theorem chkRs_all : ∀ {rs : List Rc.Rec}, chkRs rs = 0 → ∀ r ∈ rs, chkRec r = 0
  | [], _, _, h => by cases h
  | x :: t, h0, r, hr => by
    unfold chkRs at h0
    split at h0
    · rename_i h1
      rcases List.mem_cons.1 hr with rfl | hr
      · exact h1
      · exact chkRs_all h0 r hr
    · rename_i h1
      exact absurd h0 h1
theorem chkMsg_facts {id code typ : Int} {name : ByteArray} {rs : List Rc.Rec} (h : chkMsg id code typ name rs = 0) : rs.length ≤ 20 ∧ chkN name = 0 ∧ ∀ r ∈ rs, chkRec r = 0 := by
  unfold chkMsg at h
  split at h
  · omega
  split at h
  · omega
  rename_i h2
  split at h
  · omega
  rename_i h3
  split at h
  · omega
  exact ⟨by omega, by omega, chkRs_all h⟩

set_option maxHeartbeats 1600000 in
set_option maxRecDepth 100000 in
theorem written_any (id code typ : Int) (ans cut : Bool) (name : ByteArray) (rs : List Rc.Rec) (pa : Option Addr) (cap : Nat) (w : World) (hm : ML w) (hn : chkN name = 0) (h20 : rs.length ≤ 20) (hcs : ∀ r ∈ rs, chkRec r = 0)
    (hrow : ∀ W, Below w.heap.size w W → rs = [] ∨ ∃ b off, pa = some ⟨b, off, none⟩ ∧ b < W.heap.size ∧ Rc.Row W b off rs) :
    Calls Tryz.prog 53 #[.agg #[.int .i64 id, .bool ans, .bool cut, .int .i64 code, .string name, .int .i64 typ, .slice pa rs.length cap]] w fun e w' => e = .returned (.string ⟨(wallL id code typ ans cut name rs).toArray⟩) ∧ Below w.heap.size w w' := by
  have HMS : Hid (∀ W, ML W → IsW (w.heap.size + 1) (w.heap.size + 1) [] W → Below w.heap.size w W → w.heap.size + 1 ≤ W.heap.size → Calls Tryz.prog 84 #[.pointer (some ⟨w.heap.size + 1, 0, none⟩), .agg #[.int .i64 id, .bool ans, .bool cut, .int .i64 code, .string name, .int .i64 typ, .slice pa rs.length cap]] W fun e w' => e = .returned (.tuple #[]) ∧ IsW (w.heap.size + 1) (w.heap.size + 1) ([] ++ (whead id code typ ans cut name rs.length ++ rs.flatMap wrec)) w' ∧ Kp (w.heap.size + 1) (w.heap.size + 1) W w') := fun W h1 h2 h3 h4 => message_any (w.heap.size + 1) (w.heap.size + 1) [] id code typ ans cut name rs pa cap W h1 h2 (by simp) hn h4 (by omega) h20 hcs (fun W2 hW2 => hrow W2 (h3.trans (hW2.mono (by omega))))
  clear hrow hcs h20 hn
  generalize hln : rs.length = n at *
  have HLN : Hid (rs.length = n) := hln
  clear hln
  go_enter Tryz.func53, Tryz.ntmps53
  go_wp2_with fail
  obtain ⟨w0, hw0⟩ : ∃ w0, w0 = (w.alloc (.cells #[.int .i64 id, .bool ans, .bool cut, .int .i64 code, .string name, .int .i64 typ, .slice pa n cap] 38)).alloc (.cells #[.pointer none, .slice none 0 0] 127) := ⟨_, rfl⟩
  rw [← hw0]
  have hsz : w0.heap.size = w.heap.size + 2 := by rw [hw0]; simp
  have hgb : w0.heap[w.heap.size + 1]? = some (.cells #[.pointer none, .slice none 0 0] 127 (0, 0)) := by
    have h := heap_alloc_new (w.alloc (.cells #[.int .i64 id, .bool ans, .bool cut, .int .i64 code, .string name, .int .i64 typ, .slice pa n cap] 38)) (.cells #[.pointer none, .slice none 0 0] 127)
    rw [hw0]
    simpa using h
  have HB0 : Hid (Below w.heap.size w w0) := (show Below _ _ _ by rw [hw0]; exact ((Below.refl _ _).alloc (Nat.le_refl _) _).alloc (by simp) _)
  have HI0 : Hid (IsW (w.heap.size + 1) (w.heap.size + 1) [] w0) := (show IsW _ _ _ _ from .inl ⟨Nat.le_refl _, .slice none 0 0, hgb, World.ownsRow_nil w0 _ 5 1, by simp [Value.ownBlock]⟩)
  have HM0 : Hid (ML w0) := (show ML w0 from hm.below HB0.out)
  clear hw0 hgb hm
  refine (HMS.out w0 HM0.out HI0.out HB0.out (by omega)).mono ?_
  rintro e w1 ⟨rfl, h1, hb1⟩
  have HI1 : Hid (IsW (w.heap.size + 1) (w.heap.size + 1) (Lib.byteCells (wallL id code typ ans cut name rs)) w1) := (show IsW _ _ _ _ by rw [← wall_cells, HLN.out]; simpa using h1)
  have HB1 : Hid (Below w.heap.size w w1) := HB0.out.trans (hb1.bel.mono (by omega))
  have hz1 := HB1.out.size
  have hz2 := hb1.size
  clear h1 hb1
  go_wp2_with fail
  refine (string_any (w.heap.size + 1) (w.heap.size + 1) _ w1 HI1.out (wallL_ne _ _ _ _ _ _ _)).mono ?_
  rintro e w2 ⟨rfl, hb2⟩
  have HB2 : Hid (Below w.heap.size w w2) := HB1.out.trans (hb2.mono (by omega))
  clear hb2
  go_wp2_with fail
  go_ret
  exact ⟨rfl, HB2.out⟩

end Go.Proofs.YtigffgjkakalfaaGreatDoor

/- The document's Number. -/
namespace Go.Proofs.YtigffgjkakalfaaGreatDoor
open Go.RowKit

def numB (n : Int) (k : Nat) : ByteArray := ⟨(nbl n k).toArray⟩

theorem conv_one (W : World) (x : UInt8) : (convert 117 9 (.slice (some ⟨W.heap.size, 0, none⟩) 1 1)).run Tryz.prog (W.alloc (.cells #[.int .u8 x.toNat] 5)) = .ok (.string ⟨#[x]⟩) (W.alloc (.cells #[.int .u8 x.toNat] 5)) := by
  have h := run_convert_bytes_back (P := Tryz.prog) (W.alloc (.cells #[.int .u8 x.toNat] 5)) 117 9 5 ⟨W.heap.size, 0, none⟩ 1 [x] Tryz.underlying117 Tryz.underlying5 Tryz.underlying9 (fun j hj => by
    have hj0 : j = 0 := by simpa using hj
    subst hj0
    exact cellsAt (heap_alloc_new W (.cells #[.int .u8 x.toNat] 5)) 0)
  exact h

theorem numB_succ (n : Int) (k : Nat) : (⟨#[(bt n k).toNat.toUInt8]⟩ : ByteArray) ++ numB n k = numB n (k + 1) := by
  apply ba_ext
  simp [numB, nbl]
theorem nbl_len (n : Int) : ∀ k, (nbl n k).length = k
  | 0 => rfl
  | k + 1 => by simp [nbl, nbl_len n k]
theorem numB_size (n : Int) (k : Nat) : (numB n k).size = k := by
  have h := nbl_len n k
  simp [numB, ByteArray.size, h]
theorem bt_step {n m : Int} {j : Nat} (hm : m = n / 2 ^ (8 * j)) : m % 256 = (((bt n j).toNat.toUInt8).toNat : Int) := by
  have hr := bt_rng n j
  have h2 : bt n j = m % 256 := by
    unfold bt
    rw [show (8 * (j : Int)).toNat = 8 * j by omega, ← hm, IntKind.wrap_u8]
  rw [h2]
  have h3 : (m % 256).toNat < 256 := by omega
  have h4 : ((m % 256).toNat.toUInt8).toNat = (m % 256).toNat := by
    simp [Nat.toUInt8]
    omega
  rw [h4]
  omega

end Go.Proofs.YtigffgjkakalfaaGreatDoor

/- What stands where in a text. -/
namespace Go.Proofs.YtigffgjkakalfaaGreatDoor
open Go.RowKit

/-- These bytes stand in t from a on. -/
def AtW (t : ByteArray) (a : Nat) (l : List UInt8) : Prop := ∃ p q, t.data.toList = p ++ (l ++ q) ∧ p.length = a
theorem AtW.left {t : ByteArray} {a : Nat} {l m : List UInt8} (h : AtW t a (l ++ m)) : AtW t a l := by
  obtain ⟨p, q, h1, h2⟩ := h
  exact ⟨p, m ++ q, by rw [h1, List.append_assoc], h2⟩
theorem AtW.right {t : ByteArray} {a : Nat} {l m : List UInt8} (h : AtW t a (l ++ m)) : AtW t (a + l.length) m := by
  obtain ⟨p, q, h1, h2⟩ := h
  exact ⟨p ++ l, q, by rw [h1]; simp, by rw [List.length_append, h2]⟩
theorem AtW.size {t : ByteArray} {a : Nat} {l : List UInt8} (h : AtW t a l) : a + l.length ≤ t.size := by
  obtain ⟨p, q, h1, h2⟩ := h
  have h3 : t.size = t.data.toList.length := by simp
  rw [h3, h1]
  simp
  omega
theorem AtW.get {t : ByteArray} {a : Nat} {l : List UInt8} (h : AtW t a l) (k : Nat) (hk : k < l.length) : t.data[a + k]? = some l[k] := by
  obtain ⟨p, q, h1, h2⟩ := h
  have h3 : t.data[a + k]? = t.data.toList[a + k]? := by simp
  rw [h3, h1, List.getElem?_append_right (by omega), show a + k - p.length = k by omega, List.getElem?_append_left hk, List.getElem?_eq_getElem hk]
theorem AtW.extract {t l : ByteArray} {a : Nat} (h : AtW t a l.data.toList) : t.extract a (a + l.size) = l := by
  obtain ⟨p, q, h1, h2⟩ := h
  apply ba_ext
  have h3 : (t.extract a (a + l.size)).data.toList = (t.data.toList.drop a).take l.size := by simp
  rw [h3, h1, show (p ++ (l.data.toList ++ q)).drop a = l.data.toList ++ q by rw [← h2]; simp]
  have h4 : l.size = l.data.toList.length := by simp
  rw [h4]
  simp

theorem nbl_at (n : Int) : ∀ (j k : Nat) (h : k < j), (nbl n j)[k]'(by rw [nbl_len]; exact h) = (bt n (j - 1 - k)).toNat.toUInt8
  | 0, k, h => by omega
  | j + 1, 0, _ => by simp [nbl]
  | j + 1, k + 1, h => by
    have ih := nbl_at n j k (by omega)
    simp only [nbl, List.getElem_cons_succ]
    rw [ih, show j + 1 - 1 - (k + 1) = j - 1 - k by omega]
theorem rnum_nbl {t : ByteArray} {a : Nat} {n : Int} (h0 : 0 ≤ n) : ∀ (k j : Nat), k ≤ j → AtW t a (nbl n j) → n < 256 ^ j → (rnum t a k : Int) = n / 256 ^ (j - k)
  | 0, j, _, _, hn => by
    simp only [rnum]
    rw [Int.ediv_eq_zero_of_lt h0 (by simpa using hn)]
    rfl
  | k + 1, j, hk, h, hn => by
    have ih := rnum_nbl h0 k j (by omega) h hn
    have hg := h.get k (by rw [nbl_len]; omega)
    simp only [rnum, hg, Option.getD_some]
    have hb : ((nbl n j)[k]'(by rw [nbl_len]; omega)) = (bt n (j - 1 - k)).toNat.toUInt8 := nbl_at n j k (by omega)
    rw [hb, Int.natCast_add, Int.natCast_mul, ih]
    have e1 := bt_step (n := n) (m := n / 2 ^ (8 * (j - 1 - k))) (j := j - 1 - k) rfl
    rw [← e1]
    have e2 : (2 : Int) ^ (8 * (j - 1 - k)) = 256 ^ (j - (k + 1)) := by
      rw [show j - 1 - k = j - (k + 1) by omega, Int.pow_mul]
      rfl
    have e3 : (256 : Int) ^ (j - k) = 256 ^ (j - (k + 1)) * 256 := by
      rw [show j - k = (j - (k + 1)) + 1 by omega, Int.pow_succ]
    rw [e2, e3, ← Int.ediv_ediv_of_nonneg (Int.le_of_lt (Int.pow_pos (by decide)))]
    have := Int.mul_ediv_add_emod (n / 256 ^ (j - (k + 1))) 256
    omega

end Go.Proofs.YtigffgjkakalfaaGreatDoor

/- A name is read as it was written. -/
namespace Go.Proofs.YtigffgjkakalfaaGreatDoor
open Go.RowKit

theorem rnum_is {t : ByteArray} {a : Nat} {n : Int} {k : Nat} (h0 : 0 ≤ n) (hn : n < 256 ^ k) (h : AtW t a (nbl n k)) : (rnum t a k : Int) = n := by
  have h1 := rnum_nbl h0 k k (Nat.le_refl _) h hn
  rw [h1, Nat.sub_self, Int.pow_zero, Int.ediv_one]
theorem stand_of {t : ByteArray} : ∀ (ls : List ByteArray) (a : Nat), (∀ l ∈ ls, labB l = true) → AtW t a (ls.flatMap wlabL ++ nbl 0 1) → Stand t a ls ∧ behind a ls = a + (ls.flatMap wlabL).length
  | [], a, _, h => by
    have h1 : AtW t a (nbl 0 1) := h
    have h2 := h1.size
    have h3 := rnum_is (n := 0) (by decide) (by decide) h1
    rw [nbl_len] at h2
    exact ⟨⟨h2, by omega⟩, rfl⟩
  | l :: r, a, hl, h => by
    have h30 := lab_size (hl l List.mem_cons_self)
    have h1 : AtW t a (nbl l.size 1 ++ (l.data.toList ++ (r.flatMap wlabL ++ nbl 0 1))) := by
      have e : (l :: r).flatMap wlabL ++ nbl 0 1 = nbl l.size 1 ++ (l.data.toList ++ (r.flatMap wlabL ++ nbl 0 1)) := by simp [wlabL]
      rwa [e] at h
    have h2 := rnum_is (n := l.size) (by omega) (by omega) h1.left
    have h3 := h1.right
    rw [nbl_len] at h3
    have h4 := h3.left.size
    have h5 : l.data.toList.length = l.size := by simp
    rw [h5] at h4
    have h6 := h3.right
    rw [h5] at h6
    obtain ⟨i1, i2⟩ := stand_of r (a + 1 + l.size) (fun x hx => hl x (List.mem_cons_of_mem _ hx)) h6
    refine ⟨⟨by omega, h4, h3.left.extract, i1⟩, ?_⟩
    show behind (a + 1 + l.size) r = _
    rw [i2]
    have h7 : (wlabL l).length = 1 + l.size := by simp [wlabL, nbl_len]
    rw [List.flatMap_cons, List.length_append, h7]
    omega
theorem labs_ok {s : ByteArray} (h : chkN s = 0) : (∀ l ∈ labs s, labB l = true) ∧ (labs s).length ≤ 8 ∧ s.size ≤ 1000 := by
  refine ⟨?_, (chk_facts h).1, ?_⟩
  · rw [chkN_labs] at h
    split at h
    · omega
    · rename_i h1
      have h3 : (labs s).all labB = true := by simpa using h1
      exact fun l hl => List.all_eq_true.1 h3 l hl
  · by_cases h0 : s.size = 0
    · omega
    · unfold chkN at h
      rw [if_neg h0] at h
      split at h
      · omega
      · split at h <;> omega
theorem labs_join (s : ByteArray) : mk (jn ((labs s).map bts)) = s := by
  unfold labs
  split
  · rename_i h0
    have := isempty h0
    subst this
    rfl
  · have e : ((spl s.data.toList).map mk).map bts = spl s.data.toList := by
      rw [List.map_map]
      have : (bts ∘ mk) = id := by funext x; exact data_mk x
      rw [this, List.map_id]
    rw [e, jn_spl, mk_data]

/-- A name is read. -/
theorem rname_any (g a : Nat) (s t : ByteArray) (w : World) (h : IsR g t a w) (hs : t.size ≤ 1000) (hn : chkN s = 0) (hat : AtW t a (wnameL s)) :
    Calls Tryz.prog 66 #[.pointer (some ⟨g, 0, none⟩)] w fun e w' => e = .returned (.string s) ∧ Hid (IsR g t (a + (wnameL s).length) w') ∧ Hid (Rd g w w') := by
  obtain ⟨h1, h2, h3⟩ := labs_ok hn
  obtain ⟨i1, i2⟩ := stand_of (labs s) a h1 hat
  have hj : (jn ((labs s).map bts)).length = s.size := by
    have h4 := congrArg (fun x : ByteArray => x.size) (labs_join s)
    simp only [mk_size] at h4
    exact h4
  have hw : (wnameL s).length = ((labs s).flatMap wlabL).length + 1 := by
    unfold wnameL
    rw [List.length_append, nbl_len]
  have h := name_ok g a (labs s) t w h hs i1 h1 h2 (by omega)
  rw [labs_join, i2] at h
  rw [hw, ← Nat.add_assoc]
  exact h

end Go.Proofs.YtigffgjkakalfaaGreatDoor

/- A message without records is read. -/
namespace Go.Proofs.YtigffgjkakalfaaGreatDoor
open Go.RowKit Go.Lib

/-- What lies there while a message is read: the reader, what was there before, the box of the answer and the message's box behind it. -/
structure St (g : Nat) (t : ByteArray) (w : World) (T : TypeId) (zs : Array Value) (a : Nat) (cs : Array Value) (W : World) : Prop where
  isR : IsR g t a W
  rd : Rd g w W
  qx : W.heap[w.heap.size]? = some (.cells zs T (0, 0))
  bx : W.heap[w.heap.size + 1]? = some (.cells cs T (0, 0))
  lt : g < w.heap.size

theorem St.call {g a b : Nat} {t : ByteArray} {w W W' : World} {T : TypeId} {zs cs : Array Value} (h : St g t w T zs a cs W) (h1 : Hid (IsR g t b W')) (h2 : Hid (Rd g W W')) : St g t w T zs b cs W' :=
  ⟨h1.out, h.rd.trans h2.out, (h2.out.block _ (Array.getElem?_eq_some_iff.1 h.qx).1 (by have := h.lt; omega)).trans h.qx, (h2.out.block _ (Array.getElem?_eq_some_iff.1 h.bx).1 (by have := h.lt; omega)).trans h.bx, h.lt⟩
theorem St.keep {g a : Nat} {t : ByteArray} {w W W' : World} {T : TypeId} {zs cs : Array Value} (h : St g t w T zs a cs W) (h1 : W.Extends W') : St g t w T zs a cs W' :=
  h.call (h.isR.ext h1) (Rd.ext h1 : Rd g W W')
theorem St.store {g a : Nat} {t : ByteArray} {w W : World} {T : TypeId} {zs cs : Array Value} (h : St g t w T zs a cs W) (i : Nat) (v : Value) : St g t w T zs a (cs.setIfInBounds i v) (W.setCell ⟨w.heap.size + 1, i, none⟩ v) where
  isR := ⟨(World.cell?_setCell_other _ _ _ _ (by have := h.lt; intro e; simp at e)).trans h.isR.c0, (World.cell?_setCell_other _ _ _ _ (by have := h.lt; intro e; simp at e)).trans h.isR.c1, by simpa using h.isR.hz, by simpa using h.isR.hg⟩
  rd := ⟨h.rd.os, h.rd.tape, h.rd.output, by simpa using h.rd.size, fun k hk hg => (Below.heap_setCell W _ v k (by simp; omega)).trans (h.rd.block k hk hg)⟩
  qx := (Below.heap_setCell W _ v _ (by simp)).trans h.qx
  bx := Joins.block_setCell h.bx v
  lt := h.lt
theorem St.cell {g a : Nat} {t : ByteArray} {w W : World} {T : TypeId} {zs cs : Array Value} (h : St g t w T zs a cs W) (i : Nat) : W.cell? ⟨w.heap.size + 1, i, none⟩ = cs[i]? := cellsAt h.bx i
theorem St.free {g a : Nat} {t : ByteArray} {w W : World} {T : TypeId} {zs cs : Array Value} (h : St g t w T zs a cs W) (i : Nat) : W.frozen? ⟨w.heap.size + 1, i, none⟩ = false := by simp [World.frozen?, h.bx]
theorem St.qcell {g a : Nat} {t : ByteArray} {w W : World} {T : TypeId} {zs cs : Array Value} (h : St g t w T zs a cs W) (i : Nat) : W.cell? ⟨w.heap.size, i, none⟩ = zs[i]? := cellsAt h.qx i
theorem St.qfree {g a : Nat} {t : ByteArray} {w W : World} {T : TypeId} {zs cs : Array Value} (h : St g t w T zs a cs W) (i : Nat) : W.frozen? ⟨w.heap.size, i, none⟩ = false := by simp [World.frozen?, h.qx]
theorem Rd.put {g b : Nat} {w W : World} (h : Rd g w W) (i : Nat) (v : Value) (hb : w.heap.size ≤ b) : Rd g w (W.setCell ⟨b, i, none⟩ v) :=
  ⟨h.os, h.tape, h.output, by simpa using h.size, fun k hk hg => (Below.heap_setCell W _ v k (by simp; omega)).trans (h.block k hk hg)⟩
abbrev zmsg : Array Value := #[.int .i64 0, .bool false, .bool false, .int .i64 0, .string ⟨#[]⟩, .int .i64 0, .slice none 0 0]

set_option maxHeartbeats 1600000 in
set_option maxRecDepth 100000 in
theorem rmessage_none (g id code typ p : Nat) (ls : List ByteArray) (t : ByteArray) (w : World) (h : IsR g t 0 w) (hs : t.size ≤ 1000)
    (e0 : rnum t 0 2 = id) (e2 : rnum t 2 1 = 0) (e3 : rnum t 3 1 = code) (e4 : rnum t 4 2 = 1) (e6 : rnum t 6 2 = 0) (e8 : rnum t 8 2 = 0) (e10 : rnum t 10 2 = 0) (hst : Stand t 12 ls) (hlab : ∀ l ∈ ls, labB l = true) (hn : ls.length ≤ 8) (hz : (jn (ls.map bts)).length ≤ 100000) (hp : behind 12 ls + 1 = p) (ep : rnum t p 2 = typ) (eq : rnum t (p + 2) 2 = 1) (h12 : 12 ≤ p) (hsz : p + 4 = t.size) :
    Calls Tryz.prog 32 #[.pointer (some ⟨g, 0, none⟩)] w fun e w' => e = .returned (msgV id code typ false false (mk (jn (ls.map bts)))) ∧ Hid (Rd g w w') := by
  have HN : Hid (∀ W, IsR g t 12 W → Calls Tryz.prog 66 #[.pointer (some ⟨g, 0, none⟩)] W fun e w' => e = .returned (.string (mk (jn (ls.map bts)))) ∧ Hid (IsR g t p w') ∧ Hid (Rd g W w')) := fun W hW => by
    subst hp
    exact name_ok g 12 ls t W hW hs hst hlab hn hz
  have HI : Hid (IsR g t 0 w) := h
  have hg := h.hg
  have E0 : Hid (rnum t 0 2 = id) := e0
  have E2 : Hid (rnum t 2 1 = 0) := e2
  have E3 : Hid (rnum t 3 1 = code) := e3
  have E4 : Hid (rnum t 4 2 = 1) := e4
  have E6 : Hid (rnum t 6 2 = 0) := e6
  have E8 : Hid (rnum t 8 2 = 0) := e8
  have E10 : Hid (rnum t 10 2 = 0) := e10
  have EP : Hid (rnum t p 2 = typ) := ep
  have EQ : Hid (rnum t (p + 2) 2 = 1) := eq
  have HZ : Hid (p + 4 = t.size) := hsz
  have hp1 : p + 4 ≤ t.size := Nat.le_of_eq hsz
  clear h e0 e2 e3 e4 e6 e8 e10 ep eq hst hlab hn hz hp hsz
  generalize mk (jn (ls.map bts)) = R at *
  go_enter Tryz.func32, Tryz.ntmps32
  go_wp2_with fail
  obtain ⟨w0, hw0⟩ : ∃ w0, w0 = (w.alloc (.cells zmsg 38)).alloc (.cells zmsg 38) := ⟨_, rfl⟩
  rw [← hw0]
  have S0 : Hid (St g t w 38 zmsg 0 zmsg w0) := (show St _ _ _ _ _ _ _ _ by
    have hx : w.Extends w0 := by rw [hw0]; exact ((World.Extends.refl w).alloc _).alloc _
    refine ⟨HI.out.ext hx, Rd.ext hx, ?_, ?_, hg⟩
    · rw [hw0]
      exact (Lib.alloc_old _ _ _ (by simp)).trans (heap_alloc_new w _)
    · rw [hw0]
      have := heap_alloc_new (w.alloc (.cells zmsg 38)) (.cells zmsg 38)
      simpa using this)
  clear hw0
  refine (number_r g 0 2 t w0 S0.out.isR hs (by omega) (by omega)).mono ?_
  rintro e w1 ⟨rfl, h1, h2⟩
  rw [E0.out]
  have S1 : Hid (St g t w 38 zmsg 2 zmsg w1) := S0.out.call h1 h2
  have z1 := S1.out.free 0
  have c1 : w1.cell? ⟨w.heap.size + 1, 0, none⟩ = some (.int .i64 0) := S1.out.cell 0
  clear h1 h2 S0
  go_wp2_with fail
  have S2 : Hid (St g t w 38 zmsg 2 #[.int .i64 id, .bool false, .bool false, .int .i64 0, .string ⟨#[]⟩, .int .i64 0, .slice none 0 0] (w1.setCell ⟨w.heap.size + 1, 0, none⟩ (.int .i64 id))) := S1.out.store 0 (.int .i64 id)
  refine (number_r g 2 1 t _ S2.out.isR hs (by omega) (by omega)).mono ?_
  rintro e w2 ⟨rfl, h1, h2⟩
  rw [E2.out]
  have S3 : Hid (St g t w 38 zmsg 3 #[.int .i64 id, .bool false, .bool false, .int .i64 0, .string ⟨#[]⟩, .int .i64 0, .slice none 0 0] w2) := S2.out.call h1 h2
  have z1 := S3.out.free 1
  have z2 := S3.out.free 2
  have c0 : w2.cell? ⟨w.heap.size + 1, 0, none⟩ = some (.int .i64 id) := S3.out.cell 0
  have c1 : w2.cell? ⟨w.heap.size + 1, 1, none⟩ = some (.bool false) := S3.out.cell 1
  have c2 : w2.cell? ⟨w.heap.size + 1, 2, none⟩ = some (.bool false) := S3.out.cell 2
  have c3 : w2.cell? ⟨w.heap.size + 1, 3, none⟩ = some (.int .i64 0) := S3.out.cell 3
  have c4 : w2.cell? ⟨w.heap.size + 1, 4, none⟩ = some (.string ⟨#[]⟩) := S3.out.cell 4
  have c5 : w2.cell? ⟨w.heap.size + 1, 5, none⟩ = some (.int .i64 0) := S3.out.cell 5
  have c6 : w2.cell? ⟨w.heap.size + 1, 6, none⟩ = some (.slice none 0 0) := S3.out.cell 6
  have hb1 : bits .and .i64 0 128 = 0 := by decide
  have hb2 : bits .and .i64 0 2 = 0 := by decide
  clear h1 h2 S1 S2
  go_wp2_with fail
  have S4 : Hid (St g t w 38 zmsg 3 #[.int .i64 id, .bool false, .bool false, .int .i64 0, .string ⟨#[]⟩, .int .i64 0, .slice none 0 0] ((w2.setCell ⟨w.heap.size + 1, 1, none⟩ (.bool false)).setCell ⟨w.heap.size + 1, 2, none⟩ (.bool false))) := (S3.out.store 1 (.bool false)).store 2 (.bool false)
  refine (flags_any id 0 0 false false ⟨#[]⟩ _).mono ?_
  rintro e w3 ⟨rfl, o, hw3⟩
  rw [show flg false false = 0 from rfl]
  have S5 : Hid (St g t w 38 zmsg 3 #[.int .i64 id, .bool false, .bool false, .int .i64 0, .string ⟨#[]⟩, .int .i64 0, .slice none 0 0] w3) := (show St _ _ _ _ _ _ _ _ by rw [hw3]; exact S4.out.keep ((World.Extends.refl _).alloc _))
  clear hw3 z1 z2 c0 c1 c2 c3 c4 c5 c6 S3 S4
  go_wp2_with fail
  refine (need_ok _ _).mono ?_
  rintro e w4 ⟨rfl, hw4⟩
  subst hw4
  go_wp2_with fail
  refine (number_r g 3 1 t _ S5.out.isR hs (by omega) (by omega)).mono ?_
  rintro e w5 ⟨rfl, h1, h2⟩
  rw [E3.out]
  have S6 : Hid (St g t w 38 zmsg 4 #[.int .i64 id, .bool false, .bool false, .int .i64 0, .string ⟨#[]⟩, .int .i64 0, .slice none 0 0] w5) := S5.out.call h1 h2
  have z3 := S6.out.free 3
  have c3 : w5.cell? ⟨w.heap.size + 1, 3, none⟩ = some (.int .i64 0) := S6.out.cell 3
  clear h1 h2 S5
  go_wp2_with fail
  have S7 : Hid (St g t w 38 zmsg 4 #[.int .i64 id, .bool false, .bool false, .int .i64 code, .string ⟨#[]⟩, .int .i64 0, .slice none 0 0] (w5.setCell ⟨w.heap.size + 1, 3, none⟩ (.int .i64 code))) := S6.out.store 3 (.int .i64 code)
  refine (expect_r g 4 2 1 t _ S7.out.isR hs (by omega) (by omega) E4.out).mono ?_
  rintro e w6 ⟨rfl, h1, h2⟩
  have S8 : Hid (St g t w 38 zmsg 6 #[.int .i64 id, .bool false, .bool false, .int .i64 code, .string ⟨#[]⟩, .int .i64 0, .slice none 0 0] w6) := S7.out.call h1 h2
  clear h1 h2 S6 S7 z3 c3
  go_wp2_with fail
  refine (number_r g 6 2 t _ S8.out.isR hs (by omega) (by omega)).mono ?_
  rintro e w7 ⟨rfl, h1, h2⟩
  rw [E6.out]
  have S9 : Hid (St g t w 38 zmsg 8 #[.int .i64 id, .bool false, .bool false, .int .i64 code, .string ⟨#[]⟩, .int .i64 0, .slice none 0 0] w7) := S8.out.call h1 h2
  clear h1 h2 S8
  go_wp2_with fail
  refine (expect_r g 8 2 0 t _ S9.out.isR hs (by omega) (by omega) E8.out).mono ?_
  rintro e w8 ⟨rfl, h1, h2⟩
  have SA : Hid (St g t w 38 zmsg 10 #[.int .i64 id, .bool false, .bool false, .int .i64 code, .string ⟨#[]⟩, .int .i64 0, .slice none 0 0] w8) := S9.out.call h1 h2
  clear h1 h2 S9
  go_wp2_with fail
  refine (expect_r g 10 2 0 t _ SA.out.isR hs (by omega) (by omega) E10.out).mono ?_
  rintro e w9 ⟨rfl, h1, h2⟩
  have SB : Hid (St g t w 38 zmsg 12 #[.int .i64 id, .bool false, .bool false, .int .i64 code, .string ⟨#[]⟩, .int .i64 0, .slice none 0 0] w9) := SA.out.call h1 h2
  clear h1 h2 SA
  go_wp2_with fail
  refine (HN.out _ SB.out.isR).mono ?_
  rintro e wa ⟨rfl, h1, h2⟩
  have SC : Hid (St g t w 38 zmsg p #[.int .i64 id, .bool false, .bool false, .int .i64 code, .string ⟨#[]⟩, .int .i64 0, .slice none 0 0] wa) := SB.out.call h1 h2
  have z4 := SC.out.free 4
  have c4 : wa.cell? ⟨w.heap.size + 1, 4, none⟩ = some (.string ⟨#[]⟩) := SC.out.cell 4
  clear h1 h2 SB
  go_wp2_with fail
  have SD : Hid (St g t w 38 zmsg p #[.int .i64 id, .bool false, .bool false, .int .i64 code, .string R, .int .i64 0, .slice none 0 0] (wa.setCell ⟨w.heap.size + 1, 4, none⟩ (.string R))) := SC.out.store 4 (.string R)
  refine (number_r g p 2 t _ SD.out.isR hs (by omega) (by omega)).mono ?_
  rintro e wb ⟨rfl, h1, h2⟩
  rw [EP.out]
  have SE : Hid (St g t w 38 zmsg (p + 2) #[.int .i64 id, .bool false, .bool false, .int .i64 code, .string R, .int .i64 0, .slice none 0 0] wb) := SD.out.call h1 h2
  have z5 := SE.out.free 5
  have c5 : wb.cell? ⟨w.heap.size + 1, 5, none⟩ = some (.int .i64 0) := SE.out.cell 5
  clear h1 h2 SC SD z4 c4
  go_wp2_with fail
  have SF : Hid (St g t w 38 zmsg (p + 2) #[.int .i64 id, .bool false, .bool false, .int .i64 code, .string R, .int .i64 typ, .slice none 0 0] (wb.setCell ⟨w.heap.size + 1, 5, none⟩ (.int .i64 typ))) := SE.out.store 5 (.int .i64 typ)
  refine (expect_r g (p + 2) 2 1 t _ SF.out.isR hs (by omega) (by omega) EQ.out).mono ?_
  rintro e wc ⟨rfl, h1, h2⟩
  have SG : Hid (St g t w 38 zmsg (p + 4) #[.int .i64 id, .bool false, .bool false, .int .i64 code, .string R, .int .i64 typ, .slice none 0 0] wc) := SF.out.call h1 h2
  have ct : wc.cell? ⟨g, 0, none⟩ = some (.string t) := SG.out.isR.c0
  have ca : wc.cell? ⟨g, 1, none⟩ = some (.int .i64 t.size) := (show wc.cell? ⟨g, 1, none⟩ = some (.int .i64 t.size) by
    rw [← HZ.out]; exact SG.out.isR.c1)
  clear h1 h2 SE SF z5 c5
  go_wp2_with fail
  have m0 : wc.cell? ⟨w.heap.size + 1, 0, none⟩ = some (.int .i64 id) := SG.out.cell 0
  have m1 : wc.cell? ⟨w.heap.size + 1, 1, none⟩ = some (.bool false) := SG.out.cell 1
  have m2 : wc.cell? ⟨w.heap.size + 1, 2, none⟩ = some (.bool false) := SG.out.cell 2
  have m3 : wc.cell? ⟨w.heap.size + 1, 3, none⟩ = some (.int .i64 code) := SG.out.cell 3
  have m4 : wc.cell? ⟨w.heap.size + 1, 4, none⟩ = some (.string R) := SG.out.cell 4
  have m5 : wc.cell? ⟨w.heap.size + 1, 5, none⟩ = some (.int .i64 typ) := SG.out.cell 5
  have m6 : wc.cell? ⟨w.heap.size + 1, 6, none⟩ = some (.slice none 0 0) := SG.out.cell 6
  have q0 : wc.cell? ⟨w.heap.size, 0, none⟩ = some (.int .i64 0) := SG.out.qcell 0
  have y0 := SG.out.qfree 0
  have q1 : wc.cell? ⟨w.heap.size, 1, none⟩ = some (.bool false) := SG.out.qcell 1
  have y1 := SG.out.qfree 1
  have q2 : wc.cell? ⟨w.heap.size, 2, none⟩ = some (.bool false) := SG.out.qcell 2
  have y2 := SG.out.qfree 2
  have q3 : wc.cell? ⟨w.heap.size, 3, none⟩ = some (.int .i64 0) := SG.out.qcell 3
  have y3 := SG.out.qfree 3
  have q4 : wc.cell? ⟨w.heap.size, 4, none⟩ = some (.string ⟨#[]⟩) := SG.out.qcell 4
  have y4 := SG.out.qfree 4
  have q5 : wc.cell? ⟨w.heap.size, 5, none⟩ = some (.int .i64 0) := SG.out.qcell 5
  have y5 := SG.out.qfree 5
  have q6 : wc.cell? ⟨w.heap.size, 6, none⟩ = some (.slice none 0 0) := SG.out.qcell 6
  have y6 := SG.out.qfree 6
  go_loopw [46] (fun i wr => i = .int .i64 0 ∧ wr = wc) (fun _ _ => 0)
  case atStart => exact ⟨rfl, rfl⟩
  case round =>
    obtain ⟨rfl, hwr⟩ := hrel
    subst hwr
    go_wp2_with fail
    go_region_held3 (fun w' => w'.cell? ⟨g, 0, none⟩ = some (.string t) ∧ w'.cell? ⟨g, 1, none⟩ = some (.int .i64 t.size)) (go_keep) (first | (go_at_call 63; refine (need_ok _ _).mono ?_; rintro e w5 ⟨rfl, rfl⟩) | fail)
    go_wp2_with fail
    refine bodyPost_ret (v := msgV id code typ false false R) ?_ rfl ⟨rfl, ?_⟩
    · simp [results, Tryz.results32, go_sem, q0, q1, q2, q3, q4, q5, q6]
    · exact (Rd.trans (((((((SG.out.rd.put 0 _ (Nat.le_refl _)).put 1 _ (Nat.le_refl _)).put 2 _ (Nat.le_refl _)).put 3 _ (Nat.le_refl _)).put 4 _ (Nat.le_refl _)).put 5 _ (Nat.le_refl _)).put 6 _ (Nat.le_refl _)) (Rd.ext (World.Extends.refl _).drew) : Rd g w _)

end Go.Proofs.YtigffgjkakalfaaGreatDoor

/- Contracts of the library, laid at this program. -/
namespace Go.Proofs
open Go.Shelf
def Tryz.laysM316_ren : Go.Shelf.Ren := ⟨fun | 316 => 136 | n => n, fun | 9 => 9 | 3 => 3 | 4 => 4 | 37 => 117 | 0 => 0 | 127 => 141 | 5 => 5 | n => n, fun | n => n⟩
theorem Tryz.laysM316 : Go.Proofs.LaysM.n316 Tryz.prog Tryz.laysM316_ren := {
  mixed := by kernel_rfl
  f316 := Tryz.func136.trans (congrArg some (by kernel_rfl))
  t0 := Tryz.underlying0
  a0 := Tryz.isAgg0
  z0 := Tryz.sizeOf0
  v0 := Tryz.zeroValue0
  t3 := Tryz.underlying3
  a3 := Tryz.isAgg3
  z3 := Tryz.sizeOf3
  v3 := Tryz.zeroValue3
  t4 := Tryz.underlying4
  a4 := Tryz.isAgg4
  z4 := Tryz.sizeOf4
  v4 := Tryz.zeroValue4
  t9 := Tryz.underlying9
  a9 := Tryz.isAgg9
  z9 := Tryz.sizeOf9
  v9 := Tryz.zeroValue9
  t37 := Tryz.underlying117
  a37 := Tryz.isAgg117
  z37 := Tryz.sizeOf117
  v37 := Tryz.zeroValue117
  t127 := Tryz.underlying141
  a127 := Tryz.isAgg141
  z127 := Tryz.sizeOf141
  v127 := Tryz.zeroValue141
  t5 := Tryz.underlying5
  a5 := Tryz.isAgg5
  z5 := Tryz.sizeOf5
  v5 := Tryz.zeroValue5
  i0 := by kernel_rfl
  i3 := by kernel_rfl
  i4 := by kernel_rfl
  i5 := by kernel_rfl
  i9 := by kernel_rfl
  i37 := by kernel_rfl
  i127 := by kernel_rfl }
open Go.RowKit in
theorem Tryz.stringslite_Clone (s : ByteArray) (w : World) (hlim : s.size ≤ 281474976710656) :
    Calls Tryz.prog 136 #[.string s] w fun e w' => e = .returned (.string s) ∧ Below w.heap.size w w' := Any.stringslite_Clone Tryz.laysM316 s w hlim
end Go.Proofs

/- A record's data is read as it was written. -/
namespace Go.Proofs.YtigffgjkakalfaaGreatDoor
open Go.RowKit

/-- What lies there while a record is read: the reader at g, the record's box at X, all else as it was. -/
structure Rx (g X : Nat) (t : ByteArray) (w : World) (a : Nat) (cs : Array Value) (W : World) : Prop where
  isR : IsR g t a W
  bx : W.heap[X]? = some (.cells cs 51 (0, 0))
  os : W.os = w.os
  tape : W.tape = w.tape
  output : W.output = w.output
  size : w.heap.size ≤ W.heap.size
  block : ∀ k : Nat, k < w.heap.size → k ≠ g → k ≠ X → W.heap[k]? = w.heap[k]?
  ne : g ≠ X

theorem Rx.call {g X a b : Nat} {t : ByteArray} {w W W' : World} {cs : Array Value} (h : Rx g X t w a cs W) (h1 : Hid (IsR g t b W')) (h2 : Hid (Rd g W W')) : Rx g X t w b cs W' :=
  ⟨h1.out, (h2.out.block X (Array.getElem?_eq_some_iff.1 h.bx).1 (Ne.symm h.ne)).trans h.bx, h2.out.os.trans h.os, h2.out.tape.trans h.tape, h2.out.output.trans h.output, Nat.le_trans h.size h2.out.size, fun k hk h3 h4 => (h2.out.block k (Nat.lt_of_lt_of_le hk h.size) h3).trans (h.block k hk h3 h4), h.ne⟩
theorem Rx.below {g X a : Nat} {t : ByteArray} {w W W' : World} {cs : Array Value} (h : Rx g X t w a cs W) (hb : Below W.heap.size W W') : Rx g X t w a cs W' :=
  h.call (h.isR.below hb h.isR.hg) (Rd.of_below hb (Nat.le_refl _) : Rd g W W')
theorem Rx.store {g X a : Nat} {t : ByteArray} {w W : World} {cs : Array Value} (h : Rx g X t w a cs W) (i : Nat) (v : Value) : Rx g X t w a (cs.setIfInBounds i v) (W.setCell ⟨X, i, none⟩ v) where
  isR := ⟨(World.cell?_setCell_other _ _ _ _ (by have := h.ne; intro e; simp at e)).trans h.isR.c0, (World.cell?_setCell_other _ _ _ _ (by have := h.ne; intro e; simp at e)).trans h.isR.c1, by simpa using h.isR.hz, by simpa using h.isR.hg⟩
  bx := Joins.block_setCell h.bx v
  os := h.os
  tape := h.tape
  output := h.output
  size := by simpa using h.size
  block := fun k hk h3 h4 => (Below.heap_setCell W _ v k (by simpa using h4)).trans (h.block k hk h3 h4)
  ne := h.ne
theorem Rx.cell {g X a : Nat} {t : ByteArray} {w W : World} {cs : Array Value} (h : Rx g X t w a cs W) (i : Nat) : W.cell? ⟨X, i, none⟩ = cs[i]? := cellsAt h.bx i
theorem Rx.free {g X a : Nat} {t : ByteArray} {w W : World} {cs : Array Value} (h : Rx g X t w a cs W) (i : Nat) : W.frozen? ⟨X, i, none⟩ = false := by simp [World.frozen?, h.bx]

set_option maxHeartbeats 400000 in
theorem sclone_any (s : ByteArray) (w : World) (hs : s.size ≤ 1000) :
    Calls Tryz.prog 118 #[.string s] w fun e w' => e = .returned (.string s) ∧ Below w.heap.size w w' := by
  have HC : Hid (Calls Tryz.prog 136 #[.string s] w fun e w' => e = .returned (.string s) ∧ Below w.heap.size w w') := Tryz.stringslite_Clone s w (by omega)
  go_enter Tryz.func118, Tryz.ntmps118
  go_wp2_with fail
  refine HC.out.mono ?_
  rintro e w1 ⟨rfl, hb⟩
  go_wp2_with fail
  go_ret
  exact ⟨rfl, hb⟩

set_option maxHeartbeats 1600000 in
set_option maxRecDepth 100000 in
theorem rdata_1 (g X a : Nat) (t nm : ByteArray) (la ad : Int) (w W : World) (h : Rx g X t w a #[.string nm, .int .i64 1, .int .i64 la, .int .i64 0, .string ⟨#[]⟩, .int .i64 0, .string ⟨#[]⟩] W) (hs : t.size ≤ 1000) (h0 : 0 ≤ ad) (h1 : ad < 256 ^ 4) (hat : AtW t a (nbl ad 4)) :
    Calls Tryz.prog 95 #[.pointer (some ⟨g, 0, none⟩), .pointer (some ⟨X, 0, none⟩)] W fun e w' => e = .returned (.tuple #[]) ∧ Rx g X t w (a + 4) #[.string nm, .int .i64 1, .int .i64 la, .int .i64 ad, .string ⟨#[]⟩, .int .i64 0, .string ⟨#[]⟩] w' := by
  have hr := rnum_is h0 h1 hat
  have hsz := hat.size
  rw [nbl_len] at hsz
  have H : Hid (Rx g X t w a #[.string nm, .int .i64 1, .int .i64 la, .int .i64 0, .string ⟨#[]⟩, .int .i64 0, .string ⟨#[]⟩] W) := h
  have HN : Hid (Calls Tryz.prog 62 #[.pointer (some ⟨g, 0, none⟩), .int .i64 4] W fun e w' => e = .returned (.int .i64 ad) ∧ Hid (IsR g t (a + 4) w') ∧ Hid (Rd g W w')) := (show Calls _ _ _ _ _ by
    have h := number_r g a 4 t W H.out.isR hs hsz (by omega)
    rw [hr] at h
    exact h)
  have c1 : W.cell? ⟨X, 1, none⟩ = some (.int .i64 1) := h.cell 1
  clear h hat hr h0 h1
  go_enter Tryz.func95, Tryz.ntmps95
  go_wp2_with fail
  refine HN.out.mono ?_
  rintro e w1 ⟨rfl, h1, h2⟩
  have H1 : Hid (Rx g X t w (a + 4) #[.string nm, .int .i64 1, .int .i64 la, .int .i64 0, .string ⟨#[]⟩, .int .i64 0, .string ⟨#[]⟩] w1) := H.out.call h1 h2
  have c3 : w1.cell? ⟨X, 3, none⟩ = some (.int .i64 0) := H1.out.cell 3
  have z3 := H1.out.free 3
  clear h1 h2
  go_wp2_with fail
  simp [bodyPost, results, Tryz.results95]
  exact H1.out.store 3 (.int .i64 ad)

set_option maxHeartbeats 1600000 in
set_option maxRecDepth 100000 in
theorem rdata_16 (g X a : Nat) (t nm tx : ByteArray) (la : Int) (w W : World) (h : Rx g X t w a #[.string nm, .int .i64 16, .int .i64 la, .int .i64 0, .string ⟨#[]⟩, .int .i64 0, .string ⟨#[]⟩] W) (hs : t.size ≤ 1000) (htx : tx.size ≤ 200) (hat : AtW t a (nbl tx.size 1 ++ tx.data.toList)) :
    Calls Tryz.prog 95 #[.pointer (some ⟨g, 0, none⟩), .pointer (some ⟨X, 0, none⟩)] W fun e w' => e = .returned (.tuple #[]) ∧ Rx g X t w (a + 1 + tx.size) #[.string nm, .int .i64 16, .int .i64 la, .int .i64 0, .string tx, .int .i64 0, .string ⟨#[]⟩] w' := by
  have hr := rnum_is (n := tx.size) (by omega) (by omega) hat.left
  have hsz := hat.size
  have hl : tx.data.toList.length = tx.size := by simp
  rw [List.length_append, nbl_len, hl] at hsz
  have hex : t.extract (a + 1) (a + 1 + tx.size) = tx := by
    have h2 := hat.right
    rw [nbl_len] at h2
    exact h2.extract
  have H : Hid (Rx g X t w a #[.string nm, .int .i64 16, .int .i64 la, .int .i64 0, .string ⟨#[]⟩, .int .i64 0, .string ⟨#[]⟩] W) := h
  have HN : Hid (Calls Tryz.prog 94 #[.pointer (some ⟨g, 0, none⟩)] W fun e w' => e = .returned (.string tx) ∧ Hid (IsR g t (a + 1 + tx.size) w') ∧ Hid (Rd g W w')) := counted_r g a tx.size t tx W h.isR hs (by omega) (by omega) hex
  have HCL : Hid (∀ W, Calls Tryz.prog 118 #[.string tx] W fun e w' => e = .returned (.string tx) ∧ Below W.heap.size W w') := fun W => sclone_any tx W (by omega)
  have c1 : W.cell? ⟨X, 1, none⟩ = some (.int .i64 16) := h.cell 1
  clear h hat hr hex
  go_enter Tryz.func95, Tryz.ntmps95
  go_wp2_with fail
  refine HN.out.mono ?_
  rintro e w1 ⟨rfl, h1, h2⟩
  have H1 : Hid (Rx g X t w (a + 1 + tx.size) #[.string nm, .int .i64 16, .int .i64 la, .int .i64 0, .string ⟨#[]⟩, .int .i64 0, .string ⟨#[]⟩] w1) := H.out.call h1 h2
  clear h1 h2
  go_wp2_with fail
  refine (HCL.out w1).mono ?_
  rintro e w2 ⟨rfl, hb2⟩
  have H2 : Hid (Rx g X t w (a + 1 + tx.size) #[.string nm, .int .i64 16, .int .i64 la, .int .i64 0, .string ⟨#[]⟩, .int .i64 0, .string ⟨#[]⟩] w2) := H1.out.below hb2
  have c4 : w2.cell? ⟨X, 4, none⟩ = some (.string ⟨#[]⟩) := H2.out.cell 4
  have z4 := H2.out.free 4
  clear hb2
  go_wp2_with fail
  simp [bodyPost, results, Tryz.results95]
  exact H2.out.store 4 (.string tx)

set_option maxHeartbeats 1600000 in
set_option maxRecDepth 100000 in
theorem rdata_33 (g X a : Nat) (t nm ta : ByteArray) (la po : Int) (w W : World) (h : Rx g X t w a #[.string nm, .int .i64 33, .int .i64 la, .int .i64 0, .string ⟨#[]⟩, .int .i64 0, .string ⟨#[]⟩] W) (hs : t.size ≤ 1000) (h0 : 0 ≤ po) (h1 : po < 256 ^ 2) (hn : chkN ta = 0) (hat : AtW t a (nbl 0 2 ++ (nbl 0 2 ++ (nbl po 2 ++ wnameL ta)))) :
    Calls Tryz.prog 95 #[.pointer (some ⟨g, 0, none⟩), .pointer (some ⟨X, 0, none⟩)] W fun e w' => e = .returned (.tuple #[]) ∧ Rx g X t w (a + 6 + (wnameL ta).length) #[.string nm, .int .i64 33, .int .i64 la, .int .i64 0, .string ⟨#[]⟩, .int .i64 po, .string ta] w' := by
  have hsz := hat.size
  simp only [List.length_append, nbl_len] at hsz
  have a1 := hat.left
  have a2 := hat.right
  rw [nbl_len] at a2
  have a3 := a2.left
  have a4 := a2.right
  rw [nbl_len] at a4
  have a5 := a4.left
  have a6 := a4.right
  rw [nbl_len] at a6
  have r1 := rnum_is (n := 0) (by omega) (by omega) a1
  have r2 := rnum_is (n := 0) (by omega) (by omega) a3
  have r3 := rnum_is h0 h1 a5
  have H : Hid (Rx g X t w a #[.string nm, .int .i64 33, .int .i64 la, .int .i64 0, .string ⟨#[]⟩, .int .i64 0, .string ⟨#[]⟩] W) := h
  have R1 : Hid (rnum t a 2 = 0) := (show _ = _ by omega)
  have R2 : Hid (rnum t (a + 2) 2 = 0) := (show _ = _ by omega)
  have R3 : Hid ((rnum t (a + 2 + 2) 2 : Int) = po) := r3
  have A6 : Hid (AtW t (a + 2 + 2 + 2) (wnameL ta)) := a6
  have c1 : W.cell? ⟨X, 1, none⟩ = some (.int .i64 33) := h.cell 1
  clear h hat a1 a2 a3 a4 a5 a6 r1 r2 r3
  go_enter Tryz.func95, Tryz.ntmps95
  go_wp2_with fail
  refine (expect_r g a 2 0 t W H.out.isR hs (by omega) (by omega) R1.out).mono ?_
  rintro e w1 ⟨rfl, h1, h2⟩
  have H1 : Hid (Rx g X t w (a + 2) #[.string nm, .int .i64 33, .int .i64 la, .int .i64 0, .string ⟨#[]⟩, .int .i64 0, .string ⟨#[]⟩] w1) := H.out.call h1 h2
  clear h1 h2
  go_wp2_with fail
  refine (expect_r g (a + 2) 2 0 t w1 H1.out.isR hs (by omega) (by omega) R2.out).mono ?_
  rintro e w2 ⟨rfl, h1, h2⟩
  have H2 : Hid (Rx g X t w (a + 2 + 2) #[.string nm, .int .i64 33, .int .i64 la, .int .i64 0, .string ⟨#[]⟩, .int .i64 0, .string ⟨#[]⟩] w2) := H1.out.call h1 h2
  clear h1 h2
  go_wp2_with fail
  refine (number_r g (a + 2 + 2) 2 t w2 H2.out.isR hs (by omega) (by omega)).mono ?_
  rintro e w3 ⟨rfl, h1, h2⟩
  rw [R3.out]
  have H3 : Hid (Rx g X t w (a + 2 + 2 + 2) #[.string nm, .int .i64 33, .int .i64 la, .int .i64 0, .string ⟨#[]⟩, .int .i64 0, .string ⟨#[]⟩] w3) := H2.out.call h1 h2
  have c5 : w3.cell? ⟨X, 5, none⟩ = some (.int .i64 0) := H3.out.cell 5
  have z5 := H3.out.free 5
  clear h1 h2
  go_wp2_with fail
  have H4 : Hid (Rx g X t w (a + 2 + 2 + 2) #[.string nm, .int .i64 33, .int .i64 la, .int .i64 0, .string ⟨#[]⟩, .int .i64 po, .string ⟨#[]⟩] (w3.setCell ⟨X, 5, none⟩ (.int .i64 po))) := H3.out.store 5 (.int .i64 po)
  refine (rname_any g (a + 2 + 2 + 2) ta t _ H4.out.isR hs hn A6.out).mono ?_
  rintro e w4 ⟨rfl, h1, h2⟩
  have H5 : Hid (Rx g X t w (a + 2 + 2 + 2 + (wnameL ta).length) #[.string nm, .int .i64 33, .int .i64 la, .int .i64 0, .string ⟨#[]⟩, .int .i64 po, .string ⟨#[]⟩] w4) := H4.out.call h1 h2
  have c6 : w4.cell? ⟨X, 6, none⟩ = some (.string ⟨#[]⟩) := H5.out.cell 6
  have z6 := H5.out.free 6
  clear h1 h2 H4 c5 z5
  go_wp2_with fail
  simp [bodyPost, results, Tryz.results95]
  exact H5.out.store 6 (.string ta)

end Go.Proofs.YtigffgjkakalfaaGreatDoor

/- A record's data are read, or not: both ways. -/
namespace Go.Proofs.YtigffgjkakalfaaGreatDoor
open Go.RowKit

/-- The name that stands at a, and where the reader is behind it. -/
def tgF (t : ByteArray) (a : Nat) : Option (ByteArray × Nat) := (nmF t a a [] none).map fun x => (mk (jn (x.1.map bts)), x.2)
theorem name_c (g a : Nat) (t : ByteArray) (w : World) (h : IsR g t a w) (hs : t.size ≤ 1000) (ha : a ≤ t.size) :
    Calls Tryz.prog 66 #[.pointer (some ⟨g, 0, none⟩)] w fun e w' => Hid (Rd g w w') ∧ ((∃ s q, tgF t a = some (s, q) ∧ s.size ≤ 1000 ∧ q ≤ t.size ∧ e = .returned (.string s) ∧ Hid (IsR g t q w')) ∨ (tgF t a = none ∧ e = outE 1)) := by
  refine (name_b g a t w h hs ha).mono ?_
  rintro e w' ⟨h1, ⟨ls, q, h2, ⟨h3, h4⟩, h5, h6, h7⟩ | ⟨h2, h3⟩⟩
  · refine ⟨h1, .inl ⟨_, q, by unfold tgF; rw [h2]; rfl, ?_, h5, h6, h7⟩⟩
    rw [mk_size]
    have := jn_len ls h4
    omega
  · exact ⟨h1, .inr ⟨by unfold tgF; rw [h2]; rfl, h3⟩⟩

/-- A record with its data, and where the reader is behind them. -/
def datF (t : ByteArray) (a : Nat) (nm : ByteArray) (ty la : Int) : Option (Rc.Rec × Nat) :=
  if ty = 1 then (if a + 4 ≤ t.size then some (⟨nm, ty, la, rnum t a 4, ⟨#[]⟩, 0, ⟨#[]⟩⟩, a + 4) else none)
  else if ty = 16 then (if a + 1 + rnum t a 1 ≤ t.size then some (⟨nm, ty, la, 0, t.extract (a + 1) (a + 1 + rnum t a 1), 0, ⟨#[]⟩⟩, a + 1 + rnum t a 1) else none)
  else if ty = 33 then
    (if a + 2 ≤ t.size ∧ (rnum t a 2 : Int) = 0 then
      if a + 2 + 2 ≤ t.size ∧ (rnum t (a + 2) 2 : Int) = 0 then
        if a + 2 + 2 + 2 ≤ t.size then (tgF t (a + 2 + 2 + 2)).map fun x => (⟨nm, ty, la, 0, ⟨#[]⟩, rnum t (a + 2 + 2) 2, x.1⟩, x.2) else none
      else none
    else none)
  else some (⟨nm, ty, la, 0, ⟨#[]⟩, 0, ⟨#[]⟩⟩, a)

/-- All that was there stays, the reader at g and the record at X aside. -/
structure Ry (g X : Nat) (w W : World) : Prop where
  os : W.os = w.os
  tape : W.tape = w.tape
  output : W.output = w.output
  size : w.heap.size ≤ W.heap.size
  block : ∀ k : Nat, k < w.heap.size → k ≠ g → k ≠ X → W.heap[k]? = w.heap[k]?
theorem Rx.ry {g X a : Nat} {t : ByteArray} {w W : World} {cs : Array Value} (h : Rx g X t w a cs W) : Ry g X w W := ⟨h.os, h.tape, h.output, h.size, h.block⟩
theorem Rx.gone {g X a : Nat} {t : ByteArray} {w W W' : World} {cs : Array Value} (h : Rx g X t w a cs W) (h2 : Hid (Rd g W W')) : Ry g X w W' :=
  ⟨h2.out.os.trans h.os, h2.out.tape.trans h.tape, h2.out.output.trans h.output, Nat.le_trans h.size h2.out.size, fun k hk h3 h4 => (h2.out.block k (Nat.lt_of_lt_of_le hk h.size) h3).trans (h.block k hk h3 h4)⟩

abbrev recA (r : Rc.Rec) : Array Value := #[.string r.name, .int .i64 r.typ, .int .i64 r.lasts, .int .i64 r.addr, .string r.text, .int .i64 r.port, .string r.target]
abbrev DatP (g X a : Nat) (t nm : ByteArray) (ty la : Int) (w : World) (e : Ending) (w' : World) : Prop :=
  (∃ r q, datF t a nm ty la = some (r, q) ∧ q ≤ t.size ∧ (r.name = nm ∧ r.text.size ≤ 1000 ∧ r.target.size ≤ 1000) ∧ e = .returned (.tuple #[]) ∧ Hid (Rx g X t w q (recA r) w')) ∨ (datF t a nm ty la = none ∧ e = outE 1 ∧ Hid (Ry g X w w'))

set_option maxHeartbeats 1600000 in
set_option maxRecDepth 100000 in
theorem rdatb_1 (g X a : Nat) (t nm : ByteArray) (la : Int) (w W : World) (h : Rx g X t w a #[.string nm, .int .i64 1, .int .i64 la, .int .i64 0, .string ⟨#[]⟩, .int .i64 0, .string ⟨#[]⟩] W) (hs : t.size ≤ 1000) (ha : a ≤ t.size) :
    Calls Tryz.prog 95 #[.pointer (some ⟨g, 0, none⟩), .pointer (some ⟨X, 0, none⟩)] W (DatP g X a t nm 1 la w) := by
  have HF : Hid (datF t a nm 1 la = if a + 4 ≤ t.size then some (⟨nm, 1, la, rnum t a 4, ⟨#[]⟩, 0, ⟨#[]⟩⟩, a + 4) else none) := if_pos rfl
  have H : Hid (Rx g X t w a #[.string nm, .int .i64 1, .int .i64 la, .int .i64 0, .string ⟨#[]⟩, .int .i64 0, .string ⟨#[]⟩] W) := h
  have HN : Hid (Calls Tryz.prog 62 #[.pointer (some ⟨g, 0, none⟩), .int .i64 4] W fun e w' => Hid (Rd g W w') ∧ ((a + 4 ≤ t.size ∧ e = .returned (.int .i64 (rnum t a 4)) ∧ Hid (IsR g t (a + 4) w')) ∨ (¬ a + 4 ≤ t.size ∧ e = outE 1))) := number_b g a 4 t W h.isR hs ha (by omega)
  have c1 : W.cell? ⟨X, 1, none⟩ = some (.int .i64 1) := h.cell 1
  clear h
  unfold DatP
  generalize datF t a nm 1 la = F at *
  go_enter Tryz.func95, Tryz.ntmps95
  go_wp2_with fail
  refine HN.out.mono ?_
  rintro e w1 ⟨h2, ⟨hle, rfl, h1⟩ | ⟨hno, rfl⟩⟩
  rotate_left
  · exact ⟨rfl, .inr ⟨HF.out.trans (if_neg hno), rfl, H.out.gone h2⟩⟩
  have H1 : Hid (Rx g X t w (a + 4) #[.string nm, .int .i64 1, .int .i64 la, .int .i64 0, .string ⟨#[]⟩, .int .i64 0, .string ⟨#[]⟩] w1) := H.out.call h1 h2
  have c3 : w1.cell? ⟨X, 3, none⟩ = some (.int .i64 0) := H1.out.cell 3
  have z3 := H1.out.free 3
  have HF1 : Hid (F = some (⟨nm, 1, la, rnum t a 4, ⟨#[]⟩, 0, ⟨#[]⟩⟩, a + 4)) := HF.out.trans (if_pos hle)
  clear h1 h2 HF
  generalize (rnum t a 4 : Int) = x at *
  go_wp2_with fail
  simp only [bodyPost, results, Tryz.results95]
  exact ⟨trivial, .tuple #[], by simp, .inl ⟨_, _, HF1.out, hle, ⟨rfl, by simp [ByteArray.size], by simp [ByteArray.size]⟩, rfl, H1.out.store 3 (.int .i64 x)⟩⟩

set_option maxHeartbeats 1600000 in
set_option maxRecDepth 100000 in
theorem rdatb_16 (g X a : Nat) (t nm : ByteArray) (la : Int) (w W : World) (h : Rx g X t w a #[.string nm, .int .i64 16, .int .i64 la, .int .i64 0, .string ⟨#[]⟩, .int .i64 0, .string ⟨#[]⟩] W) (hs : t.size ≤ 1000) (ha : a ≤ t.size) :
    Calls Tryz.prog 95 #[.pointer (some ⟨g, 0, none⟩), .pointer (some ⟨X, 0, none⟩)] W (DatP g X a t nm 16 la w) := by
  have HF : Hid (datF t a nm 16 la = if a + 1 + rnum t a 1 ≤ t.size then some (⟨nm, 16, la, 0, t.extract (a + 1) (a + 1 + rnum t a 1), 0, ⟨#[]⟩⟩, a + 1 + rnum t a 1) else none) := rfl
  have H : Hid (Rx g X t w a #[.string nm, .int .i64 16, .int .i64 la, .int .i64 0, .string ⟨#[]⟩, .int .i64 0, .string ⟨#[]⟩] W) := h
  have HN : Hid (Calls Tryz.prog 94 #[.pointer (some ⟨g, 0, none⟩)] W fun e w' => Hid (Rd g W w') ∧ ((a + 1 + rnum t a 1 ≤ t.size ∧ e = .returned (.string (t.extract (a + 1) (a + 1 + rnum t a 1))) ∧ Hid (IsR g t (a + 1 + rnum t a 1) w')) ∨ (¬ a + 1 + rnum t a 1 ≤ t.size ∧ e = outE 1))) := counted_b g a t W h.isR hs ha
  have hxs : a + 1 + rnum t a 1 ≤ t.size → (t.extract (a + 1) (a + 1 + rnum t a 1)).size ≤ 1000 := fun hl => by rw [lwS_ext t a _ hl]; omega
  have c1 : W.cell? ⟨X, 1, none⟩ = some (.int .i64 16) := h.cell 1
  clear h
  unfold DatP
  generalize datF t a nm 16 la = F at *
  generalize t.extract (a + 1) (a + 1 + rnum t a 1) = x at *
  generalize rnum t a 1 = y at *
  go_enter Tryz.func95, Tryz.ntmps95
  go_wp2_with fail
  refine HN.out.mono ?_
  rintro e w1 ⟨h2, ⟨hle, rfl, h1⟩ | ⟨hno, rfl⟩⟩
  rotate_left
  · exact ⟨rfl, .inr ⟨HF.out.trans (if_neg hno), rfl, H.out.gone h2⟩⟩
  have H1 : Hid (Rx g X t w (a + 1 + y) #[.string nm, .int .i64 16, .int .i64 la, .int .i64 0, .string ⟨#[]⟩, .int .i64 0, .string ⟨#[]⟩] w1) := H.out.call h1 h2
  have HF1 : Hid (F = some (⟨nm, 16, la, 0, x, 0, ⟨#[]⟩⟩, a + 1 + y)) := HF.out.trans (if_pos hle)
  have HCL : Hid (∀ W, Calls Tryz.prog 118 #[.string x] W fun e w' => e = .returned (.string x) ∧ Below W.heap.size W w') := fun W => sclone_any x W (hxs hle)
  have hx1 := hxs hle
  clear h1 h2 HF hxs
  go_wp2_with fail
  refine (HCL.out w1).mono ?_
  rintro e w2 ⟨rfl, hb2⟩
  have H2 : Hid (Rx g X t w (a + 1 + y) #[.string nm, .int .i64 16, .int .i64 la, .int .i64 0, .string ⟨#[]⟩, .int .i64 0, .string ⟨#[]⟩] w2) := H1.out.below hb2
  have c4 : w2.cell? ⟨X, 4, none⟩ = some (.string ⟨#[]⟩) := H2.out.cell 4
  have z4 := H2.out.free 4
  clear hb2
  go_wp2_with fail
  simp only [bodyPost, results, Tryz.results95]
  exact ⟨trivial, .tuple #[], by simp, .inl ⟨_, _, HF1.out, hle, ⟨rfl, hx1, by simp [ByteArray.size]⟩, rfl, H2.out.store 4 (.string x)⟩⟩

set_option maxHeartbeats 1600000 in
set_option maxRecDepth 100000 in
theorem rdatb_33 (g X a : Nat) (t nm : ByteArray) (la : Int) (w W : World) (h : Rx g X t w a #[.string nm, .int .i64 33, .int .i64 la, .int .i64 0, .string ⟨#[]⟩, .int .i64 0, .string ⟨#[]⟩] W) (hs : t.size ≤ 1000) (ha : a ≤ t.size) :
    Calls Tryz.prog 95 #[.pointer (some ⟨g, 0, none⟩), .pointer (some ⟨X, 0, none⟩)] W (DatP g X a t nm 33 la w) := by
  have HF : Hid (datF t a nm 33 la = if a + 2 ≤ t.size ∧ (rnum t a 2 : Int) = 0 then
      if a + 2 + 2 ≤ t.size ∧ (rnum t (a + 2) 2 : Int) = 0 then
        if a + 2 + 2 + 2 ≤ t.size then (tgF t (a + 2 + 2 + 2)).map fun x => (⟨nm, 33, la, 0, ⟨#[]⟩, rnum t (a + 2 + 2) 2, x.1⟩, x.2) else none
      else none
    else none) := rfl
  have H : Hid (Rx g X t w a #[.string nm, .int .i64 33, .int .i64 la, .int .i64 0, .string ⟨#[]⟩, .int .i64 0, .string ⟨#[]⟩] W) := h
  have c1 : W.cell? ⟨X, 1, none⟩ = some (.int .i64 33) := h.cell 1
  clear h
  unfold DatP
  generalize datF t a nm 33 la = F at *
  go_enter Tryz.func95, Tryz.ntmps95
  go_wp2_with fail
  refine (expect_b g a 2 0 t W H.out.isR hs ha (by omega)).mono ?_
  rintro e w1 ⟨h2, ⟨hle, rfl, h1⟩ | ⟨hno, rfl⟩⟩
  rotate_left
  · exact ⟨rfl, .inr ⟨HF.out.trans (if_neg hno), rfl, H.out.gone h2⟩⟩
  have H1 : Hid (Rx g X t w (a + 2) #[.string nm, .int .i64 33, .int .i64 la, .int .i64 0, .string ⟨#[]⟩, .int .i64 0, .string ⟨#[]⟩] w1) := H.out.call h1 h2
  have HF1 : Hid _ := HF.out.trans (if_pos hle)
  have hl1 := hle.1
  clear h1 h2 HF hle
  go_wp2_with fail
  refine (expect_b g (a + 2) 2 0 t w1 H1.out.isR hs hl1 (by omega)).mono ?_
  rintro e w2 ⟨h2, ⟨hle, rfl, h1⟩ | ⟨hno, rfl⟩⟩
  rotate_left
  · exact ⟨rfl, .inr ⟨HF1.out.trans (if_neg hno), rfl, H1.out.gone h2⟩⟩
  have H2 : Hid (Rx g X t w (a + 2 + 2) #[.string nm, .int .i64 33, .int .i64 la, .int .i64 0, .string ⟨#[]⟩, .int .i64 0, .string ⟨#[]⟩] w2) := H1.out.call h1 h2
  have HF2 : Hid _ := HF1.out.trans (if_pos hle)
  have hl2 := hle.1
  clear h1 h2 HF1 hle
  go_wp2_with fail
  refine (number_b g (a + 2 + 2) 2 t w2 H2.out.isR hs hl2 (by omega)).mono ?_
  rintro e w3 ⟨h2, ⟨hle, rfl, h1⟩ | ⟨hno, rfl⟩⟩
  rotate_left
  · exact ⟨rfl, .inr ⟨HF2.out.trans (if_neg hno), rfl, H2.out.gone h2⟩⟩
  have H3 : Hid (Rx g X t w (a + 2 + 2 + 2) #[.string nm, .int .i64 33, .int .i64 la, .int .i64 0, .string ⟨#[]⟩, .int .i64 0, .string ⟨#[]⟩] w3) := H2.out.call h1 h2
  have HF3 : Hid (F = (tgF t (a + 2 + 2 + 2)).map fun x => (⟨nm, 33, la, 0, ⟨#[]⟩, rnum t (a + 2 + 2) 2, x.1⟩, x.2)) := HF2.out.trans (if_pos hle)
  have c5 : w3.cell? ⟨X, 5, none⟩ = some (.int .i64 0) := H3.out.cell 5
  have z5 := H3.out.free 5
  clear h1 h2 HF2
  generalize (rnum t (a + 2 + 2) 2 : Int) = po at *
  go_wp2_with fail
  have H4 : Hid (Rx g X t w (a + 2 + 2 + 2) #[.string nm, .int .i64 33, .int .i64 la, .int .i64 0, .string ⟨#[]⟩, .int .i64 po, .string ⟨#[]⟩] (w3.setCell ⟨X, 5, none⟩ (.int .i64 po))) := H3.out.store 5 (.int .i64 po)
  refine (name_c g (a + 2 + 2 + 2) t _ H4.out.isR hs hle).mono ?_
  rintro e w4 ⟨h2, ⟨ta, q, h3, h4, h5, rfl, h1⟩ | ⟨h3, rfl⟩⟩
  rotate_left
  · exact ⟨rfl, .inr ⟨by rw [HF3.out, h3]; rfl, rfl, H4.out.gone h2⟩⟩
  have H5 : Hid (Rx g X t w q #[.string nm, .int .i64 33, .int .i64 la, .int .i64 0, .string ⟨#[]⟩, .int .i64 po, .string ⟨#[]⟩] w4) := H4.out.call h1 h2
  have HF4 : Hid (F = some (⟨nm, 33, la, 0, ⟨#[]⟩, po, ta⟩, q)) := (show _ = _ by rw [HF3.out, h3]; rfl)
  have c6 : w4.cell? ⟨X, 6, none⟩ = some (.string ⟨#[]⟩) := H5.out.cell 6
  have z6 := H5.out.free 6
  clear h1 h2 h3 HF3 H4 c5 z5
  go_wp2_with fail
  simp only [bodyPost, results, Tryz.results95]
  exact ⟨trivial, .tuple #[], by simp, .inl ⟨_, _, HF4.out, h5, ⟨rfl, by simp [ByteArray.size], h4⟩, rfl, H5.out.store 6 (.string ta)⟩⟩

set_option maxHeartbeats 1600000 in
set_option maxRecDepth 100000 in
theorem rdatb_else (g X a : Nat) (t nm : ByteArray) (ty la : Int) (w W : World) (h : Rx g X t w a #[.string nm, .int .i64 ty, .int .i64 la, .int .i64 0, .string ⟨#[]⟩, .int .i64 0, .string ⟨#[]⟩] W) (ha : a ≤ t.size) (h1 : ty ≠ 1) (h2 : ty ≠ 16) (h3 : ty ≠ 33) :
    Calls Tryz.prog 95 #[.pointer (some ⟨g, 0, none⟩), .pointer (some ⟨X, 0, none⟩)] W (DatP g X a t nm ty la w) := by
  have HF : Hid (datF t a nm ty la = some (⟨nm, ty, la, 0, ⟨#[]⟩, 0, ⟨#[]⟩⟩, a)) := (show _ = _ by unfold datF; rw [if_neg h1, if_neg h2, if_neg h3])
  have H : Hid (Rx g X t w a #[.string nm, .int .i64 ty, .int .i64 la, .int .i64 0, .string ⟨#[]⟩, .int .i64 0, .string ⟨#[]⟩] W) := h
  have c1 : W.cell? ⟨X, 1, none⟩ = some (.int .i64 ty) := h.cell 1
  have e1 : (ty == 1) = false := by simpa using h1
  have e2 : (ty == 16) = false := by simpa using h2
  have e3 : (ty == 33) = false := by simpa using h3
  clear h
  unfold DatP
  generalize datF t a nm ty la = F at *
  go_enter Tryz.func95, Tryz.ntmps95
  go_wp2_with fail
  simp only [bodyPost, results, Tryz.results95]
  exact ⟨trivial, .tuple #[], by simp, .inl ⟨_, _, HF.out, ha, ⟨rfl, by simp [ByteArray.size], by simp [ByteArray.size]⟩, rfl, H.out⟩⟩

/-- Data are read, or not. -/
theorem rdat_b (g X a : Nat) (t nm : ByteArray) (ty la : Int) (w W : World) (h : Rx g X t w a #[.string nm, .int .i64 ty, .int .i64 la, .int .i64 0, .string ⟨#[]⟩, .int .i64 0, .string ⟨#[]⟩] W) (hs : t.size ≤ 1000) (ha : a ≤ t.size) :
    Calls Tryz.prog 95 #[.pointer (some ⟨g, 0, none⟩), .pointer (some ⟨X, 0, none⟩)] W (DatP g X a t nm ty la w) := by
  by_cases h1 : ty = 1
  · subst h1; exact rdatb_1 g X a t nm la w W h hs ha
  by_cases h2 : ty = 16
  · subst h2; exact rdatb_16 g X a t nm la w W h hs ha
  by_cases h3 : ty = 33
  · subst h3; exact rdatb_33 g X a t nm la w W h hs ha
  exact rdatb_else g X a t nm ty la w W h ha h1 h2 h3

end Go.Proofs.YtigffgjkakalfaaGreatDoor

