/- GI, ShelfM, ML0, ML1 -/
import Derived.Test.YtogmkdhljifbpaaDoorW3
import Derived.Test.YtogmkdhljifbpaaDoorRows
import Derived.Deep.Slices
import Derived.Lib.SmallJoins
import Derived.ProofKit
import Derived.OpenShut
import Derived.Handed
import Derived.Shelf.Strings.Builder1
import Derived.Shelf.Strings.Builder2
import Derived.Shelf.Strings.OnBuilder
import Derived.Shelf.LaysM
import Derived.Shelf.Strconv.Clone
import Derived.Shelf.Strings.Search1
import Derived.Shelf.Strings.Search2
import Derived.Shelf.Strings.Search3
import Derived.Shelf.Strings.Cut
import Derived.Shelf.Strings.Count
import Derived.Shelf.Strings.Shaped
import Derived.Shelf.Strings.Split
import Derived.Shelf.Strings.SplitShaped
import Derived.Shelf.Unicode.DecodeSlow
import Derived.Test.YtogmkdhljifbpaaDoorProg
import Derived.Test.YtogmkdhljifbpaaDoorW4
/- What the laws of messages are handed: a message, read out of memory, and its bulk. -/
namespace Go.Proofs.YtogmkdhljifbpaaDoor
open Go.ChangeShapes Go.WideShapes Go.ChangeAt Go.RowKit

section
variable {H : Type} {enc : TypeId × Value → H} {w : World} {base : Nat} {spare : Nat → Bool} {held : Bool}

theorem Tryd.cellsRec : Tryd.prog.cellsOf 54 = 7 := by kernel_rfl
theorem Tryd.cellsQue : Tryd.prog.cellsOf 27 = 2 := by kernel_rfl
theorem Tryd.cellsMsg : Tryd.prog.cellsOf 30 = 7 := by kernel_rfl
theorem Tryd.cellsRecs : Tryd.prog.cellsOf 28 = 1 := by kernel_rfl
theorem Tryd.cellsC9 : Tryd.prog.cellsOf 9 = 1 := by kernel_rfl
theorem Tryd.cellsC3 : Tryd.prog.cellsOf 3 = 1 := by kernel_rfl
theorem Tryd.cellsC4 : Tryd.prog.cellsOf 4 = 1 := by kernel_rfl

set_option maxRecDepth 100000 in
theorem rec_of_trod {fuel : Nat} {cs : List Value} {x : DataW H × List MemPlace} (h : DataW.trod enc Tryd.prog w base spare held fuel 54 cs = some x) :
    ∃ m : Rc.Rec, cs = m.cs ∧ m.ok ∧ m.name.size + m.text.size + m.target.size ≤ Rows.uptoBulk x.1 := by
  obtain ⟨xs, n, _, hx, hl, hlen, hf⟩ := DataW.trod_struct Tryd.underlying54 h
  rw [Tryd.cellsRec] at hl
  match cs, hl with
  | [c0, c1, c2, c3, c4, c5, c6], _ =>
    match xs, hlen with
    | [y0, y1, y2, y3, y4, y5, y6], _ =>
      have h0 := hf 0 _ rfl
      have h1 := hf 1 _ rfl
      have h2 := hf 2 _ rfl
      have h3 := hf 3 _ rfl
      have h4 := hf 4 _ rfl
      have h5 := hf 5 _ rfl
      have h6 := hf 6 _ rfl
      simp [Tryd.cellsC9] at h0
      simp [Tryd.cellsC3] at h1
      simp [Tryd.cellsC3] at h2
      simp [Tryd.cellsC3] at h3
      simp [Tryd.cellsC9] at h4
      simp [Tryd.cellsC3] at h5
      simp [Tryd.cellsC9] at h6
      obtain ⟨a0, e0, d0, w0⟩ := DataW.trod_string Tryd.underlying9 h0
      obtain ⟨a1, e1, _⟩ := DataW.trod_int Tryd.underlying3 h1
      obtain ⟨a2, e2, _⟩ := DataW.trod_int Tryd.underlying3 h2
      obtain ⟨a3, e3, _⟩ := DataW.trod_int Tryd.underlying3 h3
      obtain ⟨a4, e4, d4, w4⟩ := DataW.trod_string Tryd.underlying9 h4
      obtain ⟨a5, e5, _⟩ := DataW.trod_int Tryd.underlying3 h5
      obtain ⟨a6, e6, d6, w6⟩ := DataW.trod_string Tryd.underlying9 h6
      simp only [List.cons.injEq, and_true] at e0 e1 e2 e3 e4 e5 e6
      subst e0 e1 e2 e3 e4 e5 e6
      refine ⟨⟨a0, a1, a2, a3, a4, a5, a6⟩, rfl, ⟨w0, w4, w6⟩, ?_⟩
      have z0 : a0.data.toList.length = a0.size := by simp
      have z4 : a4.data.toList.length = a4.size := by simp
      have z6 : a6.data.toList.length = a6.size := by simp
      rw [hx, d0, d4, d6]
      simp only [List.map_cons, List.map_nil, Rows.uptoBulk, Rows.uptoBulkAll, z0, z4, z6]
      omega

theorem bulk_mem : ∀ (l : List (DataW H)) (d : DataW H), d ∈ l → Rows.uptoBulk d ≤ Rows.uptoBulkAll l
  | [], _, h => by cases h
  | x :: r, d, h => by
    rcases List.mem_cons.1 h with rfl | h
    · simp only [Rows.uptoBulkAll]; omega
    · have := bulk_mem r d h
      simp only [Rows.uptoBulkAll]; omega

theorem recs_of_trod {fuel : Nat} {cs : List Value} {x : DataW H × List MemPlace} (h : DataW.trod enc Tryd.prog w base spare held fuel 28 cs = some x) :
    ∃ (v : Value) (ms : List Rc.Rec), cs = [v] ∧ Rc.Sl w v ms ∧ (∃ pa cap, v = .slice pa ms.length cap ∧ ms.length ≤ cap) ∧ ∀ r ∈ ms, r.name.size + r.text.size + r.target.size ≤ Rows.uptoBulk x.1 := by
  rcases Go.Deep.open_slice Tryd.underlying28 h with ⟨hcs, _⟩ | ⟨x0, len, cap, m, n, D, Pl, hcs, hb, hl, hm, hmm, hx1, hx⟩
  · exact ⟨_, [], hcs, ⟨none, 0, rfl, Rc.ns_get (by simp), .inl rfl⟩, ⟨none, 0, rfl, by simp⟩, by simp⟩
  · have hlm : len ≤ m := by rw [hmm]; split <;> omega
    have hall : ∀ i, i < len → ∃ q : Rc.Rec, (∀ t, t < 7 → w.cell? (x0.add (i * 7 + t)) = q.cs[t]?) ∧ q.ok ∧ q.name.size + q.text.size + q.target.size ≤ Rows.uptoBulk (D i) := fun i hi => by
      obtain ⟨cs', h1, h2⟩ := hx i (by omega)
      obtain ⟨q, hq, hs, hz⟩ := rec_of_trod h2
      rw [Tryd.cellsRec] at h1
      obtain ⟨_, _, h3⟩ := World.cells?_some h1
      refine ⟨q, fun t ht => ?_, hs, hz⟩
      rw [← Go.Deep.add_add, h3 t ht, hq]
    have hinh : Inhabited Rc.Rec := ⟨Rc.dm⟩
    obtain ⟨F, hF⟩ := Go.Deep.choose_lt (α := Rc.Rec) (p := fun i q => (∀ t, t < 7 → w.cell? (x0.add (i * 7 + t)) = q.cs[t]?) ∧ q.ok ∧ q.name.size + q.text.size + q.target.size ≤ Rows.uptoBulk (D i)) hall
    have hget : ∀ j, j < len → ((List.range len).map F).getD j Rc.dm = F j := fun j hj => by simp [List.getD, hj]
    refine ⟨_, (List.range len).map F, hcs, ⟨some x0, cap, by simp, Rc.ns_get (fun q hq => ?_), ?_⟩, ⟨some x0, cap, by simp, by simpa using hl⟩, fun q hq => ?_⟩
    · obtain ⟨j, hj, rfl⟩ := List.mem_map.1 hq
      exact (hF j (List.mem_range.1 hj)).2.1
    · by_cases h0 : len = 0
      · left; simp [h0]
      · right
        obtain ⟨b, off, spot⟩ := x0
        have hc0 := (hF 0 (by omega)).1 0 (by omega)
        have hspot : spot = none := by simpa [Addr.add] using World.cell?_spot hc0
        subst hspot
        have hcell : ∀ j, j < len → ∀ t, t < 7 → w.cell? ⟨b, off + j * 7 + t, none⟩ = (F j).cs[t]? := fun j hj t ht => by
          have := (hF j hj).1 t ht
          rwa [Go.WideShapes.add_plain, ← Nat.add_assoc] at this
        refine ⟨b, off, rfl, World.block_lt_of_cell? w ⟨b, off + 0 * 7 + 0, none⟩ (hcell 0 (by omega) 0 (by omega)), fun j hj => ?_⟩
        have hj' : j < len := by simpa using hj
        rw [hget j hj']
        exact ⟨hcell j hj' 0 (by omega), hcell j hj' 1 (by omega), hcell j hj' 2 (by omega), hcell j hj' 3 (by omega), hcell j hj' 4 (by omega), hcell j hj' 5 (by omega), hcell j hj' 6 (by omega)⟩
    · obtain ⟨j, hj, rfl⟩ := List.mem_map.1 hq
      have hj2 := List.mem_range.1 hj
      have h1 := (hF j hj2).2.2
      have h2 := bulk_mem ((List.range len).map D) (D j) (List.mem_map.2 ⟨j, hj, rfl⟩)
      rw [hx1]
      simp only [Rows.uptoBulk]
      omega

set_option maxRecDepth 100000 in
theorem msg_of_trod {fuel : Nat} {cs : List Value} {x : DataW H × List MemPlace} (h : DataW.trod enc Tryd.prog w base spare held fuel 30 cs = some x) :
    ∃ (id code typ : Int) (ans cut : Bool) (name : ByteArray) (v : Value) (rs : List Rc.Rec), cs = [.int .i64 id, .bool ans, .bool cut, .int .i64 code, .string name, .int .i64 typ, v] ∧ name.size ≤ maxLen ∧ Rc.Sl w v rs ∧ (∃ pa cap, v = .slice pa rs.length cap ∧ rs.length ≤ cap) ∧ name.size ≤ Rows.uptoBulk x.1 ∧ ∀ r ∈ rs, r.name.size + r.text.size + r.target.size ≤ Rows.uptoBulk x.1 := by
  obtain ⟨xs, n, _, hx, hl, hlen, hf⟩ := DataW.trod_struct Tryd.underlying30 h
  rw [Tryd.cellsMsg] at hl
  match cs, hl with
  | [c0, c1, c2, c3, c4, c5, c6], _ =>
    match xs, hlen with
    | [y0, y1, y2, y3, y4, y5], _ =>
      have h0 := hf 0 _ rfl
      have h1 := hf 1 _ rfl
      have h2 := hf 2 _ rfl
      have h3 := hf 3 _ rfl
      have h4 := hf 4 _ rfl
      have h5 := hf 5 _ rfl
      simp [Tryd.cellsC3] at h0
      simp [Tryd.cellsC4] at h1
      simp [Tryd.cellsC4] at h2
      simp [Tryd.cellsC3] at h3
      simp [Tryd.cellsQue] at h4
      simp [Tryd.cellsRecs] at h5
      obtain ⟨a0, e0, _⟩ := DataW.trod_int Tryd.underlying3 h0
      obtain ⟨a1, e1, _⟩ := DataW.trod_bool Tryd.underlying4 h1
      obtain ⟨a2, e2, _⟩ := DataW.trod_bool Tryd.underlying4 h2
      obtain ⟨a3, e3, _⟩ := DataW.trod_int Tryd.underlying3 h3
      obtain ⟨v, rs, e5, hsl, hcp, hbk⟩ := recs_of_trod h5
      obtain ⟨zs, n2, _, hx2, hl2, hlen2, hf2⟩ := DataW.trod_struct Tryd.underlying27 h4
      match zs, hlen2 with
      | [u0, u1], _ =>
        have g0 := hf2 0 _ rfl
        have g1 := hf2 1 _ rfl
        simp [Tryd.cellsC9] at g0
        simp [Tryd.cellsC3] at g1
        obtain ⟨a4, e4, d4, w4⟩ := DataW.trod_string Tryd.underlying9 g0
        obtain ⟨a5, e6, _⟩ := DataW.trod_int Tryd.underlying3 g1
        simp only [List.cons.injEq, and_true] at e0 e1 e2 e3 e4 e5 e6
        subst e0 e1 e2 e3 e4 e5 e6
        have z4 : a4.data.toList.length = a4.size := by simp
        have hz : a4.size ≤ Rows.uptoBulk x.1 ∧ Rows.uptoBulk y5.1 ≤ Rows.uptoBulk x.1 := by
          rw [hx]
          simp only [List.map_cons, List.map_nil, Rows.uptoBulk, Rows.uptoBulkAll, hx2, d4, z4]
          omega
        exact ⟨a0, a3, a5, a1, a2, a4, _, rs, rfl, w4, hsl, hcp, hz.1, fun r hr => Nat.le_trans (hbk r hr) hz.2⟩

set_option maxRecDepth 100000 in
theorem open_msgc {r : Reach} {b0 : Nat} {v : Value} {d : DataW H} {p : List MemPlace} (hv : Value.okWide Tryd.prog w r b0 30 v) (h : DataW.Trod enc Tryd.prog w base spare held 30 v d p) :
    ∃ (id code typ : Int) (ans cut : Bool) (name : ByteArray) (u : Value) (rs : List Rc.Rec), v = .agg #[.int .i64 id, .bool ans, .bool cut, .int .i64 code, .string name, .int .i64 typ, u] ∧ name.size ≤ maxLen ∧ Rc.Sl w u rs ∧ (∃ pa cap, u = .slice pa rs.length cap ∧ rs.length ≤ cap) ∧ name.size ≤ Rows.uptoBulk d ∧ ∀ r ∈ rs, r.name.size + r.text.size + r.target.size ≤ Rows.uptoBulk d := by
  obtain ⟨cs, rfl, hsz⟩ := okWide_struct Tryd.underlying30 hv
  obtain ⟨fuel, hf⟩ := h
  obtain ⟨id, code, typ, ans, cut, name, u, rs, hm, h1, h2, hc, h3, h4⟩ := msg_of_trod hf
  refine ⟨id, code, typ, ans, cut, name, u, rs, ?_, h1, h2, hc, h3, h4⟩
  simp only [Value.cells] at hm
  congr 1
  apply Array.ext'
  exact hm

set_option maxRecDepth 100000 in
theorem open_msg {r : Reach} {b0 : Nat} {v : Value} {d : DataW H} {p : List MemPlace} (hv : Value.okWide Tryd.prog w r b0 30 v) (h : DataW.Trod enc Tryd.prog w base spare held 30 v d p) :
    ∃ (id code typ : Int) (ans cut : Bool) (name : ByteArray) (u : Value) (rs : List Rc.Rec), v = .agg #[.int .i64 id, .bool ans, .bool cut, .int .i64 code, .string name, .int .i64 typ, u] ∧ name.size ≤ maxLen ∧ Rc.Sl w u rs ∧ name.size ≤ Rows.uptoBulk d ∧ ∀ r ∈ rs, r.name.size + r.text.size + r.target.size ≤ Rows.uptoBulk d := by
  obtain ⟨id, code, typ, ans, cut, name, u, rs, hm, h1, h2, _, h3, h4⟩ := open_msgc hv h
  exact ⟨id, code, typ, ans, cut, name, u, rs, hm, h1, h2, h3, h4⟩

end

end Go.Proofs.YtogmkdhljifbpaaDoor

/- Contracts of the library, laid at this program. -/
namespace Go.Proofs
open Go.Shelf
def Tryd.laysM146_ren : Go.Shelf.Ren := ⟨fun | 146 => 80 | 221 => 90 | 268 => 94 | 138 => 25 | 143 => 47 | 195 => 45 | 197 => 96 | 218 => 46 | 219 => 63 | 260 => 97 | 217 => 75 | 225 => 76 | 224 => 77 | 267 => 78 | 266 => 87 | 314 => 88 | n => n, fun | 9 => 9 | 31 => 46 | 3 => 3 | 4 => 4 | 0 => 0 | 105 => 112 | 21 => 21 | 5 => 5 | 46 => 91 | 119 => 114 | 139 => 117 | 138 => 116 | 146 => 105 | 51 => 104 | n => n, fun | 1 => 0 | 3 => 1 | 4 => 2 | n => n⟩
theorem Tryd.laysM146 : Go.Proofs.LaysM.n146 Tryd.prog Tryd.laysM146_ren := {
  mixed := by kernel_rfl
  f138 := Tryd.func25.trans (congrArg some (by kernel_rfl))
  f143 := Tryd.func47.trans (congrArg some (by kernel_rfl))
  f146 := Tryd.func80.trans (congrArg some (by kernel_rfl))
  f195 := Tryd.func45.trans (congrArg some (by kernel_rfl))
  f197 := Tryd.func96.trans (congrArg some (by kernel_rfl))
  f217 := Tryd.func75.trans (congrArg some (by kernel_rfl))
  f218 := Tryd.func46.trans (congrArg some (by kernel_rfl))
  f219 := Tryd.func63.trans (congrArg some (by kernel_rfl))
  f221 := Tryd.func90.trans (congrArg some (by kernel_rfl))
  f224 := Tryd.func77.trans (congrArg some (by kernel_rfl))
  f225 := Tryd.func76.trans (congrArg some (by kernel_rfl))
  f260 := Tryd.func97.trans (congrArg some (by kernel_rfl))
  f266 := Tryd.func87.trans (congrArg some (by kernel_rfl))
  f267 := Tryd.func78.trans (congrArg some (by kernel_rfl))
  f268 := Tryd.func94.trans (congrArg some (by kernel_rfl))
  f314 := Tryd.func88.trans (congrArg some (by kernel_rfl))
  t0 := Tryd.underlying0
  a0 := Tryd.isAgg0
  z0 := Tryd.sizeOf0
  v0 := Tryd.zeroValue0
  t3 := Tryd.underlying3
  a3 := Tryd.isAgg3
  z3 := Tryd.sizeOf3
  v3 := Tryd.zeroValue3
  t4 := Tryd.underlying4
  a4 := Tryd.isAgg4
  z4 := Tryd.sizeOf4
  v4 := Tryd.zeroValue4
  t5 := Tryd.underlying5
  a5 := Tryd.isAgg5
  z5 := Tryd.sizeOf5
  v5 := Tryd.zeroValue5
  t9 := Tryd.underlying9
  a9 := Tryd.isAgg9
  z9 := Tryd.sizeOf9
  v9 := Tryd.zeroValue9
  t21 := Tryd.underlying21
  a21 := Tryd.isAgg21
  z21 := Tryd.sizeOf21
  v21 := Tryd.zeroValue21
  t31 := Tryd.underlying46
  a31 := Tryd.isAgg46
  z31 := Tryd.sizeOf46
  v31 := Tryd.zeroValue46
  t46 := Tryd.underlying91
  a46 := Tryd.isAgg91
  z46 := Tryd.sizeOf91
  v46 := Tryd.zeroValue91
  t51 := Tryd.underlying104
  a51 := Tryd.isAgg104
  z51 := Tryd.sizeOf104
  v51 := Tryd.zeroValue104
  t105 := Tryd.underlying112
  a105 := Tryd.isAgg112
  z105 := Tryd.sizeOf112
  v105 := Tryd.zeroValue112
  t119 := Tryd.underlying114
  a119 := Tryd.isAgg114
  z119 := Tryd.sizeOf114
  t138 := Tryd.underlying116
  a138 := Tryd.isAgg116
  z138 := Tryd.sizeOf116
  v138 := Tryd.zeroValue116
  t139 := Tryd.underlying117
  a139 := Tryd.isAgg117
  z139 := Tryd.sizeOf117
  v139 := Tryd.zeroValue117
  t146 := Tryd.underlying105
  a146 := Tryd.isAgg105
  z146 := Tryd.sizeOf105
  v146 := Tryd.zeroValue105
  g1 := by kernel_rfl
  g3 := by kernel_rfl
  g4 := by kernel_rfl
  i0 := by kernel_rfl
  i3 := by kernel_rfl
  i4 := by kernel_rfl
  i5 := by kernel_rfl
  i9 := by kernel_rfl
  i21 := by kernel_rfl
  i31 := by kernel_rfl
  i46 := by kernel_rfl
  i51 := by kernel_rfl
  i105 := by kernel_rfl
  i138 := by kernel_rfl
  i139 := by kernel_rfl
  i146 := by kernel_rfl
  m1 := by kernel_rfl
  s1_3 := fun w h => Go.Proofs.cell_of_shapedOpen_int (zero := #[.int .i64 0]) (t := 3) h (of_decide_eq_true (by kernel_rfl)) (by kernel_rfl) rfl (by kernel_rfl) (by kernel_rfl) Tryd.underlying3
  m3 := by kernel_rfl
  m4 := by kernel_rfl }
open Go.RowKit Go.Lib in
theorem Tryd.strings_Split_shaped (s sep : ByteArray) (w : World) (h : w.ShapedOpen Tryd.prog) (hs : s.size < 4294967281) (h1 : 1 ≤ sep.size) :
    Calls Tryd.prog 80 #[.string s, .string sep] w fun e w' =>
      e = .returned (.slice (some ⟨w.heap.size, 0, none⟩) (Lib.countB s sep + 1) (Lib.countB s sep + 1)) ∧ w' = w.alloc (.cells ((Lib.splitB sep 0 (Lib.countB s sep) s).map Value.string).toArray 9) := Any.strings_Split_shaped Tryd.laysM146 s sep w h hs h1
end Go.Proofs

/- MaxLen's cell, in a world that is as worlds are. -/
namespace Go.Proofs.YtogmkdhljifbpaaDoor
open Go.ChangeShapes Go.WideShapes Go.ChangeAt Go.RowKit

theorem ml_of {W : World} (h : W.ShapedOpen Tryd.prog) : ML W := by
  obtain ⟨m, hm⟩ := Tryd.laysM146.s1_3 W h
  have hm2 : W.cell? ⟨0, 0, none⟩ = some (.int .i64 m) := hm
  exact ⟨World.block_lt_of_cell? W ⟨0, 0, none⟩ hm2, m, hm2⟩

end Go.Proofs.YtogmkdhljifbpaaDoor

/- A law that is handed what its row says of variables, in a world that is as worlds are. -/
namespace Go.Proofs.YtogmkdhljifbpaaDoor
open Go.ChangeShapes Go.WideShapes Go.ChangeAt Go.RowKit

/-- A law that is handed what its row says of variables, in a world that is as worlds are. -/
theorem returns_of_shaped {H : Type} {enc : TypeId × Value → H} {a : Assume} {C : Checked} {os : Os} {f : FuncId} {fn : Func} {s : ChangeSpec} {conds : List PathCond} {apart fresh handsOn again : Bool} {X : World → Array Value → Prop}
    (own : ownKnob C.prog.godebug = none) (started : os.Started) (noInit : C.prog.inits.idxOf? f = none) (hfn : C.prog.funcs[f]? = some fn)
    (witness : ∃ (w : World) (tape : Tape) (i : Input), w.os = os ∧ (w.forCall tape i).Shaped C.prog ∧ i.vars = [] ∧ Input.okWide C.prog (w.forCall tape i) .any w.heap.size f i ∧
      ((s.pre enc C.prog fn conds apart (w.forCall tape i).memory i.args ∧ X (w.forCall tape i).memory i.args) ∧ sizedMet enc C.prog fn (OpenSpec.ofChange s) apart (w.forCall tape i).memory i.args) ∧ a.holds C.prog (lone (Frame.enter C.prog f i.args .normal) [] (w.forCall tape i)))
    (contract : ∀ (W : World) (base : Nat) (args : Array Value) (ds gs : List (DataW H)) (before : List MemPlace), W.ShapedOpen C.prog →
      (∀ (j : Nat) t v, fn.params[j]? = some t → args[j]? = some v → Value.okWide C.prog W .any base t v) →
      DataW.Whole enc C.prog fn.params.toList s.vars apart W args.toList ds gs before →
      Calls C.prog f args W fun e W' => ∃ v, e = .returned v ∧ s.post enc C.prog fn apart fresh handsOn again W args v W') :
    ReturnsInHanded a C os f .any (fun w args => (s.pre enc C.prog fn conds apart w args ∧ X w args) ∧ sizedMet enc C.prog fn (OpenSpec.ofChange s) apart w args) (s.post enc C.prog fn apart fresh handsOn again) := by
  refine returnsInHanded_of_calls own started noInit witness ?_
  intro w tape i _ hsh _ hok hpre _
  obtain ⟨_, _, _, fn', hfn', _, _, _, _, hval⟩ := hok
  have e : fn' = fn := Option.some.inj (hfn'.symm.trans hfn)
  subst e
  obtain ⟨⟨⟨ds, gs, before, hw, _⟩, _⟩, _⟩ := hpre
  refine (contract (w.forCall tape i) w.heap.size i.args ds gs before hsh hval (DataW.Whole.of_heap (w' := w.forCall tape i) (by rfl) hw)).mono fun e W' ⟨v, he, hp⟩ => ?_
  subst he
  exact ChangeSpec.post_blind hp

end Go.Proofs.YtogmkdhljifbpaaDoor

