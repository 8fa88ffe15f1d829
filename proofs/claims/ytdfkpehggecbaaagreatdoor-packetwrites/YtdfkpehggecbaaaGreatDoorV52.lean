/- SKT, MKT, NTK, NFE -/
import Derived.Test.YtdfkpehggecbaaaGreatDoorV5
import Derived.Deep.Slices
import Derived.Lib.SmallJoins
import Derived.ProofKit
import Derived.OpenShut
import Derived.Handed
import Derived.Test.YtdfkpehggecbaaaGreatDoorV1
import Derived.Test.YtdfkpehggecbaaaGreatDoorV6
import Derived.Test.YtdfkpehggecbaaaGreatDoorV7
import Derived.Test.YtdfkpehggecbaaaGreatDoorV28
import Derived.SizedLaws
/- Lists of services that lie within what a law is handed. -/
namespace Go.Proofs.YtdfkpehggecbaaaGreatDoor
namespace Sv
open Go.ChangeShapes Go.WideShapes Go.ChangeAt Go.RowKit

section
variable {H : Type} {enc : TypeId × Value → H} {w : World} {base : Nat} {spare : Nat → Bool} {held : Bool}

theorem Tryz.kcT : Tryz.prog.cellsOf 60 = 9 := by kernel_rfl
theorem Tryz.kc9 : Tryz.prog.cellsOf 9 = 1 := by kernel_rfl
theorem Tryz.kc3 : Tryz.prog.cellsOf 3 = 1 := by kernel_rfl
theorem Tryz.kc4 : Tryz.prog.cellsOf 4 = 1 := by kernel_rfl

set_option maxRecDepth 100000 in
theorem elT_of_trod {fuel : Nat} {cs : List Value} {x : DataW H × List MemPlace} (h : DataW.trod enc Tryz.prog w base spare held fuel 60 cs = some x) :
    ∃ m : Svc, cs = [.string m.node, .string m.idn, .string m.name, .string m.tag, .int .i64 m.addr, .int .i64 m.port, .bool m.passing, .int .i64 m.version, .bool m.gone] ∧ (m).ok := by
  obtain ⟨xs, n, _, _, hl, hlen, hf⟩ := DataW.trod_struct Tryz.underlying60 h
  rw [Tryz.kcT] at hl
  match cs, hl with
  | [c0, c1, c2, c3, c4, c5, c6, c7, c8], _ =>
    match xs, hlen with
    | [y0, y1, y2, y3, y4, y5, y6, y7, y8], _ =>
      have h0 := hf 0 _ rfl
      have h1 := hf 1 _ rfl
      have h2 := hf 2 _ rfl
      have h3 := hf 3 _ rfl
      have h4 := hf 4 _ rfl
      have h5 := hf 5 _ rfl
      have h6 := hf 6 _ rfl
      have h7 := hf 7 _ rfl
      have h8 := hf 8 _ rfl
      simp [Tryz.kc9] at h0
      simp [Tryz.kc9] at h1
      simp [Tryz.kc9] at h2
      simp [Tryz.kc9] at h3
      simp [Tryz.kc3] at h4
      simp [Tryz.kc3] at h5
      simp [Tryz.kc4] at h6
      simp [Tryz.kc3] at h7
      simp [Tryz.kc4] at h8
      obtain ⟨z0, e0, _, g0⟩ := DataW.trod_string Tryz.underlying9 h0
      obtain ⟨z1, e1, _, g1⟩ := DataW.trod_string Tryz.underlying9 h1
      obtain ⟨z2, e2, _, g2⟩ := DataW.trod_string Tryz.underlying9 h2
      obtain ⟨z3, e3, _, g3⟩ := DataW.trod_string Tryz.underlying9 h3
      obtain ⟨z4, e4, _⟩ := DataW.trod_int Tryz.underlying3 h4
      obtain ⟨z5, e5, _⟩ := DataW.trod_int Tryz.underlying3 h5
      obtain ⟨z6, e6, _⟩ := DataW.trod_bool Tryz.underlying4 h6
      obtain ⟨z7, e7, _⟩ := DataW.trod_int Tryz.underlying3 h7
      obtain ⟨z8, e8, _⟩ := DataW.trod_bool Tryz.underlying4 h8
      simp only [List.cons.injEq, and_true] at e0 e1 e2 e3 e4 e5 e6 e7 e8
      subst e0 e1 e2 e3 e4 e5 e6 e7 e8
      exact ⟨⟨z0, z1, z2, z3, z4, z5, z6, z7, z8⟩, rfl, ⟨g0, g1, g2, g3⟩⟩

set_option maxRecDepth 100000 in
theorem elsT_of_trod {fuel : Nat} {cs : List Value} {x : DataW H × List MemPlace} (h : DataW.trod enc Tryz.prog w base spare held fuel 23 cs = some x) :
    ∃ (p : Option Addr) (n c : Nat) (ms : List Svc), cs = [.slice p n c] ∧ Sl w (.slice p n c) ms ∧ ms.length ≤ maxLen := by
  rcases Go.Deep.open_slice Tryz.underlying23 h with ⟨hcs, _⟩ | ⟨x, len, cap, m, n, D, Pl, hcs, hb, hl, hm, hmm, _, hx⟩
  · exact ⟨none, 0, 0, [], hcs, ⟨none, 0, rfl, ns_get (by simp), .inl rfl⟩, by simp⟩
  · have hlm : len ≤ m := by rw [hmm]; split <;> omega
    have hall : ∀ i, i < len → ∃ q : Svc, (∀ t, t < 9 → w.cell? (x.add (i * 9 + t)) = q.cs[t]?) ∧ (q).ok := fun i hi => by
      obtain ⟨cs', h1, h2⟩ := hx i (by omega)
      obtain ⟨q, hq, hs⟩ := elT_of_trod h2
      rw [Tryz.kcT] at h1
      obtain ⟨_, _, h3⟩ := World.cells?_some h1
      refine ⟨q, fun t ht => ?_, hs⟩
      rw [← Go.Deep.add_add, h3 t ht, hq]
      rfl
    have hinh : Inhabited Svc := ⟨dm⟩
    obtain ⟨F, hF⟩ := Go.Deep.choose_lt (α := Svc) (p := fun i q => (∀ t, t < 9 → w.cell? (x.add (i * 9 + t)) = q.cs[t]?) ∧ (q).ok) hall
    have hget : ∀ j, j < len → ((List.range len).map F).getD j dm = F j := fun j hj => by simp [List.getD, hj]
    refine ⟨some x, len, cap, (List.range len).map F, hcs, ⟨some x, cap, by simp, ns_get (fun q hq => ?_), ?_⟩, by simp; omega⟩
    · obtain ⟨j, hj, rfl⟩ := List.mem_map.1 hq
      exact (hF j (List.mem_range.1 hj)).2
    · by_cases h0 : len = 0
      · left; simp [h0]
      · right
        obtain ⟨b, off, spot⟩ := x
        have hc0 := (hF 0 (by omega)).1 0 (by omega)
        have hspot : spot = none := by simpa [Addr.add] using World.cell?_spot hc0
        subst hspot
        have hcell : ∀ j, j < len → ∀ t, t < 9 → w.cell? ⟨b, off + j * 9 + t, none⟩ = (F j).cs[t]? := fun j hj t ht => by
          have := (hF j hj).1 t ht
          rwa [Go.WideShapes.add_plain, ← Nat.add_assoc] at this
        refine ⟨b, off, rfl, World.block_lt_of_cell? w ⟨b, off + 0 * 9 + 0, none⟩ (hcell 0 (by omega) 0 (by omega)), fun j hj => ?_⟩
        have hj' : j < len := by simpa using hj
        rw [hget j hj']
        exact ⟨hcell j hj' 0 (by omega), hcell j hj' 1 (by omega), hcell j hj' 2 (by omega), hcell j hj' 3 (by omega), hcell j hj' 4 (by omega), hcell j hj' 5 (by omega), hcell j hj' 6 (by omega), hcell j hj' 7 (by omega), hcell j hj' 8 (by omega)⟩

end
end Sv
end Go.Proofs.YtdfkpehggecbaaaGreatDoor

/- Lists of members that lie within what a law is handed. -/
namespace Go.Proofs.YtdfkpehggecbaaaGreatDoor

open Go.ChangeShapes Go.WideShapes Go.ChangeAt Go.RowKit

section
variable {H : Type} {enc : TypeId × Value → H} {w : World} {base : Nat} {spare : Nat → Bool} {held : Bool}

theorem Tryz.kcT : Tryz.prog.cellsOf 55 = 5 := by kernel_rfl
theorem Tryz.kc9 : Tryz.prog.cellsOf 9 = 1 := by kernel_rfl
theorem Tryz.kc3 : Tryz.prog.cellsOf 3 = 1 := by kernel_rfl
theorem Tryz.kc4 : Tryz.prog.cellsOf 4 = 1 := by kernel_rfl

set_option maxRecDepth 100000 in
theorem elT_of_trod {fuel : Nat} {cs : List Value} {x : DataW H × List MemPlace} (h : DataW.trod enc Tryz.prog w base spare held fuel 55 cs = some x) :
    ∃ m : Mem, cs = [.string m.name, .int .i64 m.state, .int .i64 m.life, .int .i64 m.addr, .bool m.server] ∧ (m).name.size ≤ maxLen := by
  obtain ⟨xs, n, _, _, hl, hlen, hf⟩ := DataW.trod_struct Tryz.underlying55 h
  rw [Tryz.kcT] at hl
  match cs, hl with
  | [c0, c1, c2, c3, c4], _ =>
    match xs, hlen with
    | [y0, y1, y2, y3, y4], _ =>
      have h0 := hf 0 _ rfl
      have h1 := hf 1 _ rfl
      have h2 := hf 2 _ rfl
      have h3 := hf 3 _ rfl
      have h4 := hf 4 _ rfl
      simp [Tryz.kc9] at h0
      simp [Tryz.kc3] at h1
      simp [Tryz.kc3] at h2
      simp [Tryz.kc3] at h3
      simp [Tryz.kc4] at h4
      obtain ⟨z0, e0, _, g0⟩ := DataW.trod_string Tryz.underlying9 h0
      obtain ⟨z1, e1, _⟩ := DataW.trod_int Tryz.underlying3 h1
      obtain ⟨z2, e2, _⟩ := DataW.trod_int Tryz.underlying3 h2
      obtain ⟨z3, e3, _⟩ := DataW.trod_int Tryz.underlying3 h3
      obtain ⟨z4, e4, _⟩ := DataW.trod_bool Tryz.underlying4 h4
      simp only [List.cons.injEq, and_true] at e0 e1 e2 e3 e4
      subst e0 e1 e2 e3 e4
      exact ⟨⟨z0, z1, z2, z3, z4⟩, rfl, g0⟩

set_option maxRecDepth 100000 in
theorem elsT_of_trod {fuel : Nat} {cs : List Value} {x : DataW H × List MemPlace} (h : DataW.trod enc Tryz.prog w base spare held fuel 22 cs = some x) :
    ∃ (p : Option Addr) (n c : Nat) (ms : List Mem), cs = [.slice p n c] ∧ Sl w (.slice p n c) ms ∧ ms.length ≤ maxLen := by
  rcases Go.Deep.open_slice Tryz.underlying22 h with ⟨hcs, _⟩ | ⟨x, len, cap, m, n, D, Pl, hcs, hb, hl, hm, hmm, _, hx⟩
  · exact ⟨none, 0, 0, [], hcs, ⟨none, 0, rfl, ns_get (by simp), .inl rfl⟩, by simp⟩
  · have hlm : len ≤ m := by rw [hmm]; split <;> omega
    have hall : ∀ i, i < len → ∃ q : Mem, (∀ t, t < 5 → w.cell? (x.add (i * 5 + t)) = q.cs[t]?) ∧ (q).name.size ≤ maxLen := fun i hi => by
      obtain ⟨cs', h1, h2⟩ := hx i (by omega)
      obtain ⟨q, hq, hs⟩ := elT_of_trod h2
      rw [Tryz.kcT] at h1
      obtain ⟨_, _, h3⟩ := World.cells?_some h1
      refine ⟨q, fun t ht => ?_, hs⟩
      rw [← Go.Deep.add_add, h3 t ht, hq]
      rfl
    have hinh : Inhabited Mem := ⟨dm⟩
    obtain ⟨F, hF⟩ := Go.Deep.choose_lt (α := Mem) (p := fun i q => (∀ t, t < 5 → w.cell? (x.add (i * 5 + t)) = q.cs[t]?) ∧ (q).name.size ≤ maxLen) hall
    have hget : ∀ j, j < len → ((List.range len).map F).getD j dm = F j := fun j hj => by simp [List.getD, hj]
    refine ⟨some x, len, cap, (List.range len).map F, hcs, ⟨some x, cap, by simp, ns_get (fun q hq => ?_), ?_⟩, by simp; omega⟩
    · obtain ⟨j, hj, rfl⟩ := List.mem_map.1 hq
      exact (hF j (List.mem_range.1 hj)).2
    · by_cases h0 : len = 0
      · left; simp [h0]
      · right
        obtain ⟨b, off, spot⟩ := x
        have hc0 := (hF 0 (by omega)).1 0 (by omega)
        have hspot : spot = none := by simpa [Addr.add] using World.cell?_spot hc0
        subst hspot
        have hcell : ∀ j, j < len → ∀ t, t < 5 → w.cell? ⟨b, off + j * 5 + t, none⟩ = (F j).cs[t]? := fun j hj t ht => by
          have := (hF j hj).1 t ht
          rwa [Go.WideShapes.add_plain, ← Nat.add_assoc] at this
        refine ⟨b, off, rfl, World.block_lt_of_cell? w ⟨b, off + 0 * 5 + 0, none⟩ (hcell 0 (by omega) 0 (by omega)), fun j hj => ?_⟩
        have hj' : j < len := by simpa using hj
        rw [hget j hj']
        exact ⟨hcell j hj' 0 (by omega), hcell j hj' 1 (by omega), hcell j hj' 2 (by omega), hcell j hj' 3 (by omega), hcell j hj' 4 (by omega)⟩

end

end Go.Proofs.YtdfkpehggecbaaaGreatDoor

/- Cells of lists. -/
namespace Go.Proofs.YtdfkpehggecbaaaGreatDoor

theorem Tryz.kcS : Tryz.prog.cellsOf 23 = 1 := by kernel_rfl
theorem Tryz.kcM : Tryz.prog.cellsOf 22 = 1 := by kernel_rfl
theorem Tryz.kcW : Tryz.prog.cellsOf 25 = 1 := by kernel_rfl
theorem Tryz.kcG : Tryz.prog.cellsOf 24 = 1 := by kernel_rfl

end Go.Proofs.YtdfkpehggecbaaaGreatDoor

/- Packets that a law is handed, read out of memory. -/
namespace Go.Proofs.YtdfkpehggecbaaaGreatDoor
open Go.ChangeShapes Go.WideShapes Go.ChangeAt Go.RowKit

section
variable {H : Type} {enc : TypeId × Value → H} {w : World} {base : Nat} {spare : Nat → Bool} {held : Bool}

theorem Tryz.kcPk : Tryz.prog.cellsOf 27 = 6 := by kernel_rfl
theorem Tryz.kcB4 : Tryz.prog.cellsOf 4 = 1 := by kernel_rfl
theorem Tryz.byS : Tryz.prog.bytesOf 60 = 104 := by kernel_rfl
theorem Tryz.byG : Tryz.prog.bytesOf 62 = 32 := by kernel_rfl
theorem Tryz.byW : Tryz.prog.bytesOf 66 = 56 := by kernel_rfl

theorem room_trod {t e : TypeId} {fuel n c : Nat} {p : Option Addr} {x : DataW H × List MemPlace} (ht : Tryz.prog.underlying t = some (.slice e)) (h : DataW.trod enc Tryz.prog w base spare held fuel t [.slice p n c] = some x) : n ≤ c := by
  rcases Go.Deep.open_slice ht h with ⟨hcs, _⟩ | ⟨a, len, cap, m, k, D, Pl, hcs, hb, hl, _⟩
  · simp at hcs; omega
  · simp at hcs; omega
theorem len_trod {t e : TypeId} {fuel n c : Nat} {p : Option Addr} {x : DataW H × List MemPlace} (ht : Tryz.prog.underlying t = some (.slice e)) (hby : 1 ≤ Tryz.prog.bytesOf e) (h : DataW.trod enc Tryz.prog w base spare held fuel t [.slice p n c] = some x)
    (hz : ∀ k ∈ x.1.weights Tryz.prog t, k ≤ reachBytes) : n ≤ reachBytes := by
  rcases Go.Deep.open_slice ht h with ⟨hcs, _⟩ | ⟨a, len, cap, m, k, D, Pl, hcs, hb, hl, hm, hmm, hx, _⟩
  · simp at hcs; omega
  · simp only [List.cons.injEq, Value.slice.injEq, and_true] at hcs
    obtain ⟨_, rfl, _⟩ := hcs
    rw [hx] at hz
    have h1 := hz ((((List.range n).map D).length + ((List.range (m - n)).map fun j => D (n + j)).length) * Tryz.prog.bytesOf e) (by simp [DataW.weights, ht])
    simp only [List.length_map, List.length_range] at h1
    have h2 : n * 1 ≤ (n + (m - n)) * Tryz.prog.bytesOf e := Nat.mul_le_mul (by omega) hby
    omega

set_option maxRecDepth 100000 in
theorem pk_of_trod {fuel : Nat} {cs : List Value} {x : DataW H × List MemPlace} (h : DataW.trod enc Tryz.prog w base spare held fuel 27 cs = some x) :
    ∃ (p : Pk) (zm zs zg zw : Value), cs = [.string p.frm, .bool p.whole, zm, zs, zg, zw] ∧ PkIs w p zm zs zg zw ∧ ((∀ k ∈ x.1.weights Tryz.prog 27, k ≤ reachBytes) → p.sv.length ≤ reachBytes ∧ p.gw.length ≤ reachBytes ∧ p.wh.length ≤ reachBytes) := by
  obtain ⟨xs, n, _, hxe, hl, hlen, hf⟩ := DataW.trod_struct Tryz.underlying27 h
  rw [Tryz.kcPk] at hl
  match cs, hl with
  | [c0, c1, c2, c3, c4, c5], _ =>
    match xs, hlen with
    | [y0, y1, y2, y3, y4, y5], _ =>
      have h0 := hf 0 _ rfl
      have h1 := hf 1 _ rfl
      have h2 := hf 2 _ rfl
      have h3 := hf 3 _ rfl
      have h4 := hf 4 _ rfl
      have h5 := hf 5 _ rfl
      simp [Tryz.kc9] at h0
      simp [Tryz.kcB4] at h1
      simp [Tryz.kcM] at h2
      simp [Tryz.kcS] at h3
      simp [Tryz.kcG] at h4
      simp [Tryz.kcW] at h5
      obtain ⟨s, e0, _, w0⟩ := DataW.trod_string Tryz.underlying9 h0
      obtain ⟨b, e1, _⟩ := DataW.trod_bool Tryz.underlying4 h1
      obtain ⟨pm, nm, cm, ms, e2, k2, _⟩ := elsT_of_trod h2
      obtain ⟨ps, ns, cn, sv, e3, k3, _⟩ := Sv.elsT_of_trod h3
      obtain ⟨pg, ng, cg, gw, e4, k4, _⟩ := Gw.elsT_of_trod h4
      obtain ⟨pw, nw, cw, wh, e5, k5, _⟩ := Wh.elsT_of_trod h5
      simp only [List.cons.injEq, and_true] at e0 e1 e2 e3 e4 e5
      subst e0 e1 e2 e3 e4 e5
      have r2 := room_trod Tryz.underlying22 h2
      have l3 : ns = sv.length := by obtain ⟨_, _, hv, _⟩ := k3; injection hv
      have l4 : ng = gw.length := by obtain ⟨_, _, hv, _⟩ := k4; injection hv
      have l5 : nw = wh.length := by obtain ⟨_, _, hv, _⟩ := k5; injection hv
      refine ⟨⟨s, b, ms, sv, gw, wh⟩, _, _, _, _, rfl, ⟨k2, k3, k4, k5, w0, r2⟩, fun hz => ?_⟩
      rw [hxe] at hz
      simp only [DataW.weights, Tryz.underlying27, List.map_cons, List.map_nil, DataW.weightsEach, List.mem_append] at hz
      refine ⟨?_, ?_, ?_⟩
      · show sv.length ≤ _
        rw [← l3]
        exact len_trod Tryz.underlying23 (by rw [Tryz.byS]; decide) h3 (fun k hk => hz k (by simp [hk]))
      · show gw.length ≤ _
        rw [← l4]
        exact len_trod Tryz.underlying24 (by rw [Tryz.byG]; decide) h4 (fun k hk => hz k (by simp [hk]))
      · show wh.length ≤ _
        rw [← l5]
        exact len_trod Tryz.underlying25 (by rw [Tryz.byW]; decide) h5 (fun k hk => hz k (by simp [hk]))
set_option maxRecDepth 100000 in
theorem open_packet {r : Reach} {b0 : Nat} {v : Value} {d : DataW H} {p : List MemPlace} (hv : Value.okWide Tryz.prog w r b0 27 v) (h : DataW.Trod enc Tryz.prog w base spare held 27 v d p) (hz : ∀ k ∈ d.weights Tryz.prog 27, k ≤ reachBytes) :
    ∃ (q : Pk) (zm zs zg zw : Value), v = .agg #[.string q.frm, .bool q.whole, zm, zs, zg, zw] ∧ PkIs w q zm zs zg zw ∧ (q.whole = true ∨ q.sv.length + q.gw.length + q.wh.length ≤ 4611686018427387904) := by
  obtain ⟨cs, rfl, hsz⟩ := okWide_struct Tryz.underlying27 hv
  obtain ⟨fuel, hf⟩ := h
  obtain ⟨q, zm, zs, zg, zw, hm, hs, hl⟩ := pk_of_trod hf
  obtain ⟨l1, l2, l3⟩ := hl hz
  have hr := reachBytes_lt
  refine ⟨q, zm, zs, zg, zw, ?_, hs, .inr (by omega)⟩
  simp only [Value.cells] at hm
  congr 1
  apply Array.ext'
  exact hm

end
end Go.Proofs.YtdfkpehggecbaaaGreatDoor

