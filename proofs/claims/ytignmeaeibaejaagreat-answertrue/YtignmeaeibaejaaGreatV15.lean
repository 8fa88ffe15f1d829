/- AN4, ShelfT, PS6 -/
import Derived.Test.YtignmeaeibaejaaGreatV11
import Derived.Test.YtignmeaeibaejaaGreatV12
import Derived.Test.YtignmeaeibaejaaGreatV14
import Derived.Test.YtignmeaeibaejaaGreatV1
import Derived.Shelf.SlSortCmp.NoneTotal
import Derived.Test.YtignmeaeibaejaaGreatProg
import Derived.Test.YtignmeaeibaejaaGreatV5
import Derived.Shelf.SlSortFunc.HeapSort
/- One record of a service; what is known, checked. -/
namespace Go.Proofs.YtignmeaeibaejaaGreat
open Go.RowKit

set_option maxHeartbeats 6400000 in
set_option maxRecDepth 100000 in
theorem krecord_any (here : ByteArray) (ps pm pw : Option Addr) (ns cs nm cm nw cw : Nat) (px py pz ph pq : Int) (name : ByteArray) (t : Int) (s : Sv.Svc) (w : World) (hh : here.size ≤ maxLen) (hs : s.node.size ≤ maxLen) :
    Calls Tryz.prog 50 #[.agg (knA here (.slice ps ns cs) (.slice pm nm cm) px py pz ph pq (.slice pw nw cw)), .agg #[.string name, .int .i64 t, .int .i64 0, .int .i64 0, .string ⟨#[]⟩, .int .i64 0, .string ⟨#[]⟩], .agg #[.string s.node, .string s.idn, .string s.name, .string s.tag, .int .i64 s.addr, .int .i64 s.port, .bool s.passing, .int .i64 s.version, .bool s.gone]] w fun e w' => ∃ r : Rc.Rec, e = .returned (.tuple #[.agg #[.string r.name, .int .i64 r.typ, .int .i64 r.lasts, .int .i64 r.addr, .string r.text, .int .i64 r.port, .string r.target], .int .i64 (recE here t s)]) ∧ (recE here t s = 0 → r = rec1 name here t s) ∧ Below w.heap.size w w' := by
  obtain ⟨nd, idn, snm, tag, ad, po, pa1, ver, gon⟩ := s
  simp only at hs
  by_cases h1 : t = 1
  · have HE : Hid (recE here t ⟨nd, idn, snm, tag, ad, po, pa1, ver, gon⟩ = 0) := by subst h1; rfl
    have HR : Hid (rec1 name here t ⟨nd, idn, snm, tag, ad, po, pa1, ver, gon⟩ = ⟨name, 1, 0, ad, ⟨#[]⟩, 0, ⟨#[]⟩⟩) := by subst h1; rfl
    subst h1
    go_enter Tryz.func50, Tryz.ntmps50
    go_wp2_with fail
    refine bodyPost_ret (v := .tuple #[.agg #[.string name, .int .i64 1, .int .i64 0, .int .i64 ad, .string ⟨#[]⟩, .int .i64 0, .string ⟨#[]⟩], .int .i64 0]) ?_ rfl ⟨⟨name, 1, 0, ad, ⟨#[]⟩, 0, ⟨#[]⟩⟩, by rw [HE.out], fun _ => HR.out.symm, ?_⟩
    · simp [results, Tryz.results50, go_sem]
    · exact ((((Below.refl _ _).alloc (Nat.le_refl _) _).alloc (by simp) _).alloc (by simp <;> omega) _).alloc (by simp <;> omega) _
  · by_cases h16 : t = 16
    · have HE : Hid (recE here t ⟨nd, idn, snm, tag, ad, po, pa1, ver, gon⟩ = 0) := by subst h16; rfl
      have HR : Hid (rec1 name here t ⟨nd, idn, snm, tag, ad, po, pa1, ver, gon⟩ = ⟨name, 16, 0, 0, idn, 0, ⟨#[]⟩⟩) := by subst h16; rfl
      subst h16
      clear h1
      go_enter Tryz.func50, Tryz.ntmps50
      go_wp2_with fail
      refine bodyPost_ret (v := .tuple #[.agg #[.string name, .int .i64 16, .int .i64 0, .int .i64 0, .string idn, .int .i64 0, .string ⟨#[]⟩], .int .i64 0]) ?_ rfl ⟨⟨name, 16, 0, 0, idn, 0, ⟨#[]⟩⟩, by rw [HE.out], fun _ => HR.out.symm, ?_⟩
      · simp [results, Tryz.results50, go_sem]
      · exact ((((Below.refl _ _).alloc (Nat.le_refl _) _).alloc (by simp) _).alloc (by simp <;> omega) _).alloc (by simp <;> omega) _
    · by_cases h33 : t = 33
      · have HE : Hid (recE here t ⟨nd, idn, snm, tag, ad, po, pa1, ver, gon⟩ = prE (qN nd here)) := by subst h33; rfl
        have HR : Hid (rec1 name here t ⟨nd, idn, snm, tag, ad, po, pa1, ver, gon⟩ = ⟨name, 33, 0, 0, ⟨#[]⟩, po, prS (qN nd here)⟩) := by subst h33; rfl
        have HP : Hid (∀ W, Calls Tryz.prog 25 #[.agg #[.string ⟨#[]⟩, .string ⟨#[]⟩, .string nd, .string here]] W fun e w' => e = .returned (.tuple #[.string (prS (qN nd here)), .int .i64 (prE (qN nd here))]) ∧ Below W.heap.size W w') := fun W => print_any (qN nd here) W ⟨by show (ByteArray.mk #[]).size ≤ maxLen; decide, by show (ByteArray.mk #[]).size ≤ maxLen; decide, hs, hh⟩
        subst h33
        clear h1 h16
        generalize prE (qN nd here) = PE at *
        generalize prS (qN nd here) = PS at *
        go_enter Tryz.func50, Tryz.ntmps50
        go_wp2_with fail
        obtain ⟨W, hW⟩ : ∃ W, W = (((w.alloc (.cells (knA here (.slice ps ns cs) (.slice pm nm cm) px py pz ph pq (.slice pw nw cw)) 48)).alloc (.cells #[.string name, .int .i64 33, .int .i64 0, .int .i64 0, .string ⟨#[]⟩, .int .i64 0, .string ⟨#[]⟩] 42)).alloc (.cells #[.string nd, .string idn, .string snm, .string tag, .int .i64 ad, .int .i64 po, .bool pa1, .int .i64 ver, .bool gon] 39)).alloc (.cells #[.string ⟨#[]⟩, .int .i64 0, .int .i64 0, .int .i64 0, .string ⟨#[]⟩, .int .i64 0, .string ⟨#[]⟩] 42) := ⟨_, rfl⟩
        rw [← hW]
        have hbW : Below w.heap.size w W := by rw [hW]; exact ((((Below.refl _ _).alloc (Nat.le_refl _) _).alloc (by simp) _).alloc (by simp <;> omega) _).alloc (by simp <;> omega) _
        have hg1 : W.heap[w.heap.size + 1]? = some (.cells #[.string name, .int .i64 33, .int .i64 0, .int .i64 0, .string ⟨#[]⟩, .int .i64 0, .string ⟨#[]⟩] 42 (0, 0)) := by
          rw [hW, Below.heap_alloc _ _ _ (by simp <;> omega), Below.heap_alloc _ _ _ (by simp)]
          have h := heap_alloc_new (w.alloc (.cells (knA here (.slice ps ns cs) (.slice pm nm cm) px py pz ph pq (.slice pw nw cw)) 48)) (.cells #[.string name, .int .i64 33, .int .i64 0, .int .i64 0, .string ⟨#[]⟩, .int .i64 0, .string ⟨#[]⟩] 42)
          simpa using h
        have hg2 : W.heap[w.heap.size + 2]? = some (.cells #[.string nd, .string idn, .string snm, .string tag, .int .i64 ad, .int .i64 po, .bool pa1, .int .i64 ver, .bool gon] 39 (0, 0)) := by
          rw [hW, Below.heap_alloc _ _ _ (by simp)]
          have h := heap_alloc_new ((w.alloc (.cells (knA here (.slice ps ns cs) (.slice pm nm cm) px py pz ph pq (.slice pw nw cw)) 48)).alloc (.cells #[.string name, .int .i64 33, .int .i64 0, .int .i64 0, .string ⟨#[]⟩, .int .i64 0, .string ⟨#[]⟩] 42)) (.cells #[.string nd, .string idn, .string snm, .string tag, .int .i64 ad, .int .i64 po, .bool pa1, .int .i64 ver, .bool gon] 39)
          simpa using h
        have hg3 : W.heap[w.heap.size + 3]? = some (.cells #[.string ⟨#[]⟩, .int .i64 0, .int .i64 0, .int .i64 0, .string ⟨#[]⟩, .int .i64 0, .string ⟨#[]⟩] 42 (0, 0)) := by
          rw [hW]
          have h := heap_alloc_new (((w.alloc (.cells (knA here (.slice ps ns cs) (.slice pm nm cm) px py pz ph pq (.slice pw nw cw)) 48)).alloc (.cells #[.string name, .int .i64 33, .int .i64 0, .int .i64 0, .string ⟨#[]⟩, .int .i64 0, .string ⟨#[]⟩] 42)).alloc (.cells #[.string nd, .string idn, .string snm, .string tag, .int .i64 ad, .int .i64 po, .bool pa1, .int .i64 ver, .bool gon] 39)) (.cells #[.string ⟨#[]⟩, .int .i64 0, .int .i64 0, .int .i64 0, .string ⟨#[]⟩, .int .i64 0, .string ⟨#[]⟩] 42)
          simpa using h
        have hsW : w.heap.size + 4 ≤ W.heap.size := by rw [hW]; simp
        clear hW
        refine (HP.out _).mono ?_
        rintro e w1 ⟨rfl, hb1⟩
        have k1 : w1.heap[w.heap.size + 1]? = _ := (hb1.block _ (by omega)).trans hg1
        have k2 : w1.heap[w.heap.size + 2]? = _ := (hb1.block _ (by omega)).trans hg2
        have k3 : w1.heap[w.heap.size + 3]? = _ := (hb1.block _ (by omega)).trans hg3
        have HB : Hid (Below w.heap.size w w1) := hbW.trans (hb1.mono (by omega))
        have l0 : w1.cell? ⟨w.heap.size + 1, 0, none⟩ = some (.string name) := cellsAt k1 0
        have zl0 : w1.frozen? ⟨w.heap.size + 1, 0, none⟩ = false := by simp [World.frozen?, k1]
        have l1 : w1.cell? ⟨w.heap.size + 1, 1, none⟩ = some (.int .i64 33) := cellsAt k1 1
        have zl1 : w1.frozen? ⟨w.heap.size + 1, 1, none⟩ = false := by simp [World.frozen?, k1]
        have l2 : w1.cell? ⟨w.heap.size + 1, 2, none⟩ = some (.int .i64 0) := cellsAt k1 2
        have zl2 : w1.frozen? ⟨w.heap.size + 1, 2, none⟩ = false := by simp [World.frozen?, k1]
        have l3 : w1.cell? ⟨w.heap.size + 1, 3, none⟩ = some (.int .i64 0) := cellsAt k1 3
        have zl3 : w1.frozen? ⟨w.heap.size + 1, 3, none⟩ = false := by simp [World.frozen?, k1]
        have l4 : w1.cell? ⟨w.heap.size + 1, 4, none⟩ = some (.string ⟨#[]⟩) := cellsAt k1 4
        have zl4 : w1.frozen? ⟨w.heap.size + 1, 4, none⟩ = false := by simp [World.frozen?, k1]
        have l5 : w1.cell? ⟨w.heap.size + 1, 5, none⟩ = some (.int .i64 0) := cellsAt k1 5
        have zl5 : w1.frozen? ⟨w.heap.size + 1, 5, none⟩ = false := by simp [World.frozen?, k1]
        have l6 : w1.cell? ⟨w.heap.size + 1, 6, none⟩ = some (.string ⟨#[]⟩) := cellsAt k1 6
        have zl6 : w1.frozen? ⟨w.heap.size + 1, 6, none⟩ = false := by simp [World.frozen?, k1]
        have s0 : w1.cell? ⟨w.heap.size + 2, 0, none⟩ = some (.string nd) := cellsAt k2 0
        have s1 : w1.cell? ⟨w.heap.size + 2, 1, none⟩ = some (.string idn) := cellsAt k2 1
        have s2 : w1.cell? ⟨w.heap.size + 2, 2, none⟩ = some (.string snm) := cellsAt k2 2
        have s3 : w1.cell? ⟨w.heap.size + 2, 3, none⟩ = some (.string tag) := cellsAt k2 3
        have s4 : w1.cell? ⟨w.heap.size + 2, 4, none⟩ = some (.int .i64 ad) := cellsAt k2 4
        have s5 : w1.cell? ⟨w.heap.size + 2, 5, none⟩ = some (.int .i64 po) := cellsAt k2 5
        have s6 : w1.cell? ⟨w.heap.size + 2, 6, none⟩ = some (.bool pa1) := cellsAt k2 6
        have s7 : w1.cell? ⟨w.heap.size + 2, 7, none⟩ = some (.int .i64 ver) := cellsAt k2 7
        have s8 : w1.cell? ⟨w.heap.size + 2, 8, none⟩ = some (.bool gon) := cellsAt k2 8
        have r0 : w1.cell? ⟨w.heap.size + 3, 0, none⟩ = some (.string ⟨#[]⟩) := cellsAt k3 0
        have zr0 : w1.frozen? ⟨w.heap.size + 3, 0, none⟩ = false := by simp [World.frozen?, k3]
        have r1 : w1.cell? ⟨w.heap.size + 3, 1, none⟩ = some (.int .i64 0) := cellsAt k3 1
        have zr1 : w1.frozen? ⟨w.heap.size + 3, 1, none⟩ = false := by simp [World.frozen?, k3]
        have r2 : w1.cell? ⟨w.heap.size + 3, 2, none⟩ = some (.int .i64 0) := cellsAt k3 2
        have zr2 : w1.frozen? ⟨w.heap.size + 3, 2, none⟩ = false := by simp [World.frozen?, k3]
        have r3 : w1.cell? ⟨w.heap.size + 3, 3, none⟩ = some (.int .i64 0) := cellsAt k3 3
        have zr3 : w1.frozen? ⟨w.heap.size + 3, 3, none⟩ = false := by simp [World.frozen?, k3]
        have r4 : w1.cell? ⟨w.heap.size + 3, 4, none⟩ = some (.string ⟨#[]⟩) := cellsAt k3 4
        have zr4 : w1.frozen? ⟨w.heap.size + 3, 4, none⟩ = false := by simp [World.frozen?, k3]
        have r5 : w1.cell? ⟨w.heap.size + 3, 5, none⟩ = some (.int .i64 0) := cellsAt k3 5
        have zr5 : w1.frozen? ⟨w.heap.size + 3, 5, none⟩ = false := by simp [World.frozen?, k3]
        have r6 : w1.cell? ⟨w.heap.size + 3, 6, none⟩ = some (.string ⟨#[]⟩) := cellsAt k3 6
        have zr6 : w1.frozen? ⟨w.heap.size + 3, 6, none⟩ = false := by simp [World.frozen?, k3]
        clear hbW hg1 hg2 hg3 hb1 hsW k1 k2 k3
        by_cases h0 : PE = 0
        · subst h0
          go_wp2_with fail
          refine bodyPost_ret (v := .tuple #[.agg #[.string name, .int .i64 33, .int .i64 0, .int .i64 0, .string ⟨#[]⟩, .int .i64 po, .string PS], .int .i64 0]) ?_ rfl ⟨⟨name, 33, 0, 0, ⟨#[]⟩, po, PS⟩, by rw [HE.out], fun _ => HR.out.symm, ?_⟩
          · simp [results, Tryz.results50, go_sem, r0, r1, r2, r3, r4, r5, r6]
          · exact (((((((((HB.out.setCell (p := ⟨w.heap.size + 1, 5, none⟩) (by simp <;> omega) _).setCell (p := ⟨w.heap.size + 1, 6, none⟩) (by simp <;> omega) _).setCell (p := ⟨w.heap.size + 1 + 1 + 1, 0, none⟩) (by simp <;> omega) _).setCell (p := ⟨w.heap.size + 1 + 1 + 1, 1, none⟩) (by simp <;> omega) _).setCell (p := ⟨w.heap.size + 1 + 1 + 1, 2, none⟩) (by simp <;> omega) _).setCell (p := ⟨w.heap.size + 1 + 1 + 1, 3, none⟩) (by simp <;> omega) _).setCell (p := ⟨w.heap.size + 1 + 1 + 1, 4, none⟩) (by simp <;> omega) _).setCell (p := ⟨w.heap.size + 1 + 1 + 1, 5, none⟩) (by simp <;> omega) _).setCell (p := ⟨w.heap.size + 1 + 1 + 1, 6, none⟩) (by simp <;> omega) _)
        · have h0' : (PE != 0) = true := by simpa using h0
          go_wp2_with fail
          refine bodyPost_ret (v := .tuple #[.agg #[.string ⟨#[]⟩, .int .i64 0, .int .i64 0, .int .i64 0, .string ⟨#[]⟩, .int .i64 0, .string ⟨#[]⟩], .int .i64 PE]) ?_ rfl ⟨⟨⟨#[]⟩, 0, 0, 0, ⟨#[]⟩, 0, ⟨#[]⟩⟩, by rw [HE.out], fun h => absurd (HE.out.symm.trans h) h0, ?_⟩
          · simp [results, Tryz.results50, go_sem, r0, r1, r2, r3, r4, r5, r6]
          · exact (((((((HB.out.setCell (p := ⟨w.heap.size + 1 + 1 + 1, 0, none⟩) (by simp <;> omega) _).setCell (p := ⟨w.heap.size + 1 + 1 + 1, 1, none⟩) (by simp <;> omega) _).setCell (p := ⟨w.heap.size + 1 + 1 + 1, 2, none⟩) (by simp <;> omega) _).setCell (p := ⟨w.heap.size + 1 + 1 + 1, 3, none⟩) (by simp <;> omega) _).setCell (p := ⟨w.heap.size + 1 + 1 + 1, 4, none⟩) (by simp <;> omega) _).setCell (p := ⟨w.heap.size + 1 + 1 + 1, 5, none⟩) (by simp <;> omega) _).setCell (p := ⟨w.heap.size + 1 + 1 + 1, 6, none⟩) (by simp <;> omega) _)
      · have HE : Hid (recE here t ⟨nd, idn, snm, tag, ad, po, pa1, ver, gon⟩ = 0) := by show recE _ _ _ = 0; unfold recE; rw [if_neg h33]
        have HR : Hid (rec1 name here t ⟨nd, idn, snm, tag, ad, po, pa1, ver, gon⟩ = ⟨name, t, 0, 0, ⟨#[]⟩, 0, ⟨#[]⟩⟩) := by show rec1 _ _ _ _ = _; unfold rec1; rw [if_neg h1, if_neg h16, if_neg h33, if_neg h33]
        have g1 : (t == 1) = false := by simpa using h1
        have g2 : (t == 16) = false := by simpa using h16
        have g3 : (t == 33) = false := by simpa using h33
        go_enter Tryz.func50, Tryz.ntmps50
        go_wp2_with fail
        refine bodyPost_ret (v := .tuple #[.agg #[.string name, .int .i64 t, .int .i64 0, .int .i64 0, .string ⟨#[]⟩, .int .i64 0, .string ⟨#[]⟩], .int .i64 0]) ?_ rfl ⟨⟨name, t, 0, 0, ⟨#[]⟩, 0, ⟨#[]⟩⟩, by rw [HE.out], fun _ => HR.out.symm, ?_⟩
        · simp [results, Tryz.results50, go_sem]
        · exact ((((Below.refl _ _).alloc (Nat.le_refl _) _).alloc (by simp) _).alloc (by simp <;> omega) _).alloc (by simp <;> omega) _

end Go.Proofs.YtignmeaeibaejaaGreat

/- Contracts of the library, laid at this program. -/
namespace Go.Proofs
open Go.Shelf
def Tryz.sortS_ren : Go.Shelf.Ren := ⟨fun | 6 => 92 | 15 => 103 | 14 => 102 | 28 => 120 | 29 => 121 | 20 => 112 | 21 => 113 | 22 => 114 | 23 => 115 | 24 => 116 | 25 => 117 | 26 => 118 | 27 => 119 | 46 => 125 | 47 => 126 | 48 => 127 | 49 => 128 | 50 => 129 | 57 => 130 | n => n, fun | 22 => 57 | 24 => 9 | 25 => 93 | 3 => 3 | 39 => 134 | 0 => 0 | 53 => 146 | 55 => 148 | 4 => 4 | 46 => 140 | 45 => 139 | 50 => 126 | 5 => 5 | 9 => 9 | 66 => 151 | 70 => 155 | 76 => 157 | 77 => 158 | n => n, fun | n => n⟩
theorem Tryz.sortS : Go.Proofs.SlLaysF.n6 Tryz.prog Tryz.sortS_ren := {
  mixed := by kernel_rfl
  f6 := ⟨Tryz.f92.name, by decide, Tryz.func92.trans (congrArg some (by kernel_rfl))⟩
  f14 := ⟨Tryz.f102.name, by decide, Tryz.func102.trans (congrArg some (by kernel_rfl))⟩
  f15 := Tryz.func103.trans (congrArg some (by kernel_rfl))
  f20 := ⟨Tryz.f112.name, by decide, Tryz.func112.trans (congrArg some (by kernel_rfl))⟩
  f21 := ⟨Tryz.f113.name, by decide, Tryz.func113.trans (congrArg some (by kernel_rfl))⟩
  f22 := ⟨Tryz.f114.name, by decide, Tryz.func114.trans (congrArg some (by kernel_rfl))⟩
  f23 := ⟨Tryz.f115.name, by decide, Tryz.func115.trans (congrArg some (by kernel_rfl))⟩
  f24 := ⟨Tryz.f116.name, by decide, Tryz.func116.trans (congrArg some (by kernel_rfl))⟩
  f25 := ⟨Tryz.f117.name, by decide, Tryz.func117.trans (congrArg some (by kernel_rfl))⟩
  f26 := ⟨Tryz.f118.name, by decide, Tryz.func118.trans (congrArg some (by kernel_rfl))⟩
  f27 := ⟨Tryz.f119.name, by decide, Tryz.func119.trans (congrArg some (by kernel_rfl))⟩
  f28 := Tryz.func120.trans (congrArg some (by kernel_rfl))
  f29 := Tryz.func121.trans (congrArg some (by kernel_rfl))
  f46 := ⟨Tryz.f125.name, by decide, Tryz.func125.trans (congrArg some (by kernel_rfl))⟩
  f47 := Tryz.func126.trans (congrArg some (by kernel_rfl))
  f48 := Tryz.func127.trans (congrArg some (by kernel_rfl))
  f49 := ⟨Tryz.f128.name, by decide, Tryz.func128.trans (congrArg some (by kernel_rfl))⟩
  f50 := ⟨Tryz.f129.name, by decide, Tryz.func129.trans (congrArg some (by kernel_rfl))⟩
  f57 := ⟨Tryz.f130.name, by decide, Tryz.func130.trans (congrArg some (by kernel_rfl))⟩
  t0 := Tryz.underlying0
  a0 := Tryz.isAgg0
  z0 := Tryz.sizeOf0
  v0 := Tryz.zeroValue0
  t3 := Tryz.underlying3
  a3 := Tryz.isAgg3
  z3 := Tryz.sizeOf3
  v3 := Tryz.zeroValue3
  t4 := Tryz.underlying4
  a4 := Tryz.isAgg4
  z4 := Tryz.sizeOf4
  v4 := Tryz.zeroValue4
  t5 := Tryz.underlying5
  a5 := Tryz.isAgg5
  z5 := Tryz.sizeOf5
  v5 := Tryz.zeroValue5
  t9 := Tryz.underlying9
  a9 := Tryz.isAgg9
  z9 := Tryz.sizeOf9
  v9 := Tryz.zeroValue9
  t22 := Tryz.underlying57
  a22 := Tryz.isAgg57
  z22 := Tryz.sizeOf57
  v22 := Tryz.zeroValue57
  a24 := Tryz.isAgg9
  z24 := Tryz.sizeOf9
  t25 := Tryz.underlying93
  a25 := Tryz.isAgg93
  z25 := Tryz.sizeOf93
  v25 := Tryz.zeroValue93
  t39 := Tryz.underlying134
  a39 := Tryz.isAgg134
  z39 := Tryz.sizeOf134
  v39 := Tryz.zeroValue134
  t45 := Tryz.underlying139
  a45 := Tryz.isAgg139
  z45 := Tryz.sizeOf139
  v45 := Tryz.zeroValue139
  t46 := Tryz.underlying140
  a46 := Tryz.isAgg140
  z46 := Tryz.sizeOf140
  v46 := Tryz.zeroValue140
  t50 := Tryz.underlying126
  a50 := Tryz.isAgg126
  z50 := Tryz.sizeOf126
  v50 := Tryz.zeroValue126
  t53 := Tryz.underlying146
  a53 := Tryz.isAgg146
  z53 := Tryz.sizeOf146
  v53 := Tryz.zeroValue146
  t55 := Tryz.underlying148
  a55 := Tryz.isAgg148
  z55 := Tryz.sizeOf148
  v55 := Tryz.zeroValue148
  t66 := Tryz.underlying151
  a66 := Tryz.isAgg151
  z66 := Tryz.sizeOf151
  v66 := Tryz.zeroValue151
  t70 := Tryz.underlying155
  a70 := Tryz.isAgg155
  z70 := Tryz.sizeOf155
  v70 := Tryz.zeroValue155
  t76 := Tryz.underlying157
  a76 := Tryz.isAgg157
  z76 := Tryz.sizeOf157
  v76 := Tryz.zeroValue157
  t77 := Tryz.underlying158
  a77 := Tryz.isAgg158
  z77 := Tryz.sizeOf158
  v77 := Tryz.zeroValue158 }
end Go.Proofs

/- Names, sorted by how far they are, then by name: the order, and the library's sort. -/
namespace Go.Proofs.YtignmeaeibaejaaGreat
open Go.RowKit Go.Sort Go.Shelf Go.Lib Go.WideMaps Go.Maps

def nm (ns : List ByteArray) (x : Nat) : ByteArray := ns.getD x ByteArray.empty
def cfF (ns : List ByteArray) (d : ByteArray → Int) (m : Nat) (x y : Fin (m + 1)) : Int := cfN d (nm ns x.val) (nm ns y.val)
theorem ltF_is (ns : List ByteArray) (d : ByteArray → Int) (m : Nat) (x y : Fin (m + 1)) : ltOf (cfF ns d m) x y = ltN d (nm ns x.val) (nm ns y.val) := rfl
theorem swoF (ns : List ByteArray) (d : ByteArray → Int) (m : Nat) : SWO (ltOf (cfF ns d m)) where
  irrefl _ := (swoN d).irrefl _
  trans _ _ _ h1 h2 := (swoN d).trans _ _ _ h1 h2
  ntrans _ _ _ h1 h2 := (swoN d).ntrans _ _ _ h1 h2
def encN (ns : List ByteArray) (m : Nat) (x : Fin (m + 1)) : Value := .string (nm ns x.val)
def allF (m : Nat) : Array (Fin (m + 1)) := Array.ofFn (fun x => x)
theorem allF_size (m : Nat) : (allF m).size = m + 1 := by simp [allF]
theorem allF_get (m j : Nat) (hj : j < m + 1) : (allF m)[j]! = ⟨j, hj⟩ := by
  rw [getElem!_pos _ j (by rw [allF_size]; exact hj)]
  simp [allF]
theorem allF_names (ns : List ByteArray) (m : Nat) (hn : ns.length = m + 1) : (allF m).toList.map (fun x => nm ns x.val) = ns := by
  apply List.ext_getElem
  · simp [allF, hn]
  · intro j h1 h2
    rw [List.getElem_map, Array.getElem_toList]
    simp only [allF, Array.getElem_ofFn, nm]
    simp [List.getD, List.getElem?_eq_getElem h2]
theorem alloc_grow (W : World) (o : Obj) : (W.alloc o).drew = grow (W.drewN 1) #[o] := by
  simp only [grow, World.alloc, World.drew, World.drewN, Array.push_eq_append]

theorem sortWorld_block {α : Type} [Inhabited α] (enc : α → Value) (w : World) (b off q g : Nat) (dk : Array α) (os : Array Obj) (hne : g ≠ b) (hl : g < w.heap.size) : (sortWorld enc w b off q dk os).heap[g]? = w.heap[g]? := by
  unfold sortWorld
  rw [heap_grow_old _ _ (by simp [putRow, mapBlock, Go.Sort.ahead]; omega)]
  have : b ≠ g := fun e => hne e.symm
  simp [putRow, mapBlock, Go.Sort.ahead, Array.getElem?_modify, this]
theorem below_sortW {α : Type} [Inhabited α] (enc : α → Value) {B : Nat} {w : World} {g off n : Nat} {d : Array α} {os : Array Obj} (hg : B ≤ g) (hB : B ≤ w.heap.size) : Below B w (sortWorld enc w g off n d os) :=
  ⟨rfl, rfl, rfl, by simp [sortWorld, putRow, mapBlock, Go.Sort.ahead, grow], fun k hk => sortWorld_block enc w g off n k d os (by omega) (by omega)⟩

theorem cmpN (ns : List ByteArray) (m db kb g n gb : Nat) (D : DataW Unit) (w : World) (hsz : ∀ j, (nm ns j).size ≤ maxLen) (hd : w.cell? ⟨db, 0, none⟩ = some (.func (.func 90) #[] #[.pointer (some ⟨kb, 0, none⟩)])) (hk : w.cell? ⟨kb, 0, none⟩ = some (.map (some g))) (hm : w.ownsMap Tryz.prog 9 (plainElem (H := Unit) Tryz.prog 3) g n D) (h1 : db ≠ gb) (h2 : kb ≠ gb) (h3 : g ≠ gb) :
    CmpLays1 Tryz.prog 93 #[.pointer (some ⟨db, 0, none⟩)] (encN ns m) (cfF ns (dV D) m) gb 0 (allF m).size w := by
  intro q os dk hs x y
  have hl1 : db < w.heap.size := World.block_lt_of_cell? w _ hd
  have hl2 : kb < w.heap.size := World.block_lt_of_cell? w _ hk
  have hl3 : g < w.heap.size := hm.lt
  have c1 := (cell?_sortWorld_other (encN ns m) w gb 0 q dk os ⟨db, 0, none⟩ h1 hl1).trans hd
  have c2 := (cell?_sortWorld_other (encN ns m) w gb 0 q dk os ⟨kb, 0, none⟩ h2 hl2).trans hk
  have m1 : (sortWorld (encN ns m) w gb 0 q dk os).ownsMap Tryz.prog 9 (plainElem (H := Unit) Tryz.prog 3) g n D := by
    obtain ⟨es, cl, e1, e2⟩ := hm
    exact ⟨es, cl, (sortWorld_block (encN ns m) w gb 0 q g dk os h3 hl3).trans e1, e2⟩
  refine (cmp2_any _ _ db kb g n D _ (hsz x.val) (hsz y.val) c1 c2 m1).mono ?_
  rintro e w' ⟨rfl, rfl⟩
  exact ⟨rfl, 1, _, alloc_grow _ _⟩

theorem sorted_of {ns : List ByteArray} {d : ByteArray → Int} {m : Nat} {d' : Array (Fin (m + 1))} (hn : ns.length = m + 1) (hp : PermIn 0 (allF m).size (allF m) d') (hs : SortedIn (ltOf (cfF ns d m)) 0 (allF m).size d') :
    d'.toList.map (fun x => nm ns x.val) = So.insAll (ltN d) ns := by
  obtain ⟨hsz, _, hperm⟩ := hp
  rw [Array.extract_size, show d'.extract 0 (allF m).size = d' by rw [← hsz, Array.extract_size]] at hperm
  refine So.insAll_eq (swoN d) (ltN_anti d) ?_ ?_
  · have h := hperm.map (fun x => nm ns x.val)
    rw [allF_names ns m hn] at h
    exact h
  · have hds : d'.size = m + 1 := by rw [hsz, allF_size]
    refine List.pairwise_iff_getElem.2 fun i j hi hj hij => ?_
    have hj' : j < d'.size := by simpa using hj
    have hi' : i < d'.size := by omega
    have h := hs i j (Nat.zero_le _) hij (by rw [allF_size]; omega)
    rw [getElem!_pos d' j hj', getElem!_pos d' i hi', ltF_is] at h
    simpa using h

/-- SortFunc, of names: what a slice that is one's own holds is sorted in its place. -/
theorem sortF_any (ns : List ByteArray) (m db kb g n gb c : Nat) (D : DataW Unit) (w : World) (hn : ns.length = m + 1) (hsm : m < 1000) (hsz : ∀ j, (nm ns j).size ≤ maxLen) (hd : w.cell? ⟨db, 0, none⟩ = some (.func (.func 90) #[] #[.pointer (some ⟨kb, 0, none⟩)])) (hk : w.cell? ⟨kb, 0, none⟩ = some (.map (some g))) (hm : w.ownsMap Tryz.prog 9 (plainElem (H := Unit) Tryz.prog 3) g n D) (h1 : db ≠ gb) (h2 : kb ≠ gb) (h3 : g ≠ gb)
    (hcell : ∀ j, j < m + 1 → w.cell? ⟨gb, j, none⟩ = some (.string (nm ns j))) (hfz : ∀ j, w.frozen? ⟨gb, j, none⟩ = false) {B : Nat} (hB : B ≤ gb) :
    Calls Tryz.prog 92 #[.slice (some ⟨gb, 0, none⟩) (m + 1) c, .func (.func 93) #[] #[.pointer (some ⟨db, 0, none⟩)]] w fun e w' => e = .returned (.tuple #[]) ∧ TSl w' (.slice (some ⟨gb, 0, none⟩) (m + 1) c) (So.insAll (ltN (dV D)) ns) ∧ Below B w w' ∧ ∀ j, w'.frozen? ⟨gb, j, none⟩ = false := by
  have eg : ∀ args w, (callFunc 93 args).run Tryz.prog w = .ok (.enter 93 args) w := enters_of Tryz.func93 (by kernel_rfl) rfl
  have hgw : gb < w.heap.size := World.block_lt_of_cell? w ⟨gb, 0, none⟩ (hcell 0 (by omega))
  have HHH : Holds (encN ns m) w gb 0 (allF m) := fun j hj => by
    rw [allF_size] at hj
    rw [allF_get m j hj, Nat.zero_add]
    exact ⟨hcell j hj, hfz j⟩
  have hcon := Any.slices_SortFunc Tryz.sortS (encN ns m) (fun _ => rfl) (cfF ns (dV D) m) (swoF ns (dV D) m) 93 #[.pointer (some ⟨db, 0, none⟩)] gb 0 c (allF m) w eg (cmpN ns m db kb g n gb D w hsz hd hk hm h1 h2 h3) HHH hgw (by rw [allF_size]; omega)
  rw [show Value.slice (some ⟨gb, 0, none⟩) (allF m).size c = Value.slice (some ⟨gb, 0, none⟩) (m + 1) c by rw [allF_size]] at hcon
  refine hcon.mono ?_
  rintro e w2 ⟨rfl, d', nd, os, hp, hs, hw2⟩
  have hL := sorted_of hn hp hs
  have hds : d'.size = m + 1 := by rw [hp.1, allF_size]
  have hlen : (So.insAll (ltN (dV D)) ns).length = m + 1 := by rw [← hL]; simp [hds]
  refine ⟨rfl, ⟨some ⟨gb, 0, none⟩, c, by rw [hlen], fun j => ?_, .inr ⟨gb, 0, rfl, ?_, fun j hj => ?_⟩⟩, ?_, fun j => ?_⟩
  · by_cases hj : j < (So.insAll (ltN (dV D)) ns).length
    · have hm2 : (So.insAll (ltN (dV D)) ns).getD j ByteArray.empty ∈ So.insAll (ltN (dV D)) ns := by simp [List.getD, List.getElem?_eq_getElem hj]
      rw [← hL] at hm2
      obtain ⟨x, _, hx⟩ := List.mem_map.1 hm2
      rw [hL] at hx
      rw [← hx]; exact hsz x.val
    · rw [show (So.insAll (ltN (dV D)) ns).getD j ByteArray.empty = ByteArray.empty by simp [List.getD, List.getElem?_eq_none (by omega : (So.insAll (ltN (dV D)) ns).length ≤ j)]]
      decide
  · rw [hw2]
    exact Nat.lt_of_lt_of_le hgw (below_sortW (encN ns m) (B := 0) (Nat.zero_le _) (Nat.zero_le _)).size
  · have hj' : j < m + 1 := by rw [hlen] at hj; exact hj
    have e1 := cell?_putRow (encN ns m) (Go.Sort.ahead w nd) gb 0 (allF m) d' (show Holds (encN ns m) (Go.Sort.ahead w nd) gb 0 (allF m) from HHH) hp.1 j (by omega)
    have e2 : w2.cell? ⟨gb, 0 + j, none⟩ = (putRow (encN ns m) (Go.Sort.ahead w nd) gb 0 d').cell? ⟨gb, 0 + j, none⟩ := by
      rw [hw2]
      exact cell?_grow _ _ _ (World.block_lt_of_cell? (putRow (encN ns m) (Go.Sort.ahead w nd) gb 0 d') ⟨gb, 0 + j, none⟩ e1)
    rw [e2, e1, getElem!_pos d' j (by omega)]
    have e3 : (So.insAll (ltN (dV D)) ns).getD j ByteArray.empty = nm ns (d'[j]'(by omega)).val := by
      rw [← hL]; simp [List.getD, hds, hj']
    rw [e3]; rfl
  · rw [hw2]
    exact below_sortW (encN ns m) hB (by omega)
  · rw [hw2]
    exact (frozen?_grow _ _ ⟨gb, j, none⟩ (by simpa [putRow, mapBlock, Go.Sort.ahead] using hgw)).trans ((frozen?_putRow _ _ _ _ _ _).trans (hfz j))

end Go.Proofs.YtignmeaeibaejaaGreat

