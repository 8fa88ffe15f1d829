/- GQ, GZ, FV -/
import Derived.Test.YtigffgjkakalfaaGreatDoorV16
/- A record is read as it was written. -/
namespace Go.Proofs.YtigffgjkakalfaaGreatDoor
open Go.RowKit

theorem IsR.put {g a b : Nat} {t : ByteArray} {W : World} (h : IsR g t a W) (i : Nat) (v : Value) (hb : b ≠ g) : IsR g t a (W.setCell ⟨b, i, none⟩ v) :=
  ⟨(World.cell?_setCell_other _ _ _ _ (by intro e; simp at e)).trans h.c0, (World.cell?_setCell_other _ _ _ _ (by intro e; simp at e)).trans h.c1, by simpa using h.hz, by simpa using h.hg⟩
theorem chkRec_own {r : Rc.Rec} (h : chkRec r = 0) : ownB r = true := by
  unfold chkRec at h
  split at h
  · omega
  split at h
  · omega
  split at h
  · omega
  split at h
  · omega
  rename_i h4
  simpa using h4
theorem recNums {r : Rc.Rec} (h : chkRec r = 0) : (0 ≤ r.lasts ∧ r.lasts < 256 ^ 4) ∧ (0 ≤ r.addr ∧ r.addr < 256 ^ 4) ∧ (0 ≤ r.port ∧ r.port < 256 ^ 2) ∧ (0 ≤ r.typ ∧ r.typ < 256 ^ 2) := by
  have h2 := (chkRec_facts h).2.1
  unfold chkRec at h
  split at h
  · omega
  split at h
  · omega
  split at h
  · omega
  rename_i h3
  split at h
  · omega
  split at h
  · omega
  rename_i h5
  have h3' : within r.lasts 0 2147483647 = true := by simpa using h3
  have h5' : (within r.addr 0 4294967295 && within r.port 0 65535) = true := by simpa using h5
  simp only [within, Bool.and_eq_true, decide_eq_true_eq] at h3' h5'
  simp only [typB, Bool.or_eq_true, decide_eq_true_eq] at h2
  refine ⟨⟨h3'.1, by omega⟩, ⟨h5'.1.1, by omega⟩, ⟨h5'.2.1, by omega⟩, by omega, by omega⟩

/-- Data are read, whatever the type. -/
theorem rdata_any (g X a : Nat) (t : ByteArray) (r : Rc.Rec) (w W : World) (h : Rx g X t w a #[.string r.name, .int .i64 r.typ, .int .i64 r.lasts, .int .i64 0, .string ⟨#[]⟩, .int .i64 0, .string ⟨#[]⟩] W) (hs : t.size ≤ 1000) (hc : chkRec r = 0) (hat : AtW t a (wdatL r)) :
    Calls Tryz.prog 95 #[.pointer (some ⟨g, 0, none⟩), .pointer (some ⟨X, 0, none⟩)] W fun e w' => e = .returned (.tuple #[]) ∧ Rx g X t w (a + (wdatL r).length) #[.string r.name, .int .i64 r.typ, .int .i64 r.lasts, .int .i64 r.addr, .string r.text, .int .i64 r.port, .string r.target] w' := by
  have ho := chkRec_own hc
  obtain ⟨n1, n2, n3, n4⟩ := chkRec_facts hc
  obtain ⟨_, ⟨m3, m4⟩, ⟨m5, m6⟩, _⟩ := recNums hc
  obtain ⟨name, typ, lasts, addr, text, port, target⟩ := r
  simp only at *
  have htt : typ = 1 ∨ typ = 16 ∨ typ = 33 := by
    simp only [typB, Bool.or_eq_true, decide_eq_true_eq, or_assoc] at n2
    exact n2
  simp only [ownB, Bool.and_eq_true, Bool.or_eq_true, decide_eq_true_eq] at ho
  obtain ⟨o1, o2, o3⟩ := ho
  have htl : text.data.toList.length = text.size := by simp
  rcases htt with rfl | rfl | rfl
  · have e2 := isempty (by omega : text.size = 0)
    have e3 : port = 0 := by omega
    have e4 := isempty (by omega : target.size = 0)
    subst e2 e3 e4
    have hw : wdatL ⟨name, 1, lasts, addr, ⟨#[]⟩, 0, ⟨#[]⟩⟩ = nbl addr 4 := rfl
    rw [hw] at hat ⊢
    rw [nbl_len]
    exact rdata_1 g X a t name lasts addr w W h hs m3 m4 hat
  · have e1 : addr = 0 := by omega
    have e3 : port = 0 := by omega
    have e4 := isempty (by omega : target.size = 0)
    subst e1 e3 e4
    have hw : wdatL ⟨name, 16, lasts, 0, text, 0, ⟨#[]⟩⟩ = nbl text.size 1 ++ text.data.toList := rfl
    rw [hw] at hat ⊢
    rw [List.length_append, nbl_len, htl, ← Nat.add_assoc]
    exact rdata_16 g X a t name text lasts w W h hs n3 hat
  · have e1 : addr = 0 := by omega
    have e2 := isempty (by omega : text.size = 0)
    subst e1 e2
    have hw : wdatL ⟨name, 33, lasts, 0, ⟨#[]⟩, port, target⟩ = nbl 0 2 ++ (nbl 0 2 ++ (nbl port 2 ++ wnameL target)) := rfl
    rw [hw] at hat ⊢
    have hl : a + (nbl 0 2 ++ (nbl 0 2 ++ (nbl port 2 ++ wnameL target))).length = a + 6 + (wnameL target).length := by
      simp only [List.length_append, nbl_len]; omega
    rw [hl]
    exact rdata_33 g X a t name target lasts port w W h hs m5 m6 n4 hat

set_option maxHeartbeats 1600000 in
set_option maxRecDepth 100000 in
theorem rrec_any (g a : Nat) (r : Rc.Rec) (t : ByteArray) (w : World) (h : IsR g t a w) (hs : t.size ≤ 1000) (hc : chkRec r = 0) (hat : AtW t a (wrecL r)) :
    Calls Tryz.prog 67 #[.pointer (some ⟨g, 0, none⟩)] w fun e w' => e = .returned (recV r) ∧ Hid (IsR g t (a + (wrecL r).length) w') ∧ Hid (Rd g w w') := by
  have HI : Hid (IsR g t a w) := h
  have hg := h.hg
  obtain ⟨n1, n2, n3, n4⟩ := chkRec_facts hc
  obtain ⟨⟨m1, m2⟩, _, _, m7, m8⟩ := recNums hc
  have hdl := wdat_len n3 n4
  rw [wdat_cells, Lib.byteCells_length] at hdl
  have hsz := hat.size
  unfold wrecL at hat hsz ⊢
  have a1 := hat.left
  have a2 := hat.right
  have a3 := a2.left
  have a4 := a2.right
  rw [nbl_len] at a4
  have a5 := a4.left
  have a6 := a4.right
  rw [nbl_len] at a6
  have a7 := a6.left
  have a8 := a6.right
  rw [nbl_len] at a8
  have a9 := a8.left
  have a10 := a8.right
  rw [nbl_len] at a10
  have r3 := rnum_is m7 m8 a3
  have r5 := rnum_is (n := 1) (by omega) (by omega) a5
  have r7 := rnum_is m1 m2 a7
  have r9 := rnum_is (n := (wdatL r).length) (by omega) (by omega) a9
  simp only [List.length_append, nbl_len] at hsz ⊢
  have A1 : Hid (AtW t a (wnameL r.name)) := a1
  have R3 : Hid ((rnum t (a + (wnameL r.name).length) 2 : Int) = r.typ) := r3
  have R5 : Hid (rnum t (a + (wnameL r.name).length + 2) 2 = 1) := (show _ = _ by omega)
  have R7 : Hid ((rnum t (a + (wnameL r.name).length + 2 + 2) 4 : Int) = r.lasts) := r7
  have R9 : Hid ((rnum t (a + (wnameL r.name).length + 2 + 2 + 4) 2 : Int) = ((wdatL r).length : Int)) := r9
  have HDA : Hid (∀ wb X W, Rx g X t wb (a + (wnameL r.name).length + 2 + 2 + 4 + 2) #[.string r.name, .int .i64 r.typ, .int .i64 r.lasts, .int .i64 0, .string ⟨#[]⟩, .int .i64 0, .string ⟨#[]⟩] W → Calls Tryz.prog 95 #[.pointer (some ⟨g, 0, none⟩), .pointer (some ⟨X, 0, none⟩)] W fun e w' => e = .returned (.tuple #[]) ∧ Rx g X t wb (a + (wnameL r.name).length + 2 + 2 + 4 + 2 + (wdatL r).length) #[.string r.name, .int .i64 r.typ, .int .i64 r.lasts, .int .i64 r.addr, .string r.text, .int .i64 r.port, .string r.target] w') := fun wb X W hX => rdata_any g X _ t r wb W hX hs hc a10
  clear h hat a1 a2 a3 a4 a5 a6 a7 a8 a9 a10 r3 r5 r7 r9 n2 n3 n4 m1 m2 m7 m8 hc
  generalize (wdatL r).length = dn at *
  generalize hnl : (wnameL r.name).length = nl at *
  have HNL : Hid ((wnameL r.name).length = nl) := hnl
  clear hnl
  go_enter Tryz.func67, Tryz.ntmps67
  go_wp2_with fail
  obtain ⟨wq, hwq⟩ : ∃ wq, wq = w.alloc (.cells #[.string ⟨#[]⟩, .int .i64 0, .int .i64 0, .int .i64 0, .string ⟨#[]⟩, .int .i64 0, .string ⟨#[]⟩] 51) := ⟨_, rfl⟩
  have hnq : wq.heap.size = w.heap.size + 1 := by rw [hwq]; simp
  have hxq : w.Extends wq := by rw [hwq]; exact (World.Extends.refl w).alloc _
  have hgq : wq.heap[w.heap.size]? = some (.cells #[.string ⟨#[]⟩, .int .i64 0, .int .i64 0, .int .i64 0, .string ⟨#[]⟩, .int .i64 0, .string ⟨#[]⟩] 51 (0, 0)) := by rw [hwq]; exact heap_alloc_new w _
  rw [← hwq]
  clear hwq
  have H0 : Hid (Rx g (w.heap.size + 1) t wq a #[.string ⟨#[]⟩, .int .i64 0, .int .i64 0, .int .i64 0, .string ⟨#[]⟩, .int .i64 0, .string ⟨#[]⟩] (wq.alloc (.cells #[.string ⟨#[]⟩, .int .i64 0, .int .i64 0, .int .i64 0, .string ⟨#[]⟩, .int .i64 0, .string ⟨#[]⟩] 51))) := (show Rx _ _ _ _ _ _ _ by
    have hx : wq.Extends (wq.alloc (.cells #[.string ⟨#[]⟩, .int .i64 0, .int .i64 0, .int .i64 0, .string ⟨#[]⟩, .int .i64 0, .string ⟨#[]⟩] 51)) := (World.Extends.refl wq).alloc _
    have hn := heap_alloc_new wq (.cells #[.string ⟨#[]⟩, .int .i64 0, .int .i64 0, .int .i64 0, .string ⟨#[]⟩, .int .i64 0, .string ⟨#[]⟩] 51)
    rw [hnq] at hn
    exact ⟨(HI.out.ext hxq).ext hx, hn, rfl, rfl, rfl, hx.size, fun k hk _ _ => hx.block k hk, by omega⟩)
  refine (rname_any g a r.name t _ H0.out.isR hs n1 A1.out).mono ?_
  rintro e w1 ⟨rfl, h1, h2⟩
  rw [HNL.out] at h1
  have H1 : Hid (Rx g (w.heap.size + 1) t wq (a + nl) #[.string ⟨#[]⟩, .int .i64 0, .int .i64 0, .int .i64 0, .string ⟨#[]⟩, .int .i64 0, .string ⟨#[]⟩] w1) := H0.out.call h1 h2
  have c0 : w1.cell? ⟨w.heap.size + 1, 0, none⟩ = some (.string ⟨#[]⟩) := H1.out.cell 0
  have z0 := H1.out.free 0
  clear h1 h2 H0
  go_wp2_with fail
  have H2 : Hid (Rx g (w.heap.size + 1) t wq (a + nl) #[.string r.name, .int .i64 0, .int .i64 0, .int .i64 0, .string ⟨#[]⟩, .int .i64 0, .string ⟨#[]⟩] (w1.setCell ⟨w.heap.size + 1, 0, none⟩ (.string r.name))) := H1.out.store 0 (.string r.name)
  refine (number_r g (a + nl) 2 t _ H2.out.isR hs (by omega) (by omega)).mono ?_
  rintro e w2 ⟨rfl, h1, h2⟩
  rw [R3.out]
  have H3 : Hid (Rx g (w.heap.size + 1) t wq (a + nl + 2) #[.string r.name, .int .i64 0, .int .i64 0, .int .i64 0, .string ⟨#[]⟩, .int .i64 0, .string ⟨#[]⟩] w2) := H2.out.call h1 h2
  have c1 : w2.cell? ⟨w.heap.size + 1, 1, none⟩ = some (.int .i64 0) := H3.out.cell 1
  have z1 := H3.out.free 1
  clear h1 h2 H1 H2 c0 z0
  go_wp2_with fail
  have H4 : Hid (Rx g (w.heap.size + 1) t wq (a + nl + 2) #[.string r.name, .int .i64 r.typ, .int .i64 0, .int .i64 0, .string ⟨#[]⟩, .int .i64 0, .string ⟨#[]⟩] (w2.setCell ⟨w.heap.size + 1, 1, none⟩ (.int .i64 r.typ))) := H3.out.store 1 (.int .i64 r.typ)
  refine (expect_r g (a + nl + 2) 2 1 t _ H4.out.isR hs (by omega) (by omega) R5.out).mono ?_
  rintro e w3 ⟨rfl, h1, h2⟩
  have H5 : Hid (Rx g (w.heap.size + 1) t wq (a + nl + 2 + 2) #[.string r.name, .int .i64 r.typ, .int .i64 0, .int .i64 0, .string ⟨#[]⟩, .int .i64 0, .string ⟨#[]⟩] w3) := H4.out.call h1 h2
  clear h1 h2 H3 H4 c1 z1
  go_wp2_with fail
  refine (number_r g (a + nl + 2 + 2) 4 t _ H5.out.isR hs (by omega) (by omega)).mono ?_
  rintro e w4 ⟨rfl, h1, h2⟩
  rw [R7.out]
  have H6 : Hid (Rx g (w.heap.size + 1) t wq (a + nl + 2 + 2 + 4) #[.string r.name, .int .i64 r.typ, .int .i64 0, .int .i64 0, .string ⟨#[]⟩, .int .i64 0, .string ⟨#[]⟩] w4) := H5.out.call h1 h2
  have c2 : w4.cell? ⟨w.heap.size + 1, 2, none⟩ = some (.int .i64 0) := H6.out.cell 2
  have z2 := H6.out.free 2
  clear h1 h2 H5
  go_wp2_with fail
  have H7 : Hid (Rx g (w.heap.size + 1) t wq (a + nl + 2 + 2 + 4) #[.string r.name, .int .i64 r.typ, .int .i64 r.lasts, .int .i64 0, .string ⟨#[]⟩, .int .i64 0, .string ⟨#[]⟩] (w4.setCell ⟨w.heap.size + 1, 2, none⟩ (.int .i64 r.lasts))) := H6.out.store 2 (.int .i64 r.lasts)
  refine (number_r g (a + nl + 2 + 2 + 4) 2 t _ H7.out.isR hs (by omega) (by omega)).mono ?_
  rintro e w5 ⟨rfl, h1, h2⟩
  rw [R9.out]
  have H8 : Hid (Rx g (w.heap.size + 1) t wq (a + nl + 2 + 2 + 4 + 2) #[.string r.name, .int .i64 r.typ, .int .i64 r.lasts, .int .i64 0, .string ⟨#[]⟩, .int .i64 0, .string ⟨#[]⟩] w5) := H7.out.call h1 h2
  have ca : w5.cell? ⟨g, 1, none⟩ = some (.int .i64 ((a + nl + 2 + 2 + 4 + 2 : Nat) : Int)) := H8.out.isR.c1
  clear h1 h2 H6 H7 c2 z2
  go_wp2_with fail
  refine (HDA.out wq _ w5 H8.out).mono ?_
  rintro e w9 ⟨rfl, h9⟩
  have H9 : Hid (Rx g (w.heap.size + 1) t wq (a + nl + 2 + 2 + 4 + 2 + dn) #[.string r.name, .int .i64 r.typ, .int .i64 r.lasts, .int .i64 r.addr, .string r.text, .int .i64 r.port, .string r.target] w9) := h9
  have HQ9 : Hid (w9.heap[w.heap.size]? = some (.cells #[.string ⟨#[]⟩, .int .i64 0, .int .i64 0, .int .i64 0, .string ⟨#[]⟩, .int .i64 0, .string ⟨#[]⟩] 51 (0, 0))) := (h9.block _ (by omega) (by omega) (by omega)).trans hgq
  have cb : w9.cell? ⟨g, 1, none⟩ = some (.int .i64 ((a + nl + 2 + 2 + 4 + 2 + dn : Nat) : Int)) := h9.isR.c1
  clear h9 H8 ca
  have m0 : w9.cell? ⟨w.heap.size + 1, 0, none⟩ = some (.string r.name) := H9.out.cell 0
  have q0 : w9.cell? ⟨w.heap.size, 0, none⟩ = some (.string ⟨#[]⟩) := cellsAt HQ9.out 0
  have y0 : w9.frozen? ⟨w.heap.size, 0, none⟩ = false := by simp [World.frozen?, HQ9.out]
  have m1 : w9.cell? ⟨w.heap.size + 1, 1, none⟩ = some (.int .i64 r.typ) := H9.out.cell 1
  have q1 : w9.cell? ⟨w.heap.size, 1, none⟩ = some (.int .i64 0) := cellsAt HQ9.out 1
  have y1 : w9.frozen? ⟨w.heap.size, 1, none⟩ = false := by simp [World.frozen?, HQ9.out]
  have m2 : w9.cell? ⟨w.heap.size + 1, 2, none⟩ = some (.int .i64 r.lasts) := H9.out.cell 2
  have q2 : w9.cell? ⟨w.heap.size, 2, none⟩ = some (.int .i64 0) := cellsAt HQ9.out 2
  have y2 : w9.frozen? ⟨w.heap.size, 2, none⟩ = false := by simp [World.frozen?, HQ9.out]
  have m3 : w9.cell? ⟨w.heap.size + 1, 3, none⟩ = some (.int .i64 r.addr) := H9.out.cell 3
  have q3 : w9.cell? ⟨w.heap.size, 3, none⟩ = some (.int .i64 0) := cellsAt HQ9.out 3
  have y3 : w9.frozen? ⟨w.heap.size, 3, none⟩ = false := by simp [World.frozen?, HQ9.out]
  have m4 : w9.cell? ⟨w.heap.size + 1, 4, none⟩ = some (.string r.text) := H9.out.cell 4
  have q4 : w9.cell? ⟨w.heap.size, 4, none⟩ = some (.string ⟨#[]⟩) := cellsAt HQ9.out 4
  have y4 : w9.frozen? ⟨w.heap.size, 4, none⟩ = false := by simp [World.frozen?, HQ9.out]
  have m5 : w9.cell? ⟨w.heap.size + 1, 5, none⟩ = some (.int .i64 r.port) := H9.out.cell 5
  have q5 : w9.cell? ⟨w.heap.size, 5, none⟩ = some (.int .i64 0) := cellsAt HQ9.out 5
  have y5 : w9.frozen? ⟨w.heap.size, 5, none⟩ = false := by simp [World.frozen?, HQ9.out]
  have m6 : w9.cell? ⟨w.heap.size + 1, 6, none⟩ = some (.string r.target) := H9.out.cell 6
  have q6 : w9.cell? ⟨w.heap.size, 6, none⟩ = some (.string ⟨#[]⟩) := cellsAt HQ9.out 6
  have y6 : w9.frozen? ⟨w.heap.size, 6, none⟩ = false := by simp [World.frozen?, HQ9.out]
  have hsub : ((a + nl + 2 + 2 + 4 + 2 + dn : Nat) : Int) - ((a + nl + 2 + 2 + 4 + 2 : Nat) : Int) = (dn : Int) := by omega
  have hwr : IntKind.i64.wrap (((a + nl + 2 + 2 + 4 + 2 + dn : Nat) : Int) - ((a + nl + 2 + 2 + 4 + 2 : Nat) : Int)) = (dn : Int) := by rw [hsub, IntKind.wrap_i64]; omega
  have hbq : ((a : Int) + (nl : Int) + 2 + 2 + 4 + 2 + (dn : Int) - ((a : Int) + (nl : Int) + 2 + 2 + 4 + 2) == (dn : Int)) = true := by rw [beq_iff_eq]; omega
  have HBQ : Hid (((a : Int) + (nl : Int) + 2 + 2 + 4 + 2 + (dn : Int) - ((a : Int) + (nl : Int) + 2 + 2 + 4 + 2) == (dn : Int)) = true) := hbq
  clear hbq hsub hwr
  go_wp2_with fail
  rw [HBQ.out]
  refine (need_ok _ _).mono ?_
  rintro e w10 ⟨rfl, hw10⟩
  subst hw10
  go_wp2_with fail
  refine bodyPost_ret (v := recV r) ?_ rfl ⟨rfl, ?_, ?_⟩
  · simp [results, Tryz.results67, go_sem, q0, q1, q2, q3, q4, q5, q6]
  · have he : a + (nl + (2 + (2 + (4 + (2 + dn))))) = a + nl + 2 + 2 + 4 + 2 + dn := by omega
    rw [he]
    exact ((((((((H9.out.isR).put 0 _ (by omega)).put 1 _ (by omega)).put 2 _ (by omega)).put 3 _ (by omega)).put 4 _ (by omega)).put 5 _ (by omega)).put 6 _ (by omega))
  · have hrd : Rd g w w10 := ⟨H9.out.os.trans hxq.os, H9.out.tape.trans hxq.tape, H9.out.output.trans hxq.output, by have := H9.out.size; omega, fun k hk hkg => (H9.out.block k (by omega) hkg (by omega)).trans (hxq.block k hk)⟩
    exact (((((((hrd.put 0 _ (Nat.le_refl _)).put 1 _ (Nat.le_refl _)).put 2 _ (Nat.le_refl _)).put 3 _ (Nat.le_refl _)).put 4 _ (Nat.le_refl _)).put 5 _ (Nat.le_refl _)).put 6 _ (Nat.le_refl _))

end Go.Proofs.YtigffgjkakalfaaGreatDoor

/- A record is read, or there is none: both ways. -/
namespace Go.Proofs.YtigffgjkakalfaaGreatDoor
open Go.RowKit

/-- The record, if its data are as long as it says. -/
def recH (t : ByteArray) (p : Nat) (o : Option (Rc.Rec × Nat)) : Option (Rc.Rec × Nat) :=
  match o with
  | none => none
  | some (r, q) => if (q : Int) - ((p + 2 + 2 + 4 + 2 : Nat) : Int) = (rnum t (p + 2 + 2 + 4) 2 : Int) then some (r, q) else none
/-- The record of that name whose rest stands at p. -/
def recG (t nm : ByteArray) (p : Nat) : Option (Rc.Rec × Nat) :=
  if p + 2 ≤ t.size then
    if p + 2 + 2 ≤ t.size ∧ (rnum t (p + 2) 2 : Int) = 1 then
      if p + 2 + 2 + 4 ≤ t.size then
        if p + 2 + 2 + 4 + 2 ≤ t.size then recH t p (datF t (p + 2 + 2 + 4 + 2) nm (rnum t p 2) (rnum t (p + 2 + 2) 4)) else none
      else none
    else none
  else none
/-- The record that stands at a, and where the reader is behind it. -/
def recF (t : ByteArray) (a : Nat) : Option (Rc.Rec × Nat) :=
  match tgF t a with
  | none => none
  | some (nm, p) => recG t nm p

theorem Ry.rd {g X : Nat} {w wq W : World} (h : Ry g X wq W) (hx : w.Extends wq) (hX : w.heap.size ≤ X) : Rd g w W :=
  ⟨h.os.trans hx.os, h.tape.trans hx.tape, h.output.trans hx.output, Nat.le_trans hx.size h.size, fun k hk hg => (h.block k (Nat.lt_of_lt_of_le hk hx.size) hg (by omega)).trans (hx.block k hk)⟩

set_option maxHeartbeats 1600000 in
set_option maxRecDepth 100000 in
theorem rrec_b (g a : Nat) (t : ByteArray) (w : World) (h : IsR g t a w) (hs : t.size ≤ 1000) (ha : a ≤ t.size) :
    Calls Tryz.prog 67 #[.pointer (some ⟨g, 0, none⟩)] w fun e w' => Hid (Rd g w w') ∧ ((∃ r q, recF t a = some (r, q) ∧ q ≤ t.size ∧ r.ok ∧ e = .returned (recV r) ∧ Hid (IsR g t q w')) ∨ (recF t a = none ∧ e = outE 1)) := by
  have HI : Hid (IsR g t a w) := h
  have hg := h.hg
  have HF : Hid (recF t a = match tgF t a with | none => none | some (nm, p) => recG t nm p) := rfl
  clear h
  generalize recF t a = F at *
  go_enter Tryz.func67, Tryz.ntmps67
  go_wp2_with fail
  obtain ⟨wq, hwq⟩ : ∃ wq, wq = w.alloc (.cells #[.string ⟨#[]⟩, .int .i64 0, .int .i64 0, .int .i64 0, .string ⟨#[]⟩, .int .i64 0, .string ⟨#[]⟩] 51) := ⟨_, rfl⟩
  have hnq : wq.heap.size = w.heap.size + 1 := by rw [hwq]; simp
  have hxq : w.Extends wq := by rw [hwq]; exact (World.Extends.refl w).alloc _
  have hgq : wq.heap[w.heap.size]? = some (.cells #[.string ⟨#[]⟩, .int .i64 0, .int .i64 0, .int .i64 0, .string ⟨#[]⟩, .int .i64 0, .string ⟨#[]⟩] 51 (0, 0)) := by rw [hwq]; exact heap_alloc_new w _
  rw [← hwq]
  clear hwq
  have HXQ : Hid (w.Extends wq) := hxq
  have HGQ : Hid (wq.heap[w.heap.size]? = some (.cells #[.string ⟨#[]⟩, .int .i64 0, .int .i64 0, .int .i64 0, .string ⟨#[]⟩, .int .i64 0, .string ⟨#[]⟩] 51 (0, 0))) := hgq
  have H0 : Hid (Rx g (w.heap.size + 1) t wq a #[.string ⟨#[]⟩, .int .i64 0, .int .i64 0, .int .i64 0, .string ⟨#[]⟩, .int .i64 0, .string ⟨#[]⟩] (wq.alloc (.cells #[.string ⟨#[]⟩, .int .i64 0, .int .i64 0, .int .i64 0, .string ⟨#[]⟩, .int .i64 0, .string ⟨#[]⟩] 51))) := (show Rx _ _ _ _ _ _ _ by
    have hx : wq.Extends (wq.alloc (.cells #[.string ⟨#[]⟩, .int .i64 0, .int .i64 0, .int .i64 0, .string ⟨#[]⟩, .int .i64 0, .string ⟨#[]⟩] 51)) := (World.Extends.refl wq).alloc _
    have hn := heap_alloc_new wq (.cells #[.string ⟨#[]⟩, .int .i64 0, .int .i64 0, .int .i64 0, .string ⟨#[]⟩, .int .i64 0, .string ⟨#[]⟩] 51)
    rw [hnq] at hn
    exact ⟨(HI.out.ext hxq).ext hx, hn, rfl, rfl, rfl, hx.size, fun k hk _ _ => hx.block k hk, by omega⟩)
  clear hxq hgq
  refine (name_c g a t _ H0.out.isR hs ha).mono ?_
  rintro e w1 ⟨h2, ⟨nm, p, h3, h4, h5, rfl, h1⟩ | ⟨h3, rfl⟩⟩
  rotate_left
  · exact ⟨rfl, (H0.out.gone h2).rd HXQ.out (by omega), .inr ⟨by rw [HF.out, h3], rfl⟩⟩
  have HF1 : Hid (F = recG t nm p) := (show _ = _ by rw [HF.out, h3])
  have HF2 : Hid (F = if p + 2 ≤ t.size then
      if p + 2 + 2 ≤ t.size ∧ (rnum t (p + 2) 2 : Int) = 1 then
        if p + 2 + 2 + 4 ≤ t.size then
          if p + 2 + 2 + 4 + 2 ≤ t.size then recH t p (datF t (p + 2 + 2 + 4 + 2) nm (rnum t p 2) (rnum t (p + 2 + 2) 4)) else none
        else none
      else none
    else none) := HF1
  have H1 : Hid (Rx g (w.heap.size + 1) t wq p #[.string ⟨#[]⟩, .int .i64 0, .int .i64 0, .int .i64 0, .string ⟨#[]⟩, .int .i64 0, .string ⟨#[]⟩] w1) := H0.out.call h1 h2
  have c0 : w1.cell? ⟨w.heap.size + 1, 0, none⟩ = some (.string ⟨#[]⟩) := H1.out.cell 0
  have z0 := H1.out.free 0
  clear h1 h2 h3 H0 HF HF1
  go_wp2_with fail
  have H2 : Hid (Rx g (w.heap.size + 1) t wq p #[.string nm, .int .i64 0, .int .i64 0, .int .i64 0, .string ⟨#[]⟩, .int .i64 0, .string ⟨#[]⟩] (w1.setCell ⟨w.heap.size + 1, 0, none⟩ (.string nm))) := H1.out.store 0 (.string nm)
  refine (number_b g p 2 t _ H2.out.isR hs h5 (by omega)).mono ?_
  rintro e w2 ⟨h2, ⟨hle, rfl, h1⟩ | ⟨hno, rfl⟩⟩
  rotate_left
  · exact ⟨rfl, (H2.out.gone h2).rd HXQ.out (by omega), .inr ⟨HF2.out.trans (if_neg hno), rfl⟩⟩
  have HF3 : Hid (F = if p + 2 + 2 ≤ t.size ∧ (rnum t (p + 2) 2 : Int) = 1 then
        if p + 2 + 2 + 4 ≤ t.size then
          if p + 2 + 2 + 4 + 2 ≤ t.size then recH t p (datF t (p + 2 + 2 + 4 + 2) nm (rnum t p 2) (rnum t (p + 2 + 2) 4)) else none
        else none
      else none) := HF2.out.trans (if_pos hle)
  have H3 : Hid (Rx g (w.heap.size + 1) t wq (p + 2) #[.string nm, .int .i64 0, .int .i64 0, .int .i64 0, .string ⟨#[]⟩, .int .i64 0, .string ⟨#[]⟩] w2) := H2.out.call h1 h2
  have c1 : w2.cell? ⟨w.heap.size + 1, 1, none⟩ = some (.int .i64 0) := H3.out.cell 1
  have z1 := H3.out.free 1
  clear h1 h2 H1 H2 c0 z0 HF2
  generalize (rnum t p 2 : Int) = ty at *
  go_wp2_with fail
  have H4 : Hid (Rx g (w.heap.size + 1) t wq (p + 2) #[.string nm, .int .i64 ty, .int .i64 0, .int .i64 0, .string ⟨#[]⟩, .int .i64 0, .string ⟨#[]⟩] (w2.setCell ⟨w.heap.size + 1, 1, none⟩ (.int .i64 ty))) := H3.out.store 1 (.int .i64 ty)
  refine (expect_b g (p + 2) 2 1 t _ H4.out.isR hs hle (by omega)).mono ?_
  rintro e w3 ⟨h2, ⟨hle2, rfl, h1⟩ | ⟨hno, rfl⟩⟩
  rotate_left
  · exact ⟨rfl, (H4.out.gone h2).rd HXQ.out (by omega), .inr ⟨HF3.out.trans (if_neg hno), rfl⟩⟩
  have HF4 : Hid (F = if p + 2 + 2 + 4 ≤ t.size then
          if p + 2 + 2 + 4 + 2 ≤ t.size then recH t p (datF t (p + 2 + 2 + 4 + 2) nm ty (rnum t (p + 2 + 2) 4)) else none
        else none) := HF3.out.trans (if_pos hle2)
  have H5 : Hid (Rx g (w.heap.size + 1) t wq (p + 2 + 2) #[.string nm, .int .i64 ty, .int .i64 0, .int .i64 0, .string ⟨#[]⟩, .int .i64 0, .string ⟨#[]⟩] w3) := H4.out.call h1 h2
  have hle3 := hle2.1
  clear h1 h2 H3 H4 c1 z1 HF3 hle2
  go_wp2_with fail
  refine (number_b g (p + 2 + 2) 4 t _ H5.out.isR hs hle3 (by omega)).mono ?_
  rintro e w4 ⟨h2, ⟨hle4, rfl, h1⟩ | ⟨hno, rfl⟩⟩
  rotate_left
  · exact ⟨rfl, (H5.out.gone h2).rd HXQ.out (by omega), .inr ⟨HF4.out.trans (if_neg hno), rfl⟩⟩
  have HF5 : Hid (F = if p + 2 + 2 + 4 + 2 ≤ t.size then recH t p (datF t (p + 2 + 2 + 4 + 2) nm ty (rnum t (p + 2 + 2) 4)) else none) := HF4.out.trans (if_pos hle4)
  have H6 : Hid (Rx g (w.heap.size + 1) t wq (p + 2 + 2 + 4) #[.string nm, .int .i64 ty, .int .i64 0, .int .i64 0, .string ⟨#[]⟩, .int .i64 0, .string ⟨#[]⟩] w4) := H5.out.call h1 h2
  have c2 : w4.cell? ⟨w.heap.size + 1, 2, none⟩ = some (.int .i64 0) := H6.out.cell 2
  have z2 := H6.out.free 2
  clear h1 h2 H5 HF4
  generalize (rnum t (p + 2 + 2) 4 : Int) = la at *
  go_wp2_with fail
  have H7 : Hid (Rx g (w.heap.size + 1) t wq (p + 2 + 2 + 4) #[.string nm, .int .i64 ty, .int .i64 la, .int .i64 0, .string ⟨#[]⟩, .int .i64 0, .string ⟨#[]⟩] (w4.setCell ⟨w.heap.size + 1, 2, none⟩ (.int .i64 la))) := H6.out.store 2 (.int .i64 la)
  refine (number_b g (p + 2 + 2 + 4) 2 t _ H7.out.isR hs hle4 (by omega)).mono ?_
  rintro e w5 ⟨h2, ⟨hle5, rfl, h1⟩ | ⟨hno, rfl⟩⟩
  rotate_left
  · exact ⟨rfl, (H7.out.gone h2).rd HXQ.out (by omega), .inr ⟨HF5.out.trans (if_neg hno), rfl⟩⟩
  have HF6 : Hid (F = recH t p (datF t (p + 2 + 2 + 4 + 2) nm ty la)) := HF5.out.trans (if_pos hle5)
  have H8 : Hid (Rx g (w.heap.size + 1) t wq (p + 2 + 2 + 4 + 2) #[.string nm, .int .i64 ty, .int .i64 la, .int .i64 0, .string ⟨#[]⟩, .int .i64 0, .string ⟨#[]⟩] w5) := H7.out.call h1 h2
  clear h1 h2 H6 H7 c2 z2 HF5
  have HRH : Hid (∀ r q, recH t p (some (r, q)) = if (q : Int) - ((p + 2 + 2 + 4 + 2 : Nat) : Int) = (rnum t (p + 2 + 2 + 4) 2 : Int) then some (r, q) else none) := fun r q => rfl
  have HRN : Hid (recH t p none = none) := rfl
  generalize (rnum t (p + 2 + 2 + 4) 2 : Int) = sz at *
  generalize hB : p + 2 + 2 + 4 + 2 = B at *
  clear hB
  have ca : w5.cell? ⟨g, 1, none⟩ = some (.int .i64 (B : Int)) := H8.out.isR.c1
  go_wp2_with fail
  refine (rdat_b g (w.heap.size + 1) B t nm ty la wq w5 H8.out hs hle5).mono ?_
  rintro e w9 (⟨r, q, h3, hq, ⟨k1, k2, k3⟩, rfl, H9⟩ | ⟨h3, rfl, h9⟩)
  rotate_left
  · exact ⟨rfl, h9.out.rd HXQ.out (by omega), .inr ⟨by rw [HF6.out, h3, HRN.out], rfl⟩⟩
  have HF7 : Hid (F = if (q : Int) - (B : Int) = sz then some (r, q) else none) := (show _ = _ by rw [HF6.out, h3, HRH.out])
  have hrok : r.ok := ⟨by rw [k1]; unfold maxLen; omega, by unfold maxLen; omega, by unfold maxLen; omega⟩
  have HQ9 : Hid (w9.heap[w.heap.size]? = some (.cells #[.string ⟨#[]⟩, .int .i64 0, .int .i64 0, .int .i64 0, .string ⟨#[]⟩, .int .i64 0, .string ⟨#[]⟩] 51 (0, 0))) := (H9.out.block _ (by omega) (by omega) (by omega)).trans HGQ.out
  have cb : w9.cell? ⟨g, 1, none⟩ = some (.int .i64 (q : Int)) := H9.out.isR.c1
  clear H8 ca HF6 h3 HRH HRN k1 k2 k3
  have HROK : Hid r.ok := hrok
  clear hrok
  have m0 : w9.cell? ⟨w.heap.size + 1, 0, none⟩ = some (.string r.name) := H9.out.cell 0
  have q0 : w9.cell? ⟨w.heap.size, 0, none⟩ = some (.string ⟨#[]⟩) := cellsAt HQ9.out 0
  have y0 : w9.frozen? ⟨w.heap.size, 0, none⟩ = false := by simp [World.frozen?, HQ9.out]
  have m1 : w9.cell? ⟨w.heap.size + 1, 1, none⟩ = some (.int .i64 r.typ) := H9.out.cell 1
  have q1 : w9.cell? ⟨w.heap.size, 1, none⟩ = some (.int .i64 0) := cellsAt HQ9.out 1
  have y1 : w9.frozen? ⟨w.heap.size, 1, none⟩ = false := by simp [World.frozen?, HQ9.out]
  have m2 : w9.cell? ⟨w.heap.size + 1, 2, none⟩ = some (.int .i64 r.lasts) := H9.out.cell 2
  have q2 : w9.cell? ⟨w.heap.size, 2, none⟩ = some (.int .i64 0) := cellsAt HQ9.out 2
  have y2 : w9.frozen? ⟨w.heap.size, 2, none⟩ = false := by simp [World.frozen?, HQ9.out]
  have m3 : w9.cell? ⟨w.heap.size + 1, 3, none⟩ = some (.int .i64 r.addr) := H9.out.cell 3
  have q3 : w9.cell? ⟨w.heap.size, 3, none⟩ = some (.int .i64 0) := cellsAt HQ9.out 3
  have y3 : w9.frozen? ⟨w.heap.size, 3, none⟩ = false := by simp [World.frozen?, HQ9.out]
  have m4 : w9.cell? ⟨w.heap.size + 1, 4, none⟩ = some (.string r.text) := H9.out.cell 4
  have q4 : w9.cell? ⟨w.heap.size, 4, none⟩ = some (.string ⟨#[]⟩) := cellsAt HQ9.out 4
  have y4 : w9.frozen? ⟨w.heap.size, 4, none⟩ = false := by simp [World.frozen?, HQ9.out]
  have m5 : w9.cell? ⟨w.heap.size + 1, 5, none⟩ = some (.int .i64 r.port) := H9.out.cell 5
  have q5 : w9.cell? ⟨w.heap.size, 5, none⟩ = some (.int .i64 0) := cellsAt HQ9.out 5
  have y5 : w9.frozen? ⟨w.heap.size, 5, none⟩ = false := by simp [World.frozen?, HQ9.out]
  have m6 : w9.cell? ⟨w.heap.size + 1, 6, none⟩ = some (.string r.target) := H9.out.cell 6
  have q6 : w9.cell? ⟨w.heap.size, 6, none⟩ = some (.string ⟨#[]⟩) := cellsAt HQ9.out 6
  have y6 : w9.frozen? ⟨w.heap.size, 6, none⟩ = false := by simp [World.frozen?, HQ9.out]
  have hwr : IntKind.i64.wrap ((q : Int) - (B : Int)) = (q : Int) - (B : Int) := by rw [IntKind.wrap_i64]; omega
  by_cases hsz : (q : Int) - (B : Int) = sz
  · have hbq : ((q : Int) - (B : Int) == sz) = true := by simpa using hsz
    have HF8 : Hid (F = some (r, q)) := HF7.out.trans (if_pos hsz)
    clear hsz HF7
    go_wp2_with fail
    refine (need_ok _ _).mono ?_
    rintro e w10 ⟨rfl, hw10⟩
    subst hw10
    go_wp2_with fail
    refine bodyPost_ret (v := recV r) ?_ rfl ⟨?_, .inl ⟨r, q, HF8.out, hq, HROK.out, rfl, ?_⟩⟩
    · simp [results, Tryz.results67, go_sem, q0, q1, q2, q3, q4, q5, q6]
    · have hrd : Rd g w w10 := H9.out.ry.rd HXQ.out (by omega)
      exact (((((((hrd.put 0 _ (Nat.le_refl _)).put 1 _ (Nat.le_refl _)).put 2 _ (Nat.le_refl _)).put 3 _ (Nat.le_refl _)).put 4 _ (Nat.le_refl _)).put 5 _ (Nat.le_refl _)).put 6 _ (Nat.le_refl _))
    · exact ((((((((H9.out.isR).put 0 _ (by omega)).put 1 _ (by omega)).put 2 _ (by omega)).put 3 _ (by omega)).put 4 _ (by omega)).put 5 _ (by omega)).put 6 _ (by omega))
  · have hbq : ((q : Int) - (B : Int) == sz) = false := by simpa using hsz
    have HF8 : Hid (F = none) := HF7.out.trans (if_neg hsz)
    clear hsz HF7
    go_wp2_with fail
    refine (need_no _ _).mono ?_
    rintro e w10 ⟨rfl, hw10⟩
    subst hw10
    exact ⟨rfl, H9.out.ry.rd HXQ.out (by omega), .inr ⟨HF8.out, rfl⟩⟩

end Go.Proofs.YtigffgjkakalfaaGreatDoor

/- Write, of any message: the walk. -/
namespace Go.Proofs.YtigffgjkakalfaaGreatDoor
open Go.RowKit

set_option maxHeartbeats 800000 in
set_option maxRecDepth 100000 in
theorem write1_any (g n : Nat) (E id code typ : Int) (ans cut : Bool) (name : ByteArray) (pa : Option Addr) (cap : Nat) (w : World) (hg : w.heap[g]? = some (.cells #[.int .i64 id, .bool ans, .bool cut, .int .i64 code, .string name, .int .i64 typ, .slice pa n cap] 38 (0, 0)))
    (hc : Calls Tryz.prog 33 #[.agg #[.int .i64 id, .bool ans, .bool cut, .int .i64 code, .string name, .int .i64 typ, .slice pa n cap]] w fun r w' => r = outE E ∧ Below w.heap.size w w') :
    Calls Tryz.prog 52 #[.pointer (some ⟨g, 0, none⟩)] w fun r w' => r = outE E ∧ Below w.heap.size w w' := by
  have HC : Hid (Calls Tryz.prog 33 #[.agg #[.int .i64 id, .bool ans, .bool cut, .int .i64 code, .string name, .int .i64 typ, .slice pa n cap]] w fun r w' => r = outE E ∧ Below w.heap.size w w') := hc
  have c0 : w.cell? ⟨g, 0, none⟩ = some (.int .i64 id) := cellsAt hg 0
  have c1 : w.cell? ⟨g, 1, none⟩ = some (.bool ans) := cellsAt hg 1
  have c2 : w.cell? ⟨g, 2, none⟩ = some (.bool cut) := cellsAt hg 2
  have c3 : w.cell? ⟨g, 3, none⟩ = some (.int .i64 code) := cellsAt hg 3
  have c4 : w.cell? ⟨g, 4, none⟩ = some (.string name) := cellsAt hg 4
  have c5 : w.cell? ⟨g, 5, none⟩ = some (.int .i64 typ) := cellsAt hg 5
  have c6 : w.cell? ⟨g, 6, none⟩ = some (.slice pa n cap) := cellsAt hg 6
  clear hc hg
  go_enter Tryz.func52, Tryz.ntmps52
  go_wp2_with fail
  refine HC.out.mono ?_
  rintro e w1 ⟨rfl, hb1⟩
  have HB1 : Hid (Below w.heap.size w w1) := hb1
  clear hb1
  by_cases h0 : E = 0
  · subst h0
    rw [outE_0]
    go_wp2_with fail
    simp [bodyPost, results, Tryz.results52]
    exact ⟨rfl, HB1.out⟩
  · rw [outE_ne h0]
    exact ⟨rfl, (outE_ne h0).symm, HB1.out⟩

/-- What Attempt tells of a check. -/
theorem attempt_any (f : Nat) (caps : Array Value) (E : Int) (w : World) (ef : ∀ args W, (callFunc f args).run Tryz.prog W = .ok (.enter f args) W)
    (hc : Calls Tryz.prog f caps (w.alloc (.cells #[.int .i64 0] 27)) fun r w' => r = outE E ∧ Below (w.heap.size + 1) (w.alloc (.cells #[.int .i64 0] 27)) w') :
    Calls Tryz.prog 34 #[.func (.func f) #[] caps] w fun r w' => r = .returned (.int .i64 E) ∧ Below w.heap.size w w' := by
  have hge : (w.alloc (.cells #[.int .i64 0] 27)).heap[w.heap.size]? = some (.cells #[.int .i64 0] 27 (0, 0)) := heap_alloc_new w _
  by_cases h0 : E = 0
  · subst h0
    refine (attempt_ok f caps w (fun W => Below (w.heap.size + 1) (w.alloc (.cells #[.int .i64 0] 27)) W) ef (hc.mono ?_)).mono ?_
    · rintro r w' ⟨rfl, hb⟩
      have hk : w'.heap[w.heap.size]? = some (.cells #[.int .i64 0] 27 (0, 0)) := (hb.block _ (by omega)).trans hge
      exact ⟨rfl, hb, cellsAt hk 0, by simp [World.frozen?, hk], (Array.getElem?_eq_some_iff.1 hk).1⟩
    · rintro r w' ⟨rfl, w1, hR, _, rfl⟩
      exact ⟨rfl, (((Below.refl _ _).alloc (Nat.le_refl _) _).trans (hR.mono (by omega))).setCell (p := ⟨w.heap.size, 0, none⟩) (Nat.le_refl _) _⟩
  · refine (attempt_no f caps E w (fun W => Below (w.heap.size + 1) (w.alloc (.cells #[.int .i64 0] 27)) W) ef (hc.mono ?_)).mono ?_
    · rintro r w' ⟨rfl, hb⟩
      have hk : w'.heap[w.heap.size]? = some (.cells #[.int .i64 0] 27 (0, 0)) := (hb.block _ (by omega)).trans hge
      exact ⟨outE_ne h0, hb, cellsAt hk 0, by simp [World.frozen?, hk], (Array.getElem?_eq_some_iff.1 hk).1⟩
    · rintro r w' ⟨rfl, w1, hR, _, hb⟩
      exact ⟨rfl, (((Below.refl _ _).alloc (Nat.le_refl _) _).trans (hR.mono (by omega))).trans hb⟩

def wrE (id code typ : Int) (ans cut : Bool) (name : ByteArray) (rs : List Rc.Rec) : Int := if chkMsg id code typ name rs = 0 then (if 512 < (wallL id code typ ans cut name rs).length then 2 else 0) else chkMsg id code typ name rs
def wrT (id code typ : Int) (ans cut : Bool) (name : ByteArray) (rs : List Rc.Rec) : ByteArray := if chkMsg id code typ name rs = 0 then (if 512 < (wallL id code typ ans cut name rs).length then ⟨#[]⟩ else ⟨(wallL id code typ ans cut name rs).toArray⟩) else ⟨#[]⟩

theorem row_below {w W : World} {b off : Nat} {rs : List Rc.Rec} (h : Rc.Row w b off rs) (hW : Below w.heap.size w W) (hb : b < w.heap.size) : Rc.Row W b off rs := fun j hj => by
  obtain ⟨c0, c1, c2, c3, c4, c5, c6⟩ := h j hj
  exact ⟨(hW.cell (p := ⟨b, off + j * 7, none⟩) hb).trans c0, (hW.cell (p := ⟨b, off + j * 7 + 1, none⟩) hb).trans c1, (hW.cell (p := ⟨b, off + j * 7 + 2, none⟩) hb).trans c2, (hW.cell (p := ⟨b, off + j * 7 + 3, none⟩) hb).trans c3, (hW.cell (p := ⟨b, off + j * 7 + 4, none⟩) hb).trans c4, (hW.cell (p := ⟨b, off + j * 7 + 5, none⟩) hb).trans c5, (hW.cell (p := ⟨b, off + j * 7 + 6, none⟩) hb).trans c6⟩

set_option maxHeartbeats 1600000 in
set_option maxRecDepth 100000 in
theorem write_any (id code typ : Int) (ans cut : Bool) (name : ByteArray) (rs : List Rc.Rec) (v : Value) (w : World) (hm : ML w) (hs : name.size ≤ maxLen) (hv : Rc.Sl w v rs) :
    Calls Tryz.prog 21 #[.agg #[.int .i64 id, .bool ans, .bool cut, .int .i64 code, .string name, .int .i64 typ, v]] w fun e w' => e = .returned (.tuple #[.string (wrT id code typ ans cut name rs), .int .i64 (wrE id code typ ans cut name rs)]) ∧ Below w.heap.size w w' := by
  have HSL : Hid (Rc.Sl w v rs) := hv
  obtain ⟨pa, cap, rfl, hok, hrow⟩ := hv
  have HROW : Hid (∀ W, Below w.heap.size w W → rs = [] ∨ ∃ b off, pa = some ⟨b, off, none⟩ ∧ b < W.heap.size ∧ Rc.Row W b off rs) := fun W hW => by
    rcases hrow with h | ⟨b, off, h1, h2, h3⟩
    · exact .inl h
    · exact .inr ⟨b, off, h1, Nat.lt_of_lt_of_le h2 hW.size, row_below h3 hW h2⟩
  have HWR : Hid (chkMsg id code typ name rs = 0 → ∀ W, Below w.heap.size w W → Calls Tryz.prog 53 #[.agg #[.int .i64 id, .bool ans, .bool cut, .int .i64 code, .string name, .int .i64 typ, .slice pa rs.length cap]] W fun e w' => e = .returned (.string ⟨(wallL id code typ ans cut name rs).toArray⟩) ∧ Below W.heap.size W w') := fun hc W hW => by
    obtain ⟨f1, f2, f3⟩ := chkMsg_facts hc
    exact written_any id code typ ans cut name rs pa cap W (hm.below hW) f2 f1 f3 (fun W2 hW2 => HROW.out W2 (hW.trans (hW2.mono hW.size)))
  have HC : Hid (∀ W, Below w.heap.size w W → Calls Tryz.prog 33 #[.agg #[.int .i64 id, .bool ans, .bool cut, .int .i64 code, .string name, .int .i64 typ, .slice pa rs.length cap]] W fun r w' => r = outE (chkMsg id code typ name rs) ∧ Below W.heap.size W w') := fun W hW => dcheck_any id code typ ans cut name rs _ W hs (HSL.out.below hW)
  have hWL : (⟨(wallL id code typ ans cut name rs).toArray⟩ : ByteArray).size = (wallL id code typ ans cut name rs).length := by simp [ByteArray.size]
  have ef : ∀ args W, (callFunc 52 args).run Tryz.prog W = .ok (.enter 52 args) W := enters_of Tryz.func52 (by kernel_rfl) rfl
  have HR1 : Hid (chkMsg id code typ name rs = 0 → ¬ 512 < (⟨(wallL id code typ ans cut name rs).toArray⟩ : ByteArray).size → wrT id code typ ans cut name rs = ⟨(wallL id code typ ans cut name rs).toArray⟩ ∧ wrE id code typ ans cut name rs = 0) := fun h1 h2 => by
    rw [hWL] at h2
    unfold wrT wrE
    rw [if_pos h1, if_pos h1, if_neg h2, if_neg h2]
    exact ⟨rfl, rfl⟩
  have HR2 : Hid (chkMsg id code typ name rs = 0 → 512 < (⟨(wallL id code typ ans cut name rs).toArray⟩ : ByteArray).size → wrT id code typ ans cut name rs = ⟨#[]⟩ ∧ wrE id code typ ans cut name rs = 2) := fun h1 h2 => by
    rw [hWL] at h2
    unfold wrT wrE
    rw [if_pos h1, if_pos h1, if_pos h2, if_pos h2]
    exact ⟨rfl, rfl⟩
  have HR3 : Hid (chkMsg id code typ name rs ≠ 0 → wrT id code typ ans cut name rs = ⟨#[]⟩ ∧ wrE id code typ ans cut name rs = chkMsg id code typ name rs) := fun h1 => by
    unfold wrT wrE
    rw [if_neg h1, if_neg h1]
    exact ⟨rfl, rfl⟩
  clear hm hs hok hrow HROW HSL hWL
  generalize chkMsg id code typ name rs = E at *
  generalize (⟨(wallL id code typ ans cut name rs).toArray⟩ : ByteArray) = T at *
  generalize wrT id code typ ans cut name rs = RT at *
  generalize wrE id code typ ans cut name rs = RE at *
  generalize rs.length = n at *
  go_enter Tryz.func21, Tryz.ntmps21
  go_wp2_with fail
  obtain ⟨w0, hw0⟩ : ∃ w0, w0 = w.alloc (.cells #[.int .i64 id, .bool ans, .bool cut, .int .i64 code, .string name, .int .i64 typ, .slice pa n cap] 38) := ⟨_, rfl⟩
  rw [← hw0]
  have hg0 : w0.heap[w.heap.size]? = some (.cells #[.int .i64 id, .bool ans, .bool cut, .int .i64 code, .string name, .int .i64 typ, .slice pa n cap] 38 (0, 0)) := by rw [hw0]; exact heap_alloc_new w _
  have HB0 : Hid (Below w.heap.size w w0) := (show Below _ _ _ by rw [hw0]; exact (Below.refl _ _).alloc (Nat.le_refl _) _)
  have hl0 : w.heap.size < w0.heap.size := (Array.getElem?_eq_some_iff.1 hg0).1
  clear hw0
  have HAT : Hid (Calls Tryz.prog 34 #[.func (.func 52) #[] #[.pointer (some ⟨w.heap.size, 0, none⟩)]] w0 fun r w' => r = .returned (.int .i64 E) ∧ Below w0.heap.size w0 w') := (show Calls _ _ _ _ _ by
    refine attempt_any 52 #[.pointer (some ⟨w.heap.size, 0, none⟩)] E w0 ef ?_
    have h := write1_any w.heap.size n E id code typ ans cut name pa cap (w0.alloc (.cells #[.int .i64 0] 27)) ((Lib.alloc_old w0 _ _ hl0).trans hg0) (HC.out _ (HB0.out.alloc (Nat.le_of_lt hl0) _))
    simpa using h)
  have HCB : Hid (∀ W, Below w0.heap.size w0 W → W.heap[w.heap.size]? = some (.cells #[.int .i64 id, .bool ans, .bool cut, .int .i64 code, .string name, .int .i64 typ, .slice pa n cap] 38 (0, 0))) := fun W hW => (hW.block _ hl0).trans hg0
  clear hg0 ef HC
  refine HAT.out.mono ?_
  rintro e w1 ⟨rfl, hb1⟩
  have HB1 : Hid (Below w.heap.size w w1) := HB0.out.trans (hb1.mono (Nat.le_of_lt hl0))
  have hg1 := HCB.out w1 hb1
  have c0 : w1.cell? ⟨w.heap.size, 0, none⟩ = some (.int .i64 id) := cellsAt hg1 0
  have c1 : w1.cell? ⟨w.heap.size, 1, none⟩ = some (.bool ans) := cellsAt hg1 1
  have c2 : w1.cell? ⟨w.heap.size, 2, none⟩ = some (.bool cut) := cellsAt hg1 2
  have c3 : w1.cell? ⟨w.heap.size, 3, none⟩ = some (.int .i64 code) := cellsAt hg1 3
  have c4 : w1.cell? ⟨w.heap.size, 4, none⟩ = some (.string name) := cellsAt hg1 4
  have c5 : w1.cell? ⟨w.heap.size, 5, none⟩ = some (.int .i64 typ) := cellsAt hg1 5
  have c6 : w1.cell? ⟨w.heap.size, 6, none⟩ = some (.slice pa n cap) := cellsAt hg1 6
  clear hb1 hg1 HAT HCB
  by_cases h0 : E = 0
  · have HWR2 := HWR.out h0 w1 HB1.out
    have HWR3 : Hid (Calls Tryz.prog 53 #[.agg #[.int .i64 id, .bool ans, .bool cut, .int .i64 code, .string name, .int .i64 typ, .slice pa n cap]] w1 fun e w' => e = .returned (.string T) ∧ Below w1.heap.size w1 w') := HWR2
    clear HWR2
    have h1 : (E != 0) = false := by simpa using h0
    have H1 := HR1.out h0
    have H2 := HR2.out h0
    subst h0
    clear h1 HR1 HR2 HR3
    have K1 : Hid (¬ 512 < T.size → RT = T ∧ RE = 0) := H1
    have K2 : Hid (512 < T.size → RT = ⟨#[]⟩ ∧ RE = 2) := H2
    clear H1 H2
    go_wp2_with fail
    refine HWR3.out.mono ?_
    rintro e w2 ⟨rfl, hb2⟩
    have HB2 : Hid (Below w.heap.size w w2) := HB1.out.trans (hb2.mono HB1.out.size)
    clear hb2
    by_cases hT : 512 < T.size
    · obtain ⟨e1, e2⟩ := K2.out hT
      have hcmp : decide (512 < (T.size : Int)) = true := by simp; omega
      go_wp2_with fail
      go_ret2
      exact ⟨by rw [e1, e2]; rfl, HB2.out⟩
    · obtain ⟨e1, e2⟩ := K1.out hT
      have hcmp : decide (512 < (T.size : Int)) = false := by simp; omega
      go_wp2_with fail
      go_ret2
      exact ⟨by rw [e1, e2]; rfl, HB2.out⟩
  · have h1 : (E != 0) = true := by simpa using h0
    have K3 : Hid (RT = ⟨#[]⟩ ∧ RE = E) := HR3.out h0
    go_wp2_with fail
    go_ret2
    exact ⟨by rw [K3.out.1, K3.out.2]; rfl, HB1.out⟩

end Go.Proofs.YtigffgjkakalfaaGreatDoor

