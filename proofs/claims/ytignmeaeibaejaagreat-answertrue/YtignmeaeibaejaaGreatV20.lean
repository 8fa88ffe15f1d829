/- AN6, MC2 -/
import Derived.Test.YtignmeaeibaejaaGreatV13
import Derived.Test.YtignmeaeibaejaaGreatV18
import Derived.Test.YtignmeaeibaejaaGreatV19
import Derived.Test.YtignmeaeibaejaaGreatV14
/- Records of a service, and of a node; Records, whole. -/
namespace Go.Proofs.YtignmeaeibaejaaGreat
open Go.RowKit

theorem rcI : (Tryz.prog.info? 42).map (fun i => (i.zero, i.size, i.bytes)) = some (some (.agg #[.string ⟨#[]⟩, .int .i64 0, .int .i64 0, .int .i64 0, .string ⟨#[]⟩, .int .i64 0, .string ⟨#[]⟩]), 7, 80) := by kernel_rfl
theorem map_snoc {L : List Sv.Svc} {f : Sv.Svc → Rc.Rec} {k : Nat} (h : k < L.length) : (L.take (k + 1)).map f = (L.take k).map f ++ [f (L.getD k Sv.dm)] := by
  rw [take_snocS h]; simp
theorem findE_ok {q : Qu} {tag : ByteArray} (h : chkQ q = 0) (hn : q.node.size = 0) (ht : tag = q.tag ∨ tag = ⟨#[]⟩) : Sv.findE q.service tag = 0 := by
  obtain ⟨z0, z1, z2, _, _, _⟩ := chkQ_zero h
  have hs : q.service.size ≠ 0 := fun e => by unfold frmQ at z0; simp [e, hn] at z0
  have hl : labB q.service = true := by
    have h1 : (decide (q.service = ByteArray.empty) || labB q.service) = true := z1
    have h2 : decide (q.service = ByteArray.empty) = false := by simpa using fun e => hs (by rw [e]; rfl)
    rw [h2] at h1
    simpa using h1
  have htg : Sv.tagB tag = true := by
    rcases ht with rfl | rfl
    · exact z2
    · rfl
  unfold Sv.findE
  rw [hl, htg]; rfl
theorem svown_slice {B : Nat} {w : World} {v : Value} {ms : List Sv.Svc} (h : Sv.Own B w v ms) : ∃ p c, v = .slice p ms.length c := by
  rcases h.2 with ⟨hv, h0⟩ | ⟨g, c, cur, hv, _⟩
  · exact ⟨none, 0, by rw [hv, h0]⟩
  · exact ⟨_, c, hv⟩
/-- What is known is right. -/
structure KnOk (here : ByteArray) (sv : List Sv.Svc) (ms : List Mem) (p : Pl) (wh : List Wh.Whe) : Prop where
  lab : labB here = true
  sv : Sv.chk sv = 0
  ms : chk ms = 0
  pl : plE p wh = 0
theorem knOk {here : ByteArray} {sv : List Sv.Svc} {ms : List Mem} {p : Pl} {wh : List Wh.Whe} (h : knE here sv ms p wh = 0) : KnOk here sv ms p wh := by
  unfold knE at h
  by_cases h1 : labB here = true
  · rw [if_pos h1] at h
    by_cases h2 : Sv.chk sv = 0
    · rw [if_pos h2] at h
      by_cases h3 : chk ms = 0
      · rw [if_pos h3] at h
        exact ⟨h1, h2, h3, h⟩
      · rw [if_neg h3] at h; exact absurd h h3
    · rw [if_neg h2] at h; exact absurd h h2
  · rw [if_neg h1] at h; omega
theorem KnOk.sort {here : ByteArray} {sv : List Sv.Svc} {ms : List Mem} {p : Pl} {wh : List Wh.Whe} (h : KnOk here sv ms p wh) {ns : List ByteArray} (hn : ns.length ≤ 100) : sortE p wh ns = 0 ∧ sortL p wh ns = srt p wh ns := by
  have h1 := h.pl
  unfold plE at h1
  by_cases hm : 20 < wh.length
  · rw [if_pos hm] at h1; omega
  · rw [if_neg hm] at h1
    have e : sortE p wh ns = 0 := by unfold sortE; rw [if_neg (by omega)]; exact h1
    exact ⟨e, by unfold sortL; rw [if_pos e]⟩
theorem srt_len (p : Pl) (wh : List Wh.Whe) (ns : List ByteArray) : (srt p wh ns).length = ns.length := by
  unfold srt
  have := So.insAll_len (ltN (dV (Dd (farW p) wh wh.length))) ns (swoN _) ns.length (Nat.le_refl _)
  rwa [List.take_length] at this
theorem lab_max {s : ByteArray} (h : labB s = true) : s.size ≤ maxLen := by
  unfold labB at h
  simp at h
  unfold maxLen
  omega

/-- The nearest ones, of what is right. -/
theorem near_any (here : ByteArray) (ps pm pw : Option Addr) (ns cs nm cm nw cw : Nat) (px py pz ph pq : Int) (sv : List Sv.Svc) (ms : List Mem) (wh : List Wh.Whe) (found : List Sv.Svc) (vf : Value) (w : World) (hk : KnOk here sv ms ⟨px, py, pz, ph, pq⟩ wh) (hm : Sl w (.slice pm nm cm) ms) (hw : Wh.Sl w (.slice pw nw cw) wh) (hf : Sv.Sl w vf found) (hfl : found.length ≤ 40) :
    Calls Tryz.prog 49 #[.agg (knA here (.slice ps ns cs) (.slice pm nm cm) px py pz ph pq (.slice pw nw cw)), vf] w fun e w' => ∃ v', e = .returned v' ∧ Sv.Sl w' v' (nearL ⟨px, py, pz, ph, pq⟩ wh ms found) ∧ Below w.heap.size w w' := by
  have hl := live_len ms found
  have hl2 := nodesP_len (liveL ms found)
  have hn : nm ≤ 1000 := by
    obtain ⟨_, _, he, _, _⟩ := id hm
    simp only [Value.slice.injEq] at he
    have := (chk_zero hk.ms).1
    omega
  obtain ⟨hE, hL⟩ := hk.sort (ns := nodesP (liveL ms found)) (by omega)
  refine nearest_any here ps pm pw ns cs nm cm nw cw px py pz ph pq ms found wh (srt ⟨px, py, pz, ph, pq⟩ wh (nodesP (liveL ms found))) vf w hm hf hw hn hfl (fun vn W h1 h2 => ?_) (fun x hx => srt_mem.1 hx) (by rw [srt_len]; omega)
  refine (Sort_any ⟨px, py, pz, ph, pq⟩ wh (.slice pw nw cw) vn _ W h1 h2).mono ?_
  rintro e w' ⟨v', rfl, h3, _, h4⟩
  rw [hL] at h3
  exact ⟨v', _, rfl, h3, h4⟩

set_option maxHeartbeats 12800000 in
set_option maxRecDepth 100000 in
theorem ofService_any (here : ByteArray) (ps pm pw : Option Addr) (ns cs nm cm nw cw : Nat) (px py pz ph pq : Int) (q : Qu) (name : ByteArray) (t : Int) (sv : List Sv.Svc) (ms : List Mem) (wh : List Wh.Whe) (w : World) (hq : q.ok) (h0 : chkQ q = 0) (hn0 : q.node.size = 0) (hk : KnOk here sv ms ⟨px, py, pz, ph, pq⟩ wh) (hs : Sv.Sl w (.slice ps ns cs) sv) (hm : Sl w (.slice pm nm cm) ms) (hw : Wh.Sl w (.slice pw nw cw) wh) (hname : name = prS q) :
    Calls Tryz.prog 27 #[.agg (knA here (.slice ps ns cs) (.slice pm nm cm) px py pz ph pq (.slice pw nw cw)), .agg #[.string q.service, .string q.tag, .string q.node, .string q.centre], .agg #[.string name, .int .i64 t, .int .i64 0, .int .i64 0, .string ⟨#[]⟩, .int .i64 0, .string ⟨#[]⟩]] w fun e w' => ∃ v, e = .returned (.tuple #[v, .int .i64 (ofSv q t here sv ms ⟨px, py, pz, ph, pq⟩ wh).code, .int .i64 (ofSv q t here sv ms ⟨px, py, pz, ph, pq⟩ wh).e]) ∧ Rc.Own w.heap.size w' v (ofSv q t here sv ms ⟨px, py, pz, ph, pq⟩ wh).rs ∧ Below w.heap.size w w' := by
  obtain ⟨i0, hi0, hz0, hzs, hzb⟩ := info_parts rcI
  have hF1 := fun (W : World) (h : Sv.Sl W (.slice ps ns cs) sv) => Sv.findS_good sv (.slice ps ns cs) q.service ⟨#[]⟩ W h hk.sv hq.1 (by decide) (findE_ok h0 hn0 (.inr rfl))
  have hF2 := fun (W : World) (h : Sv.Sl W (.slice ps ns cs) sv) => Sv.findS_good sv (.slice ps ns cs) q.service q.tag W h hk.sv hq.1 hq.2.1 (findE_ok h0 hn0 (.inl rfl))
  have HF1 : Hid _ := hF1
  have HF2 : Hid _ := hF2
  have hfl : (Sv.findL sv q.service q.tag).length ≤ 40 := by have h1 := Sv.findL_len sv q.service q.tag; have h2 := (Sv.chk_zero hk.sv).1; omega
  have HFO : Hid (∀ x ∈ Sv.findL sv q.service q.tag, x.ok) := Sv.findL_ok (by obtain ⟨_, _, _, h, _⟩ := hs; exact Sv.ns_mem h)
  have HNE : Hid (∀ W vf, Sl W (.slice pm nm cm) ms → Wh.Sl W (.slice pw nw cw) wh → Sv.Sl W vf (Sv.findL sv q.service q.tag) → Calls Tryz.prog 49 #[.agg (knA here (.slice ps ns cs) (.slice pm nm cm) px py pz ph pq (.slice pw nw cw)), vf] W fun e w' => ∃ v', e = .returned v' ∧ Sv.Sl w' v' (nearL ⟨px, py, pz, ph, pq⟩ wh ms (Sv.findL sv q.service q.tag)) ∧ Below W.heap.size W w') := fun W vf h1 h2 h3 => near_any here ps pm pw ns cs nm cm nw cw px py pz ph pq sv ms wh _ vf W hk h1 h2 h3 hfl
  have HA1 : Hid (Sv.findL sv q.service ⟨#[]⟩ = [] → ofSv q t here sv ms ⟨px, py, pz, ph, pq⟩ wh = ⟨[], 3, 0⟩) := fun h => by unfold ofSv; rw [if_pos h]
  have HA2 : Hid (Sv.findL sv q.service ⟨#[]⟩ ≠ [] → recsE here t (nearL ⟨px, py, pz, ph, pq⟩ wh ms (Sv.findL sv q.service q.tag)) = 0 → ofSv q t here sv ms ⟨px, py, pz, ph, pq⟩ wh = ⟨(nearL ⟨px, py, pz, ph, pq⟩ wh ms (Sv.findL sv q.service q.tag)).map (rec1 name here t), 0, 0⟩) := fun h h2 => by unfold ofSv; rw [if_neg h, if_pos h2, hname]
  have HA3 : Hid (Sv.findL sv q.service ⟨#[]⟩ ≠ [] → recsE here t (nearL ⟨px, py, pz, ph, pq⟩ wh ms (Sv.findL sv q.service q.tag)) ≠ 0 → ofSv q t here sv ms ⟨px, py, pz, ph, pq⟩ wh = ⟨[], 0, recsE here t (nearL ⟨px, py, pz, ph, pq⟩ wh ms (Sv.findL sv q.service q.tag))⟩) := fun h h2 => by unfold ofSv; rw [if_neg h, if_neg h2]
  have hnl := near_len ⟨px, py, pz, ph, pq⟩ wh ms (Sv.findL sv q.service q.tag)
  have HREC : Hid (∀ (s : Sv.Svc) (W : World), s.node.size ≤ maxLen → Calls Tryz.prog 50 #[.agg (knA here (.slice ps ns cs) (.slice pm nm cm) px py pz ph pq (.slice pw nw cw)), .agg #[.string name, .int .i64 t, .int .i64 0, .int .i64 0, .string ⟨#[]⟩, .int .i64 0, .string ⟨#[]⟩], .agg #[.string s.node, .string s.idn, .string s.name, .string s.tag, .int .i64 s.addr, .int .i64 s.port, .bool s.passing, .int .i64 s.version, .bool s.gone]] W fun e w' => ∃ r : Rc.Rec, e = .returned (.tuple #[.agg #[.string r.name, .int .i64 r.typ, .int .i64 r.lasts, .int .i64 r.addr, .string r.text, .int .i64 r.port, .string r.target], .int .i64 (recE here t s)]) ∧ (recE here t s = 0 → r = rec1 name here t s) ∧ Below W.heap.size W w') := fun s W h => krecord_any here ps pm pw ns cs nm cm nw cw px py pz ph pq name t s W (lab_max hk.lab) h
  have HS : Hid (Sv.Sl w (.slice ps ns cs) sv) := hs
  have HM : Hid (Sl w (.slice pm nm cm) ms) := hm
  have HW : Hid (Wh.Sl w (.slice pw nw cw) wh) := hw
  clear hF1 hF2 hs hm hw hk hn0 h0 hname
  generalize ofSv q t here sv ms ⟨px, py, pz, ph, pq⟩ wh = A at *
  generalize nearL ⟨px, py, pz, ph, pq⟩ wh ms (Sv.findL sv q.service q.tag) = NL at *
  generalize Sv.findL sv q.service q.tag = FL at *
  generalize Sv.findL sv q.service ⟨#[]⟩ = F0 at *
  obtain ⟨qs, qt, qn, qc⟩ := q
  simp only at *
  go_enter Tryz.func27, Tryz.ntmps27
  go_wp2_with fail
  obtain ⟨W, hW⟩ : ∃ W, W = ((w.alloc (.cells (knA here (.slice ps ns cs) (.slice pm nm cm) px py pz ph pq (.slice pw nw cw)) 48)).alloc (.cells #[.string qs, .string qt, .string qn, .string qc] 23)).alloc (.cells #[.string name, .int .i64 t, .int .i64 0, .int .i64 0, .string ⟨#[]⟩, .int .i64 0, .string ⟨#[]⟩] 42) := ⟨_, rfl⟩
  rw [← hW]
  have hbW : Below w.heap.size w W := by rw [hW]; exact (((Below.refl _ _).alloc (Nat.le_refl _) _).alloc (by simp) _).alloc (by simp <;> omega) _
  have HG0 : Hid (W.heap[w.heap.size]? = some (.cells (knA here (.slice ps ns cs) (.slice pm nm cm) px py pz ph pq (.slice pw nw cw)) 48 (0, 0))) := by
    rw [hW, Below.heap_alloc _ _ _ (by simp <;> omega), Below.heap_alloc _ _ _ (by simp)]; exact heap_alloc_new w _
  have hG1 : W.heap[w.heap.size + 1]? = some (.cells #[.string qs, .string qt, .string qn, .string qc] 23 (0, 0)) := by
    rw [hW, Below.heap_alloc _ _ _ (by simp)]
    have h := heap_alloc_new (w.alloc (.cells (knA here (.slice ps ns cs) (.slice pm nm cm) px py pz ph pq (.slice pw nw cw)) 48)) (.cells #[.string qs, .string qt, .string qn, .string qc] 23)
    simpa using h
  have hG2 : W.heap[w.heap.size + 2]? = some (.cells #[.string name, .int .i64 t, .int .i64 0, .int .i64 0, .string ⟨#[]⟩, .int .i64 0, .string ⟨#[]⟩] 42 (0, 0)) := by
    rw [hW]
    have h := heap_alloc_new ((w.alloc (.cells (knA here (.slice ps ns cs) (.slice pm nm cm) px py pz ph pq (.slice pw nw cw)) 48)).alloc (.cells #[.string qs, .string qt, .string qn, .string qc] 23)) (.cells #[.string name, .int .i64 t, .int .i64 0, .int .i64 0, .string ⟨#[]⟩, .int .i64 0, .string ⟨#[]⟩] 42)
    simpa using h
  have HG1 : Hid _ := hG1
  have HG2 : Hid _ := hG2
  clear hG1 hG2
  have hsW : w.heap.size + 3 ≤ W.heap.size := by rw [hW]; simp
  clear hW
  refine Calls.mono (HF1.out W (HS.out.below hbW)) ?_
  rintro e w1 ⟨v1, rfl, ho1, hb1⟩
  obtain ⟨p1, c1, rfl⟩ := svown_slice ho1
  have HB1 : Hid (Below w.heap.size w w1) := hbW.trans (hb1.mono (by omega))
  have HX1 : Hid (Below W.heap.size W w1) := hb1
  have hs1 := hb1.size
  clear ho1 hb1
  by_cases he : F0 = []
  · have HR : Hid (A = ⟨[], 3, 0⟩) := HA1.out he
    have h00 : F0.length = 0 := by rw [he]; rfl
    clear he HA1 HA2 HA3
    generalize F0.length = n0 at *
    subst h00
    go_wp2_with fail
    go_ret3
    exact ⟨.slice none 0 0, by rw [HR.out]; rfl, by rw [HR.out]; exact Rc.own_nil _ _, HB1.out⟩
  · have h00 : (((F0.length : Nat) : Int) == 0) = false := by
      have : F0.length ≠ 0 := fun h => he (List.eq_nil_of_length_eq_zero h)
      simpa using this
    have HA2' : Hid _ := HA2.out he
    have HA3' : Hid _ := HA3.out he
    clear HA1 HA2 HA3 he
    generalize F0.length = n0 at *
    have k0 : w1.heap[w.heap.size]? = some (.cells (knA here (.slice ps ns cs) (.slice pm nm cm) px py pz ph pq (.slice pw nw cw)) 48 (0, 0)) := (HX1.out.block _ (by omega)).trans HG0.out
    have k1 : w1.heap[w.heap.size + 1]? = some (.cells #[.string qs, .string qt, .string qn, .string qc] 23 (0, 0)) := (HX1.out.block _ (by omega)).trans HG1.out
    have d0 : w1.cell? ⟨w.heap.size, 0, none⟩ = some (.string here) := cellsAt k0 0
    have d1 : w1.cell? ⟨w.heap.size, 1, none⟩ = some (.slice ps ns cs) := cellsAt k0 1
    have d2 : w1.cell? ⟨w.heap.size, 2, none⟩ = some (.slice pm nm cm) := cellsAt k0 2
    have d3 : w1.cell? ⟨w.heap.size, 3, none⟩ = some (.int .i64 px) := cellsAt k0 3
    have d4 : w1.cell? ⟨w.heap.size, 4, none⟩ = some (.int .i64 py) := cellsAt k0 4
    have d5 : w1.cell? ⟨w.heap.size, 5, none⟩ = some (.int .i64 pz) := cellsAt k0 5
    have d6 : w1.cell? ⟨w.heap.size, 6, none⟩ = some (.int .i64 ph) := cellsAt k0 6
    have d7 : w1.cell? ⟨w.heap.size, 7, none⟩ = some (.int .i64 pq) := cellsAt k0 7
    have d8 : w1.cell? ⟨w.heap.size, 8, none⟩ = some (.slice pw nw cw) := cellsAt k0 8
    have q0 : w1.cell? ⟨w.heap.size + 1, 0, none⟩ = some (.string qs) := cellsAt k1 0
    have q1 : w1.cell? ⟨w.heap.size + 1, 1, none⟩ = some (.string qt) := cellsAt k1 1
    have q2 : w1.cell? ⟨w.heap.size + 1, 2, none⟩ = some (.string qn) := cellsAt k1 2
    have q3 : w1.cell? ⟨w.heap.size + 1, 3, none⟩ = some (.string qc) := cellsAt k1 3
    clear k0 k1
    go_wp2_with fail
    refine Calls.mono (HF2.out w1 (HS.out.below HB1.out)) ?_
    rintro e w2 ⟨v2, rfl, ho2, hb2⟩
    have hs2 := hb2.size
    have HX2 : Hid (Below W.heap.size W w2) := HX1.out.trans (hb2.mono hs1)
    have HB2 : Hid (Below w.heap.size w w2) := HB1.out.trans (hb2.mono (by omega))
    have HSF : Hid (Sv.Sl w2 v2 FL) := Sv.own_names ho2 HFO.out
    clear d0 d1 d2 d3 d4 d5 d6 d7 d8 q0 q1 q2 q3 ho2 hb2
    have k0 : w2.heap[w.heap.size]? = some (.cells (knA here (.slice ps ns cs) (.slice pm nm cm) px py pz ph pq (.slice pw nw cw)) 48 (0, 0)) := (HX2.out.block _ (by omega)).trans HG0.out
    have d0 : w2.cell? ⟨w.heap.size, 0, none⟩ = some (.string here) := cellsAt k0 0
    have d1 : w2.cell? ⟨w.heap.size, 1, none⟩ = some (.slice ps ns cs) := cellsAt k0 1
    have d2 : w2.cell? ⟨w.heap.size, 2, none⟩ = some (.slice pm nm cm) := cellsAt k0 2
    have d3 : w2.cell? ⟨w.heap.size, 3, none⟩ = some (.int .i64 px) := cellsAt k0 3
    have d4 : w2.cell? ⟨w.heap.size, 4, none⟩ = some (.int .i64 py) := cellsAt k0 4
    have d5 : w2.cell? ⟨w.heap.size, 5, none⟩ = some (.int .i64 pz) := cellsAt k0 5
    have d6 : w2.cell? ⟨w.heap.size, 6, none⟩ = some (.int .i64 ph) := cellsAt k0 6
    have d7 : w2.cell? ⟨w.heap.size, 7, none⟩ = some (.int .i64 pq) := cellsAt k0 7
    have d8 : w2.cell? ⟨w.heap.size, 8, none⟩ = some (.slice pw nw cw) := cellsAt k0 8
    clear k0
    go_wp2_with fail
    refine Calls.mono (HNE.out w2 v2 (HM.out.below HB2.out) (HW.out.below HB2.out) HSF.out) ?_
    rintro e X ⟨v3, rfl, hsl, hb3⟩
    have hs3 := hb3.size
    have HX3 : Hid (Below W.heap.size W X) := HX2.out.trans (hb3.mono (by omega))
    have HB3 : Hid (Below w.heap.size w X) := HB2.out.trans (hb3.mono (by omega))
    clear d0 d1 d2 d3 d4 d5 d6 d7 d8 hb3
    obtain ⟨pn, cn, rfl, hnz, hna⟩ := hsl
    have HNA : Hid (NL = [] ∨ ∃ b off, pn = some ⟨b, off, none⟩ ∧ b < X.heap.size ∧ Sv.Row X b off NL) := hna
    have HNZ : Hid (∀ j, (NL.getD j Sv.dm).ok) := hnz
    have K0 : Hid (X.heap[w.heap.size]? = some (.cells (knA here (.slice ps ns cs) (.slice pm nm cm) px py pz ph pq (.slice pw nw cw)) 48 (0, 0))) := (HX3.out.block _ (by omega)).trans HG0.out
    have K2 : Hid (X.heap[w.heap.size + 2]? = some (.cells #[.string name, .int .i64 t, .int .i64 0, .int .i64 0, .string ⟨#[]⟩, .int .i64 0, .string ⟨#[]⟩] 42 (0, 0))) := (HX3.out.block _ (by omega)).trans HG2.out
    have hKX : w.heap.size + 3 ≤ X.heap.size := by omega
    clear hna hnz
    generalize hnn : NL.length = n at *
    have HNN : Hid (NL.length = n) := hnn
    clear hnn
    go_wp2_with fail
    go_loopw [13, 43] (fun vl i wr => ∃ k : Nat, k ≤ n ∧ i = .int .i64 k ∧ Hid (Rc.Own X.heap.size wr vl ((NL.take k).map (rec1 name here t))) ∧ Hid (Below X.heap.size X wr) ∧ Hid (∀ j, j < k → recE here t (NL.getD j Sv.dm) = 0)) (fun _ i _ => n - (intOf i).toNat)
    case atStart => exact ⟨0, Nat.zero_le _, rfl, Rc.own_nil _ _, Below.refl _ _, fun j hj => absurd hj (Nat.not_lt_zero _)⟩
    case round =>
      obtain ⟨k, hk, rfl, HO, HB, HZ⟩ := hrel
      have hsr := HB.out.size
      by_cases hlt : k < n
      · obtain ⟨b, off, hp1, hl1, hr⟩ : ∃ b off, pn = some ⟨b, off, none⟩ ∧ b < X.heap.size ∧ Sv.Row X b off NL := by
          rcases HNA.out with h | h
          · have := HNN.out; rw [h] at this; simp at this; omega
          · exact h
        subst hp1
        have hkl : k < NL.length := by rw [HNN.out]; exact hlt
        obtain ⟨c0, c1, c2, c3, c4, c5, c6, c7, c8⟩ := hr.later HB.out hl1 k hkl
        clear hr
        have HMS : Hid ((NL.take (k + 1)).map (rec1 name here t) = (NL.take k).map (rec1 name here t) ++ [rec1 name here t (NL.getD k Sv.dm)]) := map_snoc hkl
        have hnd : (NL.getD k Sv.dm).node.size ≤ maxLen := (HNZ.out k).1
        have HER : Hid (recE here t (NL.getD k Sv.dm) ≠ 0 → recsE here t NL = recE here t (NL.getD k Sv.dm)) := fun h => recsE_at hkl HZ.out h
        have HZ2 : Hid (recE here t (NL.getD k Sv.dm) = 0 → ∀ j, j < k + 1 → recE here t (NL.getD j Sv.dm) = 0) := fun h j hj => by
          by_cases e : j = k
          · subst e; exact h
          · exact HZ.out j (by omega)
        have hRC := fun W => HREC.out (NL.getD k Sv.dm) W hnd
        have HRC : Hid _ := hRC
        clear hRC
        have hln : ((NL.take k).map (rec1 name here t)).length ≤ 20 := by rw [List.length_map]; have := List.length_take_le k NL; omega
        generalize NL.getD k Sv.dm = x at *
        generalize recE here t x = ek at *
        generalize rec1 name here t x = rk at *
        generalize (NL.take k).map (rec1 name here t) = DL at *
        obtain ⟨nd, idn, snm, tag, ad, po, pa1, ver, gon⟩ := x
        simp only at c0 c1 c2 c3 c4 c5 c6 c7 c8 hnd
        have hd : ∀ ob, (wr.alloc ob).heap[w.heap.size]? = some (.cells (knA here (.slice ps ns cs) (.slice pm nm cm) px py pz ph pq (.slice pw nw cw)) 48 (0, 0)) := fun ob => by rw [Below.heap_alloc _ _ _ (by omega), HB.out.block _ (by omega)]; exact K0.out
        have hd2 : ∀ ob, (wr.alloc ob).heap[w.heap.size + 2]? = some (.cells #[.string name, .int .i64 t, .int .i64 0, .int .i64 0, .string ⟨#[]⟩, .int .i64 0, .string ⟨#[]⟩] 42 (0, 0)) := fun ob => by rw [Below.heap_alloc _ _ _ (by omega), HB.out.block _ (by omega)]; exact K2.out
        have d0 : ∀ ob, (wr.alloc ob).cell? ⟨w.heap.size, 0, none⟩ = some (.string here) := fun ob => cellsAt (hd ob) 0
        have d1 : ∀ ob, (wr.alloc ob).cell? ⟨w.heap.size, 1, none⟩ = some (.slice ps ns cs) := fun ob => cellsAt (hd ob) 1
        have d2 : ∀ ob, (wr.alloc ob).cell? ⟨w.heap.size, 2, none⟩ = some (.slice pm nm cm) := fun ob => cellsAt (hd ob) 2
        have d3 : ∀ ob, (wr.alloc ob).cell? ⟨w.heap.size, 3, none⟩ = some (.int .i64 px) := fun ob => cellsAt (hd ob) 3
        have d4 : ∀ ob, (wr.alloc ob).cell? ⟨w.heap.size, 4, none⟩ = some (.int .i64 py) := fun ob => cellsAt (hd ob) 4
        have d5 : ∀ ob, (wr.alloc ob).cell? ⟨w.heap.size, 5, none⟩ = some (.int .i64 pz) := fun ob => cellsAt (hd ob) 5
        have d6 : ∀ ob, (wr.alloc ob).cell? ⟨w.heap.size, 6, none⟩ = some (.int .i64 ph) := fun ob => cellsAt (hd ob) 6
        have d7 : ∀ ob, (wr.alloc ob).cell? ⟨w.heap.size, 7, none⟩ = some (.int .i64 pq) := fun ob => cellsAt (hd ob) 7
        have d8 : ∀ ob, (wr.alloc ob).cell? ⟨w.heap.size, 8, none⟩ = some (.slice pw nw cw) := fun ob => cellsAt (hd ob) 8
        have l0 : ∀ ob, (wr.alloc ob).cell? ⟨w.heap.size + 1 + 1, 0, none⟩ = some (.string name) := fun ob => cellsAt (hd2 ob) 0
        have l1 : ∀ ob, (wr.alloc ob).cell? ⟨w.heap.size + 1 + 1, 1, none⟩ = some (.int .i64 t) := fun ob => cellsAt (hd2 ob) 1
        have l2 : ∀ ob, (wr.alloc ob).cell? ⟨w.heap.size + 1 + 1, 2, none⟩ = some (.int .i64 0) := fun ob => cellsAt (hd2 ob) 2
        have l3 : ∀ ob, (wr.alloc ob).cell? ⟨w.heap.size + 1 + 1, 3, none⟩ = some (.int .i64 0) := fun ob => cellsAt (hd2 ob) 3
        have l4 : ∀ ob, (wr.alloc ob).cell? ⟨w.heap.size + 1 + 1, 4, none⟩ = some (.string ⟨#[]⟩) := fun ob => cellsAt (hd2 ob) 4
        have l5 : ∀ ob, (wr.alloc ob).cell? ⟨w.heap.size + 1 + 1, 5, none⟩ = some (.int .i64 0) := fun ob => cellsAt (hd2 ob) 5
        have l6 : ∀ ob, (wr.alloc ob).cell? ⟨w.heap.size + 1 + 1, 6, none⟩ = some (.string ⟨#[]⟩) := fun ob => cellsAt (hd2 ob) 6
        clear hd hd2
        go_wp2_with fail
        refine Calls.mono (HRC.out _) ?_
        rintro e w5 ⟨r, rfl, hrr, hb5⟩
        have hs5 : wr.heap.size + 1 ≤ w5.heap.size := by have := hb5.size; simpa using this
        have HB5 : Hid (Below X.heap.size X w5) := (HB.out.alloc hsr _).trans (hb5.mono (by simp <;> omega))
        have HO5 : Hid (Rc.Own X.heap.size w5 u13 DL) := (HO.out.below ((Below.refl _ _).alloc (Nat.le_refl _) _)).below hb5
        clear hb5 d0 d1 d2 d3 d4 d5 d6 d7 d8 l0 l1 l2 l3 l4 l5 l6
        by_cases hz : ek = 0
        · have HZ3 : Hid (∀ j, j < k + 1 → recE here t (NL.getD j Sv.dm) = 0) := HZ2.out hz
          have HRR : Hid (r = rk) := hrr hz
          clear hrr HZ2 HER
          subst hz
          obtain ⟨rn, rt1, rl, ra, rx, rp, rg⟩ := r
          go_wp2_with (at_builtin; refine wpList_append_own _ rfl _ _ 31 rfl X.heap.size 42 i0 _ 7 80 Tryz.underlying31 hi0 hz0 hzs hzb rfl (by omega) _ DL.length (Rc.fl DL) rfl ?hown ⟨w5.heap.size + 1, 0, none⟩ 1 1 [.string rn, .int .i64 rt1, .int .i64 rl, .int .i64 ra, .string rx, .int .i64 rp, .string rg] rfl rfl ?hnews (Rc.cs_one ⟨rn, rt1, rl, ra, rx, rp, rg⟩) ?h63 ?hbytes ?hbase ?_)
          case hown => exact HO5.out.below (((Below.refl _ _).alloc (Nat.le_refl _) _).alloc (by simp) _)
          case hnews => (intro j u hj; rw [Addr.add_lit]; exact (cell_topL (by simp)).trans (by simpa using hj))
          case h63 => (unfold maxLen; omega)
          case hbytes => omega
          case hbase => (simp; omega)
          intro v' w6 r1 r2 r3
          have HB6 : Hid (Below X.heap.size X w6) := ((HB5.out.alloc (by omega) _).alloc (by simp <;> omega) _).grown r2 (by simp <;> omega) (fun j hj => (HO5.out.lt j hj).1)
          have HO6 : Hid (Rc.Own X.heap.size w6 v' (DL ++ [⟨rn, rt1, rl, ra, rx, rp, rg⟩])) := Rc.own_snoc r1
          clear r1 r2 r3
          go_wp2_with fail
          go_roundw
          case rel => exact ⟨k + 1, by omega, by go_num, by rw [HMS.out, ← HRR.out]; exact HO6.out, HB6, HZ3⟩
          case measure => simp [intOf]; omega
        · have HE : Hid (recsE here t NL = ek) := HER.out hz
          have HR : Hid (A = ⟨[], 0, ek⟩) := by have h := HA3'.out (by rw [HE.out]; exact hz); rw [HE.out] at h; exact h
          have hz' : (ek != 0) = true := by simpa using hz
          have HBE : Hid (Below w.heap.size w w5) := HB3.out.trans (HB5.out.mono (by omega))
          obtain ⟨rn, rt1, rl, ra, rx, rp, rg⟩ := r
          go_wp2_with fail
          go_ret3
          exact ⟨.slice none 0 0, by rw [HR.out]; rfl, by rw [HR.out]; exact Rc.own_nil _ _, HBE.out.alloc (by omega) _⟩
      · have HE : Hid (recsE here t NL = 0) := recsE_all fun j hj => HZ.out j (by have := HNN.out; omega)
        have HR : Hid (A = ⟨NL.map (rec1 name here t), 0, 0⟩) := HA2'.out HE.out
        have HOE : Hid (Rc.Own w.heap.size wr u13 (NL.map (rec1 name here t))) := by
          have h := HO.out
          rw [List.take_of_length_le (by rw [HNN.out]; omega)] at h
          exact h.mono (by omega)
        have HBE : Hid (Below w.heap.size w wr) := HB3.out.trans (HB.out.mono (by omega))
        go_wp2_with fail
        go_ret3
        exact ⟨u13, by rw [HR.out]; rfl, by rw [HR.out]; exact HOE.out, HBE.out⟩

end Go.Proofs.YtignmeaeibaejaaGreat

/- The document's own Check of members; a list of one. -/
namespace Go.Proofs.YtignmeaeibaejaaGreat
open Go.RowKit

set_option maxHeartbeats 800000 in
theorem checkMembers_row (ms : List Mem) (b off cap : Nat) (w : World) (hr : Row w b off ms) (hb : b < w.heap.size) (hn : ms.length ≤ 20) (hs : ∀ j, (ms.getD j dm).name.size ≤ maxLen) :
    Calls Tryz.prog 30 #[.slice (some ⟨b, off, none⟩) ms.length cap] w fun e w' => e = .returned (.int .i64 (chk ms)) ∧ Below w.heap.size w w' := by
  have HR : Hid (Row w b off ms) := hr
  clear hr
  have HE : Hid (∀ k, k < ms.length → (∀ j, j < k → (ms.getD j dm).e = 0) → (ms.getD k dm).e ≠ 0 → chk ms = (ms.getD k dm).e) := fun k h1 h2 h3 => chk_e ms k hn h1 h2 h3
  have H4 : Hid ((∀ j, j < ms.length → (ms.getD j dm).e = 0) → ∀ k, k + 1 < ms.length → less (ms.getD k dm).name (ms.getD (k + 1) dm).name = false → chk ms = 4) := fun h1 k h2 h3 => chk_4 ms k hn h1 h2 h3
  have H0 : Hid ((∀ j, j < ms.length → (ms.getD j dm).e = 0) → (∀ j, j + 1 < ms.length → less (ms.getD j dm).name (ms.getD (j + 1) dm).name = true) → chk ms = 0) := fun h1 h2 => chk_0 ms hn h1 h2
  generalize hN : ms.length = n at *
  have HN : Hid (ms.length = n) := hN
  clear hN
  have HS : Hid (∀ j, (ms.getD j dm).name.size ≤ maxLen) := hs
  clear hs
  generalize hC : chk ms = res at *
  go_enter Tryz.func30, Tryz.ntmps30
  go_wp2_with fail
  go_loopw [3] (fun i w' => ∃ k : Nat, k ≤ n ∧ i = .int .i64 k ∧ Below w.heap.size w w' ∧ Hid (∀ j, j < k → (ms.getD j dm).e = 0)) (fun i _ => n - (intOf i).toNat)
  case atStart => exact ⟨0, Nat.zero_le _, rfl, Below.refl _ _, fun j h => absurd h (Nat.not_lt_zero _)⟩
  case round =>
    obtain ⟨k, hk, rfl, hbl, hz⟩ := hrel
    obtain ⟨hbc, hbf⟩ := bcell hbl
    have hsz := hbl.size
    by_cases hlt : k < n
    · obtain ⟨c0, c1, c2, c3, c4⟩ := HR.out k (by rw [HN.out]; exact hlt)
      have hsk := HS.out k
      have HK : Hid ((ms.getD k dm).e ≠ 0 → res = (ms.getD k dm).e) := fun h => HE.out k hlt hz.out h
      have HZ : Hid ((ms.getD k dm).e = 0 → ∀ j, j < k + 1 → (ms.getD j dm).e = 0) := fun h j hj => by
        rcases Nat.lt_succ_iff_lt_or_eq.1 hj with h2 | rfl
        · exact hz.out j h2
        · exact h
      generalize ms.getD k dm = m at *
      obtain ⟨nm, st, lf, ad, sv⟩ := m
      simp only at c0 c1 c2 c3 c4 hsk
      rcases he : decide (oneE nm st lf ad = 0) with _ | _
      · have he' : (oneE nm st lf ad != 0) = true := by simpa using he
        clear he
        go_wp2_with (go_at_call 53; refine (oneMember_any _ _ _ _ _ _ hsk).mono ?_; rintro e w' ⟨rfl, rfl⟩)
        go_ret
        have hne : oneE nm st lf ad ≠ 0 := by simpa using he'
        have hres : res = oneE nm st lf ad := HK.out hne
        exact ⟨ret_int hres.symm, hbl.alloc hsz _⟩
      · have he' : (oneE nm st lf ad != 0) = false := by simpa using he
        clear he
        go_wp2_with (go_at_call 53; refine (oneMember_any _ _ _ _ _ _ hsk).mono ?_; rintro e w' ⟨rfl, rfl⟩)
        go_roundw
        case rel =>
          have he0 : oneE nm st lf ad = 0 := by simpa using he'
          exact ⟨k + 1, by omega, by go_num, hbl.alloc hsz _, HZ.out he0⟩
        case measure => simp [intOf]; omega
    · have hall : Hid (∀ j, j < n → (ms.getD j dm).e = 0) := fun j hj => hz.out j (by omega)
      clear hz
      go_wp2_with fail
      go_loopw [5] (fun i w' => ∃ k : Nat, (k + 1 ≤ n ∨ k = 0) ∧ i = .int .i64 (k + 1) ∧ Below w.heap.size w w' ∧ Hid (∀ j, j < k → less (ms.getD j dm).name (ms.getD (j + 1) dm).name = true)) (fun i _ => n - (intOf i).toNat)
      case atStart => exact ⟨0, .inr rfl, rfl, hbl, fun j h => absurd h (Nat.not_lt_zero _)⟩
      case round =>
        clear hbc hbf hsz hbl
        obtain ⟨q, hq, rfl, hbl, hz⟩ := hrel
        obtain ⟨hbc, hbf⟩ := bcell hbl
        have hsz := hbl.size
        by_cases hlt : q + 1 < n
        · obtain ⟨c0, _, _, _, _⟩ := HR.out q (by rw [HN.out]; omega)
          obtain ⟨d0, _, _, _, _⟩ := HR.out (q + 1) (by rw [HN.out]; exact hlt)
          have HK : Hid (less (ms.getD q dm).name (ms.getD (q + 1) dm).name = false → res = 4) := fun h => H4.out hall.out q hlt h
          have HZ : Hid (less (ms.getD q dm).name (ms.getD (q + 1) dm).name = true → ∀ j, j < q + 1 → less (ms.getD j dm).name (ms.getD (j + 1) dm).name = true) := fun h j hj => by
            rcases Nat.lt_succ_iff_lt_or_eq.1 hj with h2 | rfl
            · exact hz.out j h2
            · exact h
          generalize ms.getD q dm = m1 at *
          generalize ms.getD (q + 1) dm = m2 at *
          rcases hl : Op.bytesLess m1.name.toList m2.name.toList with _ | _
          · have h4 : res = 4 := HK.out hl
            clear hC
            have hl2 := bl_total m1.name.toList m2.name.toList
            rw [hl] at hl2
            have hl3 := hl2.symm
            clear hl2 hl
            go_wp2_with fail
            go_quiet (fail)
            go_wp2_with fail
            go_ret
            exact ⟨ret_int h4.symm, below_drewN hbl _⟩
          · have hl2 := bl_total m1.name.toList m2.name.toList
            rw [hl] at hl2
            have hl3 := hl2.symm
            clear hl2
            have HL : Hid (Op.bytesLess m1.name.toList m2.name.toList = true) := hl
            clear hl
            go_wp2_with fail
            go_quiet (fail)
            go_wp2_with fail
            go_roundw
            case rel => exact ⟨q + 1, .inl (by omega), by go_num, below_drewN hbl _, HZ.out HL.out⟩
            case measure => simp [intOf]; omega
        · have h0 : res = 0 := H0.out hall.out fun j hj => hz.out j (by omega)
          clear hC
          go_wp2_with fail
          go_ret
          exact ⟨ret_int h0.symm, hbl⟩


set_option maxHeartbeats 400000 in
theorem checkMembers_many (a : Option Addr) (n cap : Nat) (w : World) (hn : 20 < n) :
    Calls Tryz.prog 30 #[.slice a n cap] w fun e w' => e = .returned (.int .i64 2) ∧ w' = w := by
  go_enter Tryz.func30, Tryz.ntmps30
  go_wp2_with fail
  go_ret
  exact ⟨rfl, rfl⟩
set_option maxHeartbeats 400000 in
theorem checkMembers_none (a : Option Addr) (cap : Nat) (w : World) :
    Calls Tryz.prog 30 #[.slice a 0 cap] w fun e w' => e = .returned (.int .i64 0) ∧ w' = w := by
  go_enter Tryz.func30, Tryz.ntmps30
  go_wp2_with fail
  go_loop [3] (fun i => i = .int .i64 0) (fun _ => 0)
  case atStart => rfl
  case round =>
    subst hrel
    go_wp2_with fail
    go_loop [5] (fun i => i = .int .i64 1) (fun _ => 0)
    case atStart => rfl
    case round =>
      subst hrel
      go_wp2_with fail
      go_ret
      exact ⟨rfl, rfl⟩

theorem checkMembers_any (ms : List Mem) (v : Value) (w : World) (h : Sl w v ms) :
    Calls Tryz.prog 30 #[v] w fun e w' => e = .returned (.int .i64 (chk ms)) ∧ Below w.heap.size w w' := by
  obtain ⟨a, cap, rfl, hs, h⟩ := h
  by_cases hn : 20 < ms.length
  · refine (checkMembers_many a ms.length cap w hn).mono ?_
    rintro e w' ⟨rfl, rfl⟩
    exact ⟨ret_int (by rw [chk, if_pos hn]), Below.refl _ _⟩
  · rcases h with rfl | ⟨b, off, rfl, hb, hr⟩
    · refine (checkMembers_none a cap w).mono ?_
      rintro e w' ⟨rfl, rfl⟩
      exact ⟨rfl, Below.refl _ _⟩
    · exact checkMembers_row ms b off cap w hr hb (by omega) hs

end Go.Proofs.YtignmeaeibaejaaGreat

