/- ANA, ANB -/
import Derived.Test.YtignmeaeibaejaaGreatV21
import Derived.Test.YtignmeaeibaejaaGreatV22
/- The document's Records: the round of its inner loop: one more record, or not. -/
namespace Go.Proofs.YtignmeaeibaejaaGreat
open Go.RowKit

/-- What a way out leaves in the slots of the results. -/
def Ret3 (v : Value) (c e : Int) (a : Act) : Prop := a.defers = [] ∧ a.tmps.getD 14 undef = v ∧ a.tmps.getD 15 undef = .int .i64 c ∧ a.tmps.getD 16 undef = .int .i64 e
set_option maxHeartbeats 6400000 in
set_option maxRecDepth 1000000 in
theorem rr5 {u0 u3 u4 u5 u6 u7 u8 u9 u10 u11 u12 u13 u14 u15 u16 u19 u22 u23 u27 u28 u29 u30 u31 u32 u33 u34 u35 u36 u37 u38 u39 u40 u41 u42 u43 u44 u45 u46 u47 u48 u49 u50 u51 u52 u53 u54 u55 u56 u57 u58 u59 u60 u61 u62 u63 u64 u65 u66 u67 u68 u69 u70 u71 u72 u73 u74 u75 u76 u77 u78 u79 u80 u81 u82 u83 u84 u85 u86 u87 u88 u89 u90 u91 u92 u93 u94 u95 u96 u97 u98 u99 u100 u101 u102 u103 u104 u105 u106 u107 u108 u109 u110 u111 u112 u113 u114 u115 u116 u117 u118 u119 u120 u121 u122 u123 u124 u125 u126 u127 u128 u129 u130 u131 u132 u133 u134 u135 u136 u137 u138 u139 u140 u141 u142 u143 u144 u145 u146 u147 u148 u149 u150 u151 u152 u153 u154 u155 u156 u157 u158 u159 u160 u161 u162 u163 u164 u165 u166 u167 u168 u169 u170 u171 u172 u173 u174 u175 u176 u177 u178 u179 u180 u181 u182 u183 u184 u185 u186 u187 u188 u189 u190 u191 u192 u193 u194 u195 u196 u197 u198 u199 u200 u201 u202 u203 u204 u205 u206 u207 u208 u209 u210 u211 u212 u213 u214 u215 u216 u217 u218 u219 u220 u221 u222 u223 u224 u225 u226 u227 u228 u229 u230 : Value} (B : Nat) (name here : ByteArray) (t : Int) (found : List Sv.Svc) (SL : List ByteArray) (DL : List Rc.Rec) (pf pn : Option Addr) (n cf m cn i k : Nat) (vo : Value) (w : World) (hh : here.size ≤ maxLen) (hk : k < n) (hi : i < m) (hDL : DL.length ≤ 20) (hBw : B ≤ w.heap.size)
    (HF : Hid (Sv.Sl w (.slice pf n cf) found)) (HS : Hid (TSl w (.slice pn m cn) SL)) (HO : Hid (Rc.Own B w vo DL)) (Q : Exit → Act → World → Prop)
    (hN : (found.getD k Sv.dm).node ≠ SL.getD i ByteArray.empty → ∀ (y27 y167 y168 y169 y170 y171 y172 y173 y174 y175 y176 y177 y178 y179 y180 y181 y182 y183 y184 y185 y186 y187 y188 y189 y190 y191 y192 y193 y194 y195 y196 y197 y198 y199 y200 y201 y202 y203 y204 y205 y206 y207 y208 y209 y210 y211 y212 y213 y214 y215 y216 y217 y218 y219 y220 y221 y222 y223 : Value) (wx : World), Rc.Own B wx vo DL → Below B w wx → Q .normal ⟨#[u0, .int .i64 t, .string here, u3, u4, u5, u6, u7, u8, u9, u10, u11, u12, u13, u14, u15, u16, .int .i64 0, .string name, u19, .slice pf n cf, .slice pn m cn, u22, u23, vo, .int .i64 i, .int .i64 k, y27, u28, u29, u30, u31, u32, u33, u34, u35, u36, u37, u38, u39, u40, u41, u42, u43, u44, u45, u46, u47, u48, u49, u50, u51, u52, u53, u54, u55, u56, u57, u58, u59, u60, u61, u62, u63, u64, u65, u66, u67, u68, u69, u70, u71, u72, u73, u74, u75, u76, u77, u78, u79, u80, u81, u82, u83, u84, u85, u86, u87, u88, u89, u90, u91, u92, u93, u94, u95, u96, u97, u98, u99, u100, u101, u102, u103, u104, u105, u106, u107, u108, u109, u110, u111, u112, u113, u114, u115, u116, u117, u118, u119, u120, u121, u122, u123, u124, u125, u126, u127, u128, u129, u130, u131, u132, u133, u134, u135, u136, u137, u138, u139, u140, u141, u142, u143, u144, u145, u146, u147, u148, u149, u150, u151, u152, u153, u154, u155, u156, u157, u158, u159, u160, u161, u162, u163, u164, u165, u166, y167, y168, y169, y170, y171, y172, y173, y174, y175, y176, y177, y178, y179, y180, y181, y182, y183, y184, y185, y186, y187, y188, y189, y190, y191, y192, y193, y194, y195, y196, y197, y198, y199, y200, y201, y202, y203, y204, y205, y206, y207, y208, y209, y210, y211, y212, y213, y214, y215, y216, y217, y218, y219, y220, y221, y222, y223, u224, u225, u226, u227, u228, u229, u230], []⟩ wx)
    (hY : (found.getD k Sv.dm).node = SL.getD i ByteArray.empty → recE here t (found.getD k Sv.dm) = 0 → ∀ (y27 y167 y168 y169 y170 y171 y172 y173 y174 y175 y176 y177 y178 y179 y180 y181 y182 y183 y184 y185 y186 y187 y188 y189 y190 y191 y192 y193 y194 y195 y196 y197 y198 y199 y200 y201 y202 y203 y204 y205 y206 y207 y208 y209 y210 y211 y212 y213 y214 y215 y216 y217 y218 y219 y220 y221 y222 y223 vo' : Value) (wx : World), Rc.Own B wx vo' (DL ++ [rec1 name here t (found.getD k Sv.dm)]) → Below B w wx → Q .normal ⟨#[u0, .int .i64 t, .string here, u3, u4, u5, u6, u7, u8, u9, u10, u11, u12, u13, u14, u15, u16, .int .i64 0, .string name, u19, .slice pf n cf, .slice pn m cn, u22, u23, vo', .int .i64 i, .int .i64 k, y27, u28, u29, u30, u31, u32, u33, u34, u35, u36, u37, u38, u39, u40, u41, u42, u43, u44, u45, u46, u47, u48, u49, u50, u51, u52, u53, u54, u55, u56, u57, u58, u59, u60, u61, u62, u63, u64, u65, u66, u67, u68, u69, u70, u71, u72, u73, u74, u75, u76, u77, u78, u79, u80, u81, u82, u83, u84, u85, u86, u87, u88, u89, u90, u91, u92, u93, u94, u95, u96, u97, u98, u99, u100, u101, u102, u103, u104, u105, u106, u107, u108, u109, u110, u111, u112, u113, u114, u115, u116, u117, u118, u119, u120, u121, u122, u123, u124, u125, u126, u127, u128, u129, u130, u131, u132, u133, u134, u135, u136, u137, u138, u139, u140, u141, u142, u143, u144, u145, u146, u147, u148, u149, u150, u151, u152, u153, u154, u155, u156, u157, u158, u159, u160, u161, u162, u163, u164, u165, u166, y167, y168, y169, y170, y171, y172, y173, y174, y175, y176, y177, y178, y179, y180, y181, y182, y183, y184, y185, y186, y187, y188, y189, y190, y191, y192, y193, y194, y195, y196, y197, y198, y199, y200, y201, y202, y203, y204, y205, y206, y207, y208, y209, y210, y211, y212, y213, y214, y215, y216, y217, y218, y219, y220, y221, y222, y223, u224, u225, u226, u227, u228, u229, u230], []⟩ wx)
    (hE : (found.getD k Sv.dm).node = SL.getD i ByteArray.empty → recE here t (found.getD k Sv.dm) ≠ 0 → ∀ a W, Ret3 (.slice none 0 0) 0 (recE here t (found.getD k Sv.dm)) a → Below B w W → Q .ret a W) :
    Code.wp Tryz.prog ((Tryz.f6.body.bind (blkIn 5)).getD .skip) Q ⟨#[u0, .int .i64 t, .string here, u3, u4, u5, u6, u7, u8, u9, u10, u11, u12, u13, u14, u15, u16, .int .i64 0, .string name, u19, .slice pf n cf, .slice pn m cn, u22, u23, vo, .int .i64 i, .int .i64 k, u27, u28, u29, u30, u31, u32, u33, u34, u35, u36, u37, u38, u39, u40, u41, u42, u43, u44, u45, u46, u47, u48, u49, u50, u51, u52, u53, u54, u55, u56, u57, u58, u59, u60, u61, u62, u63, u64, u65, u66, u67, u68, u69, u70, u71, u72, u73, u74, u75, u76, u77, u78, u79, u80, u81, u82, u83, u84, u85, u86, u87, u88, u89, u90, u91, u92, u93, u94, u95, u96, u97, u98, u99, u100, u101, u102, u103, u104, u105, u106, u107, u108, u109, u110, u111, u112, u113, u114, u115, u116, u117, u118, u119, u120, u121, u122, u123, u124, u125, u126, u127, u128, u129, u130, u131, u132, u133, u134, u135, u136, u137, u138, u139, u140, u141, u142, u143, u144, u145, u146, u147, u148, u149, u150, u151, u152, u153, u154, u155, u156, u157, u158, u159, u160, u161, u162, u163, u164, u165, u166, u167, u168, u169, u170, u171, u172, u173, u174, u175, u176, u177, u178, u179, u180, u181, u182, u183, u184, u185, u186, u187, u188, u189, u190, u191, u192, u193, u194, u195, u196, u197, u198, u199, u200, u201, u202, u203, u204, u205, u206, u207, u208, u209, u210, u211, u212, u213, u214, u215, u216, u217, u218, u219, u220, u221, u222, u223, u224, u225, u226, u227, u228, u229, u230], []⟩ w := by
  conv => arg 2; whnf
  obtain ⟨i0, hi0, hz0, hzs, hzb⟩ := info_parts rcI
  obtain ⟨_, _, hfe, hfz, hfa⟩ := HF.out
  simp only [Value.slice.injEq] at hfe
  obtain ⟨rfl, hfl, rfl⟩ := hfe
  obtain ⟨b, off, hp1, hl1, hr⟩ : ∃ b off, pf = some ⟨b, off, none⟩ ∧ b < w.heap.size ∧ Sv.Row w b off found := by
    rcases hfa with h | h
    · rw [h] at hfl; simp at hfl; omega
    · exact h
  subst hp1
  obtain ⟨c0, c1, -, -, c4, c5, -, -, -⟩ := hr k (by omega)
  have hnd : (found.getD k Sv.dm).node.size ≤ maxLen := (hfz k).1
  obtain ⟨_, _, hse, _, hsa⟩ := HS.out
  simp only [Value.slice.injEq] at hse
  obtain ⟨rfl, hsl, rfl⟩ := hse
  obtain ⟨bn, on, hp2, hl2, hr2⟩ : ∃ b off, pn = some ⟨b, off, none⟩ ∧ b < w.heap.size ∧ TRow w b off SL := by
    rcases hsa with h | h
    · rw [h] at hsl; simp at hsl; omega
    · exact h
  subst hp2
  have s0 := hr2 i (by omega)
  have HRC : Hid (∀ x : Sv.Svc, x = found.getD k Sv.dm → rec1 name here t x = ⟨name, t, 0, if t = 1 then x.addr else 0, if t = 16 then x.idn else ⟨#[]⟩, if t = 33 then x.port else 0, if t = 33 then prS (qN x.node here) else ⟨#[]⟩⟩) := fun x _ => rfl
  have HQN : Hid _ := hN
  have HQY0 : Hid _ := hY
  have HQE : Hid _ := hE
  clear hN hY hE hfa hr hfz hfl hsa hr2 hsl HF HS HRC
  generalize SL.getD i ByteArray.empty = sn at *
  generalize found.getD k Sv.dm = x at *
  obtain ⟨nd, idn, snm, tag, ad, po, pa1, ver, gon⟩ := x
  simp only at *
  have hk0 : (0 : Int) ≤ (k : Int) := Int.natCast_nonneg _
  have hk1 : (k : Int) < (n : Int) := by omega
  have hi0' : (0 : Int) ≤ (i : Int) := Int.natCast_nonneg _
  have hi1' : (i : Int) < (m : Int) := by omega
  by_cases hne : nd = sn
  · have h3 : (nd.toList == sn.toList) = true := by rw [hne]; simp
    have HQY1 : Hid _ := HQY0.out hne
    have HQE1 : Hid _ := HQE.out hne
    clear HQN HQY0 HQE hne
    have hpr : ∀ W, Calls Tryz.prog 16 #[.agg #[.string ⟨#[]⟩, .string ⟨#[]⟩, .string nd, .string here]] W fun e w' => e = .returned (.tuple #[.string (prS (qN nd here)), .int .i64 (prE (qN nd here))]) ∧ Below W.heap.size W w' := fun W => printOf_any (qN nd here) W ⟨by show (ByteArray.mk #[]).size ≤ maxLen; decide, by show (ByteArray.mk #[]).size ≤ maxLen; decide, hnd, hh⟩
    have HP : Hid _ := hpr
    clear hpr
    by_cases t1 : t = 1
    · have HRK : Hid (recE here t ⟨nd, idn, snm, tag, ad, po, pa1, ver, gon⟩ = 0) := by subst t1; rfl
      have HR1 : Hid (rec1 name here t ⟨nd, idn, snm, tag, ad, po, pa1, ver, gon⟩ = ⟨name, t, 0, ad, ⟨#[]⟩, 0, ⟨#[]⟩⟩) := by subst t1; rfl
      have hQY := HQY1.out
      rw [HR1.out] at hQY
      have HQY : Hid _ := hQY
      have g1 : (t == 1) = true := by simpa using t1
      clear hQY HQY1 HQE1 t1 HP
      go_wp2_with fail
      go_quiet (fail)
      obtain ⟨W, hW⟩ : ∃ W, W = w.drewN nq := ⟨_, rfl⟩
      rw [← hW]
      have HBW : Hid (Below B w W) := by rw [hW]; exact belowN (Below.refl _ _) _
      have HOW : Hid (Rc.Own B W vo DL) := by rw [hW]; exact HO
      have e0 : W.cell? ⟨b, off + k * 9, none⟩ = some (.string nd) := by rw [hW]; exact c0
      have e1 : W.cell? ⟨b, off + k * 9 + 1, none⟩ = some (.string idn) := by rw [hW]; exact c1
      have e4 : W.cell? ⟨b, off + k * 9 + 4, none⟩ = some (.int .i64 ad) := by rw [hW]; exact c4
      have e5 : W.cell? ⟨b, off + k * 9 + 5, none⟩ = some (.int .i64 po) := by rw [hW]; exact c5
      have hlW : b < W.heap.size := by rw [hW]; exact hl1
      have hBW : B ≤ W.heap.size := by rw [hW]; exact hBw
      clear hW c0 c1 c4 c5 s0 hl1 hl2
      go_wp2_with (at_builtin; refine wpList_append_own _ rfl _ _ 31 rfl B 42 i0 _ 7 80 Tryz.underlying31 hi0 hz0 hzs hzb rfl (by omega) _ DL.length (Rc.fl DL) rfl ?hown _ 1 1 [.string name, .int .i64 t, .int .i64 0, .int .i64 ad, .string ⟨#[]⟩, .int .i64 0, .string ⟨#[]⟩] rfl rfl ?hnews (Rc.cs_one ⟨name, t, 0, ad, ⟨#[]⟩, 0, ⟨#[]⟩⟩) ?h63 ?hbytes ?hbase ?_)
      case hown => exact (HOW.out.below ((Below.refl _ _).alloc (Nat.le_refl _) _)).below ((Below.refl _ _).alloc (Nat.le_refl _) _)
      case hnews => (intro j u hj; rw [Addr.add_lit]; exact (cell_topL (by simp)).trans (by simpa using hj))
      case h63 => (unfold maxLen; omega)
      case hbytes => omega
      case hbase => (simp; omega)
      intro v' w6 r1 r2 r3
      have HB6 : Hid (Below B w w6) := ((HBW.out.alloc hBW _).alloc (by simp <;> omega) _).grown r2 (by simp <;> omega) (fun j hj => (HOW.out.lt j hj).1)
      have HO6 : Hid (Rc.Own B w6 v' (DL ++ [⟨name, t, 0, ad, ⟨#[]⟩, 0, ⟨#[]⟩⟩])) := Rc.own_snoc r1
      clear r1 r2 r3
      go_wp2_with fail
      exact HQY.out HRK.out _ _ _ _ _ _ _ _ _ _ _ _ _ _ _ _ _ _ _ _ _ _ _ _ _ _ _ _ _ _ _ _ _ _ _ _ _ _ _ _ _ _ _ _ _ _ _ _ _ _ _ _ _ _ _ _ _ _ v' w6 HO6.out HB6.out
    · by_cases t16 : t = 16
      · have HRK : Hid (recE here t ⟨nd, idn, snm, tag, ad, po, pa1, ver, gon⟩ = 0) := by subst t16; rfl
        have HR1 : Hid (rec1 name here t ⟨nd, idn, snm, tag, ad, po, pa1, ver, gon⟩ = ⟨name, t, 0, 0, idn, 0, ⟨#[]⟩⟩) := by subst t16; rfl
        have hQY := HQY1.out
        rw [HR1.out] at hQY
        have HQY : Hid _ := hQY
        have g1 : (t == 1) = false := by simpa using t1
        have g2 : (t == 16) = true := by simpa using t16
        clear hQY HQY1 HQE1 t1 t16 HP
        go_wp2_with fail
        go_quiet (fail)
        obtain ⟨W, hW⟩ : ∃ W, W = w.drewN nq := ⟨_, rfl⟩
        rw [← hW]
        have HBW : Hid (Below B w W) := by rw [hW]; exact belowN (Below.refl _ _) _
        have HOW : Hid (Rc.Own B W vo DL) := by rw [hW]; exact HO
        have e0 : W.cell? ⟨b, off + k * 9, none⟩ = some (.string nd) := by rw [hW]; exact c0
        have e1 : W.cell? ⟨b, off + k * 9 + 1, none⟩ = some (.string idn) := by rw [hW]; exact c1
        have e4 : W.cell? ⟨b, off + k * 9 + 4, none⟩ = some (.int .i64 ad) := by rw [hW]; exact c4
        have e5 : W.cell? ⟨b, off + k * 9 + 5, none⟩ = some (.int .i64 po) := by rw [hW]; exact c5
        have hlW : b < W.heap.size := by rw [hW]; exact hl1
        have hBW : B ≤ W.heap.size := by rw [hW]; exact hBw
        clear hW c0 c1 c4 c5 s0 hl1 hl2
        go_wp2_with (at_builtin; refine wpList_append_own _ rfl _ _ 31 rfl B 42 i0 _ 7 80 Tryz.underlying31 hi0 hz0 hzs hzb rfl (by omega) _ DL.length (Rc.fl DL) rfl ?hown _ 1 1 [.string name, .int .i64 t, .int .i64 0, .int .i64 0, .string idn, .int .i64 0, .string ⟨#[]⟩] rfl rfl ?hnews (Rc.cs_one ⟨name, t, 0, 0, idn, 0, ⟨#[]⟩⟩) ?h63 ?hbytes ?hbase ?_)
        case hown => exact (HOW.out.below ((Below.refl _ _).alloc (Nat.le_refl _) _)).below ((Below.refl _ _).alloc (Nat.le_refl _) _)
        case hnews => (intro j u hj; rw [Addr.add_lit]; exact (cell_topL (by simp)).trans (by simpa using hj))
        case h63 => (unfold maxLen; omega)
        case hbytes => omega
        case hbase => (simp; omega)
        intro v' w6 r1 r2 r3
        have HB6 : Hid (Below B w w6) := ((HBW.out.alloc hBW _).alloc (by simp <;> omega) _).grown r2 (by simp <;> omega) (fun j hj => (HOW.out.lt j hj).1)
        have HO6 : Hid (Rc.Own B w6 v' (DL ++ [⟨name, t, 0, 0, idn, 0, ⟨#[]⟩⟩])) := Rc.own_snoc r1
        clear r1 r2 r3
        go_wp2_with fail
        exact HQY.out HRK.out _ _ _ _ _ _ _ _ _ _ _ _ _ _ _ _ _ _ _ _ _ _ _ _ _ _ _ _ _ _ _ _ _ _ _ _ _ _ _ _ _ _ _ _ _ _ _ _ _ _ _ _ _ _ _ _ _ _ v' w6 HO6.out HB6.out
      · have g1 : (t == 1) = false := by simpa using t1
        have g2 : (t == 16) = false := by simpa using t16
        by_cases t33 : t = 33
        · have HRE : Hid (recE here t ⟨nd, idn, snm, tag, ad, po, pa1, ver, gon⟩ = prE (qN nd here)) := by subst t33; rfl
          have HR1 : Hid (rec1 name here t ⟨nd, idn, snm, tag, ad, po, pa1, ver, gon⟩ = ⟨name, t, 0, 0, ⟨#[]⟩, po, prS (qN nd here)⟩) := by subst t33; rfl
          have hQY := HQY1.out
          rw [HR1.out] at hQY
          have HQY : Hid _ := hQY
          have hQE := HQE1.out
          rw [HRE.out] at hQE
          have HQX : Hid _ := hQE
          have HRK0 : Hid (prE (qN nd here) = 0 → recE here t ⟨nd, idn, snm, tag, ad, po, pa1, ver, gon⟩ = 0) := fun h => HRE.out.trans h
          have g3 : (t == 33) = true := by simpa using t33
          clear hQY hQE HQY1 HQE1 t1 t16 t33
          generalize prE (qN nd here) = PE at *
          generalize prS (qN nd here) = PS at *
          go_wp2_with fail
          go_quiet (fail)
          obtain ⟨W, hW⟩ : ∃ W, W = w.drewN nq := ⟨_, rfl⟩
          rw [← hW]
          have HBW : Hid (Below B w W) := by rw [hW]; exact belowN (Below.refl _ _) _
          have HOW : Hid (Rc.Own B W vo DL) := by rw [hW]; exact HO
          have e0 : W.cell? ⟨b, off + k * 9, none⟩ = some (.string nd) := by rw [hW]; exact c0
          have e1 : W.cell? ⟨b, off + k * 9 + 1, none⟩ = some (.string idn) := by rw [hW]; exact c1
          have e4 : W.cell? ⟨b, off + k * 9 + 4, none⟩ = some (.int .i64 ad) := by rw [hW]; exact c4
          have e5 : W.cell? ⟨b, off + k * 9 + 5, none⟩ = some (.int .i64 po) := by rw [hW]; exact c5
          have hlW : b < W.heap.size := by rw [hW]; exact hl1
          have hBW : B ≤ W.heap.size := by rw [hW]; exact hBw
          clear hW c0 c1 c4 c5 s0 hl1 hl2
          go_wp2_with fail
          refine Calls.mono (HP.out _) ?_
          rintro e w3 ⟨rfl, hb3⟩
          have hs3 : W.heap.size + 1 ≤ w3.heap.size := by have := hb3.size; simpa using this
          have hg3 : w3.heap[W.heap.size]? = some (.cells #[.string name, .int .i64 t, .int .i64 0, .int .i64 0, .string ⟨#[]⟩, .int .i64 po, .string ⟨#[]⟩] 42 (0, 0)) := (hb3.block _ (by simp)).trans (heap_alloc_new W _)
          have HB3 : Hid (Below B w w3) := (HBW.out.alloc hBW _).trans (hb3.mono (by simp <;> omega))
          have HO3 : Hid (Rc.Own B w3 vo DL) := (HOW.out.below ((Below.refl _ _).alloc (Nat.le_refl _) _)).below hb3
          have HLT : Hid (∀ g, vo.ownBlock = some g → g < W.heap.size) := fun g h => (World.ownsRow.lt HOW.out g h).2
          have l0 : w3.cell? ⟨W.heap.size, 0, none⟩ = some (.string name) := cellsAt hg3 0
          have l1 : w3.cell? ⟨W.heap.size, 1, none⟩ = some (.int .i64 t) := cellsAt hg3 1
          have l2 : w3.cell? ⟨W.heap.size, 2, none⟩ = some (.int .i64 0) := cellsAt hg3 2
          have l3 : w3.cell? ⟨W.heap.size, 3, none⟩ = some (.int .i64 0) := cellsAt hg3 3
          have l4 : w3.cell? ⟨W.heap.size, 4, none⟩ = some (.string ⟨#[]⟩) := cellsAt hg3 4
          have l5 : w3.cell? ⟨W.heap.size, 5, none⟩ = some (.int .i64 po) := cellsAt hg3 5
          have l6 : w3.cell? ⟨W.heap.size, 6, none⟩ = some (.string ⟨#[]⟩) := cellsAt hg3 6
          have z6 : w3.frozen? ⟨W.heap.size, 6, none⟩ = false := by simp [World.frozen?, hg3]
          clear hb3 hg3 e0 e1 e4 e5
          by_cases h0 : PE = 0
          · have HRK : Hid (recE here t ⟨nd, idn, snm, tag, ad, po, pa1, ver, gon⟩ = 0) := HRK0.out h0
            have HB4 : Hid (Below B w (w3.setCell ⟨W.heap.size, 6, none⟩ (.string PS))) := HB3.out.setCell (p := ⟨W.heap.size, 6, none⟩) hBW _
            have HO4 : Hid (Rc.Own B (w3.setCell ⟨W.heap.size, 6, none⟩ (.string PS)) vo DL) := by
              have h := HO3.out
              rcases h.2 with ⟨hv, h0⟩ | ⟨g, c, cur, hv, hbg, hg, hrest⟩
              · exact ⟨h.1, .inl ⟨hv, h0⟩⟩
              · exact ⟨h.1, .inr ⟨g, c, cur, hv, hbg, (Below.heap_setCell _ _ _ g (by have := HLT.out g (by rw [hv]; rfl); show g ≠ W.heap.size; omega)).trans hg, hrest⟩⟩
            subst h0
            clear HRK0 HQX
            go_wp2_with (at_builtin; refine wpList_append_own _ rfl _ _ 31 rfl B 42 i0 _ 7 80 Tryz.underlying31 hi0 hz0 hzs hzb rfl (by omega) _ DL.length (Rc.fl DL) rfl ?hown _ 1 1 [.string name, .int .i64 t, .int .i64 0, .int .i64 0, .string ⟨#[]⟩, .int .i64 po, .string PS] rfl rfl ?hnews (Rc.cs_one ⟨name, t, 0, 0, ⟨#[]⟩, po, PS⟩) ?h63 ?hbytes ?hbase ?_)
            case hown => exact HO4.out.below ((Below.refl _ _).alloc (Nat.le_refl _) _)
            case hnews => (intro j u hj; rw [Addr.add_lit]; exact (cell_topL (by simp)).trans (by simpa using hj))
            case h63 => (unfold maxLen; omega)
            case hbytes => omega
            case hbase => (simp; omega)
            intro v' w6 r1 r2 r3
            have HB6 : Hid (Below B w w6) := ((HB4.out.alloc (by simp <;> omega) _)).grown r2 (by simp <;> omega) (fun j hj => (HO4.out.lt j hj).1)
            have HO6 : Hid (Rc.Own B w6 v' (DL ++ [⟨name, t, 0, 0, ⟨#[]⟩, po, PS⟩])) := Rc.own_snoc r1
            clear r1 r2 r3
            go_wp2_with fail
            exact HQY.out HRK.out _ _ _ _ _ _ _ _ _ _ _ _ _ _ _ _ _ _ _ _ _ _ _ _ _ _ _ _ _ _ _ _ _ _ _ _ _ _ _ _ _ _ _ _ _ _ _ _ _ _ _ _ _ _ _ _ _ _ v' w6 HO6.out HB6.out
          · have h0' : (PE != 0) = true := by simpa using h0
            have HQZ : Hid _ := HQX.out h0
            have HB4 : Hid (Below B w (w3.setCell ⟨W.heap.size, 6, none⟩ (.string PS))) := HB3.out.setCell (p := ⟨W.heap.size, 6, none⟩) hBW _
            clear HRK0 HQX h0
            go_wp2_with fail
            exact HQZ.out _ _ ⟨rfl, rfl, rfl, rfl⟩ HB4.out
        · have HRK : Hid (recE here t ⟨nd, idn, snm, tag, ad, po, pa1, ver, gon⟩ = 0) := by show recE _ _ _ = 0; unfold recE; rw [if_neg t33]
          have HR1 : Hid (rec1 name here t ⟨nd, idn, snm, tag, ad, po, pa1, ver, gon⟩ = ⟨name, t, 0, 0, ⟨#[]⟩, 0, ⟨#[]⟩⟩) := by show rec1 _ _ _ _ = _; unfold rec1; rw [if_neg t1, if_neg t16, if_neg t33, if_neg t33]
          have hQY := HQY1.out
          rw [HR1.out] at hQY
          have HQY : Hid _ := hQY
          have g3 : (t == 33) = false := by simpa using t33
          clear hQY HQY1 HQE1 t1 t16 t33 HP
          go_wp2_with fail
          go_quiet (fail)
          obtain ⟨W, hW⟩ : ∃ W, W = w.drewN nq := ⟨_, rfl⟩
          rw [← hW]
          have HBW : Hid (Below B w W) := by rw [hW]; exact belowN (Below.refl _ _) _
          have HOW : Hid (Rc.Own B W vo DL) := by rw [hW]; exact HO
          have e0 : W.cell? ⟨b, off + k * 9, none⟩ = some (.string nd) := by rw [hW]; exact c0
          have e1 : W.cell? ⟨b, off + k * 9 + 1, none⟩ = some (.string idn) := by rw [hW]; exact c1
          have e4 : W.cell? ⟨b, off + k * 9 + 4, none⟩ = some (.int .i64 ad) := by rw [hW]; exact c4
          have e5 : W.cell? ⟨b, off + k * 9 + 5, none⟩ = some (.int .i64 po) := by rw [hW]; exact c5
          have hlW : b < W.heap.size := by rw [hW]; exact hl1
          have hBW : B ≤ W.heap.size := by rw [hW]; exact hBw
          clear hW c0 c1 c4 c5 s0 hl1 hl2
          go_wp2_with (at_builtin; refine wpList_append_own _ rfl _ _ 31 rfl B 42 i0 _ 7 80 Tryz.underlying31 hi0 hz0 hzs hzb rfl (by omega) _ DL.length (Rc.fl DL) rfl ?hown _ 1 1 [.string name, .int .i64 t, .int .i64 0, .int .i64 0, .string ⟨#[]⟩, .int .i64 0, .string ⟨#[]⟩] rfl rfl ?hnews (Rc.cs_one ⟨name, t, 0, 0, ⟨#[]⟩, 0, ⟨#[]⟩⟩) ?h63 ?hbytes ?hbase ?_)
          case hown => exact (HOW.out.below ((Below.refl _ _).alloc (Nat.le_refl _) _)).below ((Below.refl _ _).alloc (Nat.le_refl _) _)
          case hnews => (intro j u hj; rw [Addr.add_lit]; exact (cell_topL (by simp)).trans (by simpa using hj))
          case h63 => (unfold maxLen; omega)
          case hbytes => omega
          case hbase => (simp; omega)
          intro v' w6 r1 r2 r3
          have HB6 : Hid (Below B w w6) := ((HBW.out.alloc hBW _).alloc (by simp <;> omega) _).grown r2 (by simp <;> omega) (fun j hj => (HOW.out.lt j hj).1)
          have HO6 : Hid (Rc.Own B w6 v' (DL ++ [⟨name, t, 0, 0, ⟨#[]⟩, 0, ⟨#[]⟩⟩])) := Rc.own_snoc r1
          clear r1 r2 r3
          go_wp2_with fail
          exact HQY.out HRK.out _ _ _ _ _ _ _ _ _ _ _ _ _ _ _ _ _ _ _ _ _ _ _ _ _ _ _ _ _ _ _ _ _ _ _ _ _ _ _ _ _ _ _ _ _ _ _ _ _ _ _ _ _ _ _ _ _ _ v' w6 HO6.out HB6.out
  · obtain ⟨h3, h4⟩ := beq_name hne
    have HQ1 : Hid _ := HQN.out hne
    clear HQN HQY0 HQE hne
    go_wp2_with fail
    go_quiet (fail)
    go_wp2_with fail
    exact HQ1.out _ _ _ _ _ _ _ _ _ _ _ _ _ _ _ _ _ _ _ _ _ _ _ _ _ _ _ _ _ _ _ _ _ _ _ _ _ _ _ _ _ _ _ _ _ _ _ _ _ _ _ _ _ _ _ _ _ _ _ (show Rc.Own B (w.drewN _) _ _ from HO.out) (belowN (Below.refl _ _) _)

end Go.Proofs.YtignmeaeibaejaaGreat

/- The document's Records: what its loops have behind some rounds; plain. -/
namespace Go.Proofs.YtignmeaeibaejaaGreat
open Go.RowKit

/-- The services that the loops have taken: of i nodes all, and of the next one those among the first k. -/
def fk0 (SL : List ByteArray) (L : List Sv.Svc) (i k : Nat) : List Sv.Svc := allN (SL.take i) L ++ ofN (L.take k) (SL.getD i ByteArray.empty)
def fk (SL : List ByteArray) (L : List Sv.Svc) (i k : Nat) : List Sv.Svc := (fk0 SL L i k).take 20
theorem fk_len (SL : List ByteArray) (L : List Sv.Svc) (i k : Nat) : (fk SL L i k).length ≤ 20 := List.length_take_le _ _
theorem fk_start (SL : List ByteArray) (L : List Sv.Svc) : fk SL L 0 0 = [] := by simp [fk, fk0, allN, ofN]
theorem fk0_zero (SL : List ByteArray) (L : List Sv.Svc) (i : Nat) : fk0 SL L i 0 = allN (SL.take i) L := by simp [fk0, ofN]
theorem fk0_full {SL : List ByteArray} {L : List Sv.Svc} {i k : Nat} (hi : i < SL.length) (hk : L.length ≤ k) : fk0 SL L i k = fk0 SL L (i + 1) 0 := by
  rw [fk0_zero, fk0, List.take_of_length_le hk, allN_snoc hi]
theorem fk_no {SL : List ByteArray} {L : List Sv.Svc} {i k : Nat} (hk : k < L.length) (h : (L.getD k Sv.dm).node ≠ SL.getD i ByteArray.empty) : fk SL L i (k + 1) = fk SL L i k := by
  have e : ofN (L.take (k + 1)) (SL.getD i ByteArray.empty) = ofN (L.take k) (SL.getD i ByteArray.empty) := by
    rw [take_snocS hk]
    exact ofN_snoc_other _ _ (Ne.symm h)
  unfold fk fk0
  rw [e]
theorem fk_yes {SL : List ByteArray} {L : List Sv.Svc} {i k : Nat} (hk : k < L.length) (h : (L.getD k Sv.dm).node = SL.getD i ByteArray.empty) (hl : (fk SL L i k).length < 20) : fk SL L i (k + 1) = fk SL L i k ++ [L.getD k Sv.dm] := by
  have e : ofN (L.take (k + 1)) (SL.getD i ByteArray.empty) = ofN (L.take k) (SL.getD i ByteArray.empty) ++ [L.getD k Sv.dm] := by
    rw [take_snocS hk, ← h]
    exact ofN_snoc_same _ _
  have hlen : (fk0 SL L i k).length < 20 := by
    unfold fk at hl
    rw [List.length_take] at hl
    omega
  have e2 : fk0 SL L i (k + 1) = fk0 SL L i k ++ [L.getD k Sv.dm] := by
    unfold fk0
    rw [e, List.append_assoc]
  unfold fk
  rw [e2, List.take_of_length_le (by rw [List.length_append, List.length_singleton]; omega), List.take_of_length_le (by omega)]
/-- All of them, in the end. -/
theorem fk0_pre {SL : List ByteArray} {L : List Sv.Svc} {i k : Nat} (hi : i < SL.length) : ∃ R, allN SL L = fk0 SL L i k ++ R := by
  have e1 : SL = SL.take i ++ (SL.getD i ByteArray.empty :: SL.drop (i + 1)) := by
    have h1 : SL.getD i ByteArray.empty = SL[i] := by simp [List.getD, List.getElem?_eq_getElem hi]
    rw [h1, ← List.drop_eq_getElem_cons hi, List.take_append_drop]
  have e2 : ofN L (SL.getD i ByteArray.empty) = ofN (L.take k) (SL.getD i ByteArray.empty) ++ ofN (L.drop k) (SL.getD i ByteArray.empty) := by
    unfold ofN
    rw [← List.filter_append, List.take_append_drop]
  refine ⟨ofN (L.drop k) (SL.getD i ByteArray.empty) ++ allN (SL.drop (i + 1)) L, ?_⟩
  have e3 : allN SL L = allN (SL.take i) L ++ (ofN L (SL.getD i ByteArray.empty) ++ allN (SL.drop (i + 1)) L) := by
    conv => lhs; rw [e1]
    unfold allN
    rw [List.flatMap_append, List.flatMap_cons]
  rw [e3, e2, fk0]
  simp [List.append_assoc]
theorem fk_pre {SL : List ByteArray} {L : List Sv.Svc} {i k : Nat} (hi : i < SL.length) : ∃ R, (allN SL L).take 20 = fk SL L i k ++ R := by
  obtain ⟨R, h⟩ := fk0_pre (L := L) (k := k) hi
  exact ⟨R.take (20 - (fk0 SL L i k).length), by rw [h, List.take_append]; rfl⟩
theorem fk_over {SL : List ByteArray} {L : List Sv.Svc} {i k : Nat} (hi : i < SL.length) (hl : ¬ (fk SL L i k).length < 20) : fk SL L i k = fk SL L (i + 1) 0 := by
  have hlen : 20 ≤ (fk0 SL L i k).length := by
    unfold fk at hl
    rw [List.length_take] at hl
    omega
  have e : fk0 SL L (i + 1) 0 = fk0 SL L i k ++ ofN (L.drop k) (SL.getD i ByteArray.empty) := by
    rw [fk0_zero, allN_snoc hi, fk0]
    have e2 : ofN L (SL.getD i ByteArray.empty) = ofN (L.take k) (SL.getD i ByteArray.empty) ++ ofN (L.drop k) (SL.getD i ByteArray.empty) := by
      unfold ofN
      rw [← List.filter_append, List.take_append_drop]
    rw [e2, List.append_assoc]
  unfold fk
  rw [e, List.take_append_of_le_length hlen]
theorem fk_full {SL : List ByteArray} {L : List Sv.Svc} {i k : Nat} (hi : i < SL.length) (hk : L.length ≤ k) : fk SL L i k = fk SL L (i + 1) 0 := by
  unfold fk; rw [fk0_full hi hk]
theorem fk_end {SL : List ByteArray} {L : List Sv.Svc} {i : Nat} (hi : SL.length ≤ i) : fk SL L i 0 = (allN SL L).take 20 := by
  unfold fk; rw [fk0_zero, List.take_of_length_le hi]
/-- No error among those that were taken. -/
def noE (here : ByteArray) (t : Int) (l : List Sv.Svc) : Prop := ∀ j, j < l.length → recE here t (l.getD j Sv.dm) = 0
theorem noE_snoc {here : ByteArray} {t : Int} {l : List Sv.Svc} {x : Sv.Svc} (h : noE here t l) (hx : recE here t x = 0) : noE here t (l ++ [x]) := fun j hj => by
  by_cases e : j < l.length
  · have := h j e
    simpa [List.getD, List.getElem?_append_left e] using this
  · have e2 : j = l.length := by simp at hj; omega
    subst e2
    simpa [List.getD] using hx
theorem noE_err {here : ByteArray} {t : Int} {l R : List Sv.Svc} {x : Sv.Svc} (h : noE here t l) (hx : recE here t x ≠ 0) : recsE here t (l ++ x :: R) = recE here t x := by
  have e : (l ++ x :: R).getD l.length Sv.dm = x := by simp [List.getD]
  have := recsE_at (here := here) (t := t) (L := l ++ x :: R) (k := l.length) (by simp) (fun j hj => by
    have h2 := h j hj
    simpa [List.getD, List.getElem?_append_left hj] using h2) (by rw [e]; exact hx)
  rw [this, e]
theorem noE_all {here : ByteArray} {t : Int} {l : List Sv.Svc} (h : noE here t l) : recsE here t l = 0 := recsE_all h
/-- At an error the document stops with it. -/
theorem fk_err {here : ByteArray} {t : Int} {SL : List ByteArray} {L : List Sv.Svc} {i k : Nat} (hi : i < SL.length) (hk : k < L.length) (h : (L.getD k Sv.dm).node = SL.getD i ByteArray.empty) (hl : (fk SL L i k).length < 20) (hz : noE here t (fk SL L i k)) (hx : recE here t (L.getD k Sv.dm) ≠ 0) : recsE here t ((allN SL L).take 20) = recE here t (L.getD k Sv.dm) := by
  obtain ⟨R, hR⟩ := fk_pre (L := L) (k := k + 1) hi
  rw [hR, fk_yes hk h hl, List.append_assoc]
  exact noE_err hz hx
theorem nodesR_live {ms : List Mem} {L : List Sv.Svc} {k : Nat} (hk : k < L.length) : nodesR (liveL ms (L.take (k + 1))) = if outB ms (L.getD k Sv.dm).node = true then nodesR (liveL ms (L.take k)) else addR (nodesR (liveL ms (L.take k))) (L.getD k Sv.dm).node := by
  rw [take_snocS hk]
  by_cases h : outB ms (L.getD k Sv.dm).node = true
  · rw [if_pos h, live_skip h]
  · have h2 : outB ms (L.getD k Sv.dm).node = false := by simpa using h
    rw [if_neg h, live_snoc h2, nodesR_snoc]
theorem nodesR_len (L : List Sv.Svc) : (nodesR L).length ≤ L.length := by
  refine snoc_ind (p := fun L => (nodesR L).length ≤ L.length) (by simp [nodesR]) (fun l s ih => ?_) L
  rw [nodesR_snoc]
  unfold addR
  split <;> simp <;> omega

end Go.Proofs.YtignmeaeibaejaaGreat

