/- ANC, DKE, FN, FO, FW, AND, DKQ, ANE, SKT, MKT, WT, ANK -/
import Derived.Test.YtignmeaeibaejaaGreatV23
import Derived.Test.YtignmeaeibaejaaGreatV18
import Derived.Test.YtignmeaeibaejaaGreatV11
import Derived.Laws.StructEq
import Derived.Deep.Slices
import Derived.Test.YtignmeaeibaejaaGreatV14
import Derived.Deep.RegionHeld3
import Derived.Deep.RegionWith
import Derived.StillTactics
import Derived.Lib.SmallJoins
import Derived.Test.YtignmeaeibaejaaGreatV6
import Derived.ProofKit
import Derived.OpenShut
import Derived.Handed
import Derived.Test.YtignmeaeibaejaaGreatV8
import Derived.Test.YtignmeaeibaejaaGreatV3
import Derived.Test.YtignmeaeibaejaaGreatV10
/- The document's Records: its loops. -/
namespace Go.Proofs.YtignmeaeibaejaaGreat
open Go.RowKit

theorem rcown_slice {B : Nat} {w : World} {v : Value} {ms : List Rc.Rec} (h : Rc.Own B w v ms) : ∃ p c, v = .slice p ms.length c := by
  rcases h.2 with ⟨hv, h0⟩ | ⟨g, c, cur, hv, _⟩
  · exact ⟨none, 0, by rw [hv, h0]⟩
  · exact ⟨_, c, hv⟩
theorem KnOk.okP {here : ByteArray} {sv : List Sv.Svc} {ms : List Mem} {p : Pl} {wh : List Wh.Whe} (h : KnOk here sv ms p wh) : wh.length ≤ 100 ∧ OkP p ∧ ∀ j, j < wh.length → OkP (toPl (plc (wh.getD j Wh.dm))) := by
  obtain ⟨h1, _⟩ := h.sort (ns := []) (by simp)
  obtain ⟨h2, _, h3, h4⟩ := sortE_zero h1
  exact ⟨h2, h3, h4⟩
theorem find_up {sv : List Sv.Svc} (name tag : ByteArray) (h : Sv.chk sv = 0) : UpN (Sv.findL sv name tag) := upN_of (List.Pairwise.sublist (List.filter_sublist) (Sv.chk_zero h).2.1)
theorem live_up {ms : List Mem} {L : List Sv.Svc} (h : UpN L) : UpN (liveL ms L) := List.Pairwise.sublist (List.filter_sublist) h
set_option maxHeartbeats 12800000 in
set_option maxRecDepth 1000000 in
theorem rloop1 {u0 u1 u2 u3 u5 u6 u7 u8 u9 u10 u11 u12 u13 u14 u15 u16 u17 u18 u19 u23 u24 u25 u26 u27 u28 u29 u30 u31 u32 u33 u34 u35 u36 u37 u38 u39 u40 u41 u42 u43 u44 u45 u46 u47 u48 u49 u50 u51 u52 u53 u54 u55 u56 u57 u58 u59 u60 u61 u62 u63 u64 u65 u66 u67 u68 u69 u70 u71 u72 u73 u74 u75 u76 u77 u78 u79 u80 u81 u82 u83 u84 u85 u86 u87 u88 u89 u90 u91 u92 u93 u94 u95 u96 u97 u98 u99 u100 u101 u102 u103 u104 u105 u106 u107 u108 u109 u110 u111 u112 u113 u114 u115 u116 u117 u118 u119 u120 u121 u122 u123 u124 u125 u126 u127 u128 u129 u130 u131 u132 u133 u134 u135 u136 u137 u138 u139 u140 u141 u142 u143 u144 u145 u146 u147 u148 u149 u150 u151 u152 u153 u154 u155 u156 u157 u158 u159 u160 u161 u162 u163 u164 u165 u166 u167 u168 u169 u170 u171 u172 u173 u174 u175 u176 u177 u178 u179 u180 u181 u182 u183 u184 u185 u186 u187 u188 u189 u190 u191 u192 u193 u194 u195 u196 u197 u198 u199 u200 u201 u202 u203 u204 u205 u206 u207 u208 u209 u210 u211 u212 u213 u214 u215 u216 u217 u218 u219 u220 u221 u222 u223 u224 u225 u226 u227 u228 u229 u230 : Value} (ms : List Mem) (FL : List Sv.Svc) (pm pf : Option Addr) (nm cm n cf : Nat) (X : World) (hms : chk ms = 0) (hfl : n ≤ 40) (HUP : Hid (nodesR (liveL ms FL) = nodesP (liveL ms FL)))
    (HMX : Hid (Sl X (.slice pm nm cm) ms)) (HFX : Hid (Sv.Sl X (.slice pf n cf) FL)) (HNN : Hid (FL.length = n)) (Q : Exit → Act → World → Prop)
    (hN : ∀ (y22 y23 y98 y99 y100 y101 y102 y103 y104 y105 y106 y107 y108 y109 y110 y111 y112 y113 y114 y115 y116 y117 y118 y119 y120 y121 y122 y123 y124 y125 y126 y127 y128 y129 y130 y131 y132 y133 y134 y135 y136 y137 y138 y139 y140 y141 y142 y143 y144 y145 vn : Value) (wx : World), Hid (OwnS X.heap.size wx vn (nodesP (liveL ms FL))) → Hid (Below X.heap.size X wx) → Q .normal ⟨#[u0, u1, u2, u3, .slice pm nm cm, u5, u6, u7, u8, u9, u10, u11, u12, u13, u14, u15, u16, u17, u18, u19, .slice pf n cf, vn, y22, y23, u24, u25, u26, u27, u28, u29, u30, u31, u32, u33, u34, u35, u36, u37, u38, u39, u40, u41, u42, u43, u44, u45, u46, u47, u48, u49, u50, u51, u52, u53, u54, u55, u56, u57, u58, u59, u60, u61, u62, u63, u64, u65, u66, u67, u68, u69, u70, u71, u72, u73, u74, u75, u76, u77, u78, u79, u80, u81, u82, u83, u84, u85, u86, u87, u88, u89, u90, u91, u92, u93, u94, u95, u96, u97, y98, y99, y100, y101, y102, y103, y104, y105, y106, y107, y108, y109, y110, y111, y112, y113, y114, y115, y116, y117, y118, y119, y120, y121, y122, y123, y124, y125, y126, y127, y128, y129, y130, y131, y132, y133, y134, y135, y136, y137, y138, y139, y140, y141, y142, y143, y144, y145, u146, u147, u148, u149, u150, u151, u152, u153, u154, u155, u156, u157, u158, u159, u160, u161, u162, u163, u164, u165, u166, u167, u168, u169, u170, u171, u172, u173, u174, u175, u176, u177, u178, u179, u180, u181, u182, u183, u184, u185, u186, u187, u188, u189, u190, u191, u192, u193, u194, u195, u196, u197, u198, u199, u200, u201, u202, u203, u204, u205, u206, u207, u208, u209, u210, u211, u212, u213, u214, u215, u216, u217, u218, u219, u220, u221, u222, u223, u224, u225, u226, u227, u228, u229, u230], []⟩ wx) :
    Code.wp Tryz.prog ((Tryz.f6.body.bind (blkIn 0)).getD .skip) Q ⟨#[u0, u1, u2, u3, .slice pm nm cm, u5, u6, u7, u8, u9, u10, u11, u12, u13, u14, u15, u16, u17, u18, u19, .slice pf n cf, .slice none 0 0, .int .i64 0, u23, u24, u25, u26, u27, u28, u29, u30, u31, u32, u33, u34, u35, u36, u37, u38, u39, u40, u41, u42, u43, u44, u45, u46, u47, u48, u49, u50, u51, u52, u53, u54, u55, u56, u57, u58, u59, u60, u61, u62, u63, u64, u65, u66, u67, u68, u69, u70, u71, u72, u73, u74, u75, u76, u77, u78, u79, u80, u81, u82, u83, u84, u85, u86, u87, u88, u89, u90, u91, u92, u93, u94, u95, u96, u97, u98, u99, u100, u101, u102, u103, u104, u105, u106, u107, u108, u109, u110, u111, u112, u113, u114, u115, u116, u117, u118, u119, u120, u121, u122, u123, u124, u125, u126, u127, u128, u129, u130, u131, u132, u133, u134, u135, u136, u137, u138, u139, u140, u141, u142, u143, u144, u145, u146, u147, u148, u149, u150, u151, u152, u153, u154, u155, u156, u157, u158, u159, u160, u161, u162, u163, u164, u165, u166, u167, u168, u169, u170, u171, u172, u173, u174, u175, u176, u177, u178, u179, u180, u181, u182, u183, u184, u185, u186, u187, u188, u189, u190, u191, u192, u193, u194, u195, u196, u197, u198, u199, u200, u201, u202, u203, u204, u205, u206, u207, u208, u209, u210, u211, u212, u213, u214, u215, u216, u217, u218, u219, u220, u221, u222, u223, u224, u225, u226, u227, u228, u229, u230], []⟩ X := by
  conv => arg 2; whnf
  have HQN : Hid _ := hN
  clear hN
  have HSTEP : Hid (∀ k, k < n → nodesR (liveL ms (FL.take (k + 1))) = if outB ms (FL.getD k Sv.dm).node = true then nodesR (liveL ms (FL.take k)) else addR (nodesR (liveL ms (FL.take k))) (FL.getD k Sv.dm).node) := fun k hk => nodesR_live (by rw [HNN.out]; exact hk)
  have HLEN : Hid (∀ k, (nodesR (liveL ms (FL.take k))).length ≤ 40) := fun k => by
    have h1 := nodesR_len (liveL ms (FL.take k))
    have h2 := live_len ms (FL.take k)
    have h3 : (FL.take k).length ≤ FL.length := List.length_take_le' _ _
    have h4 := HNN.out
    omega
  go_wp2_with fail
  go_loopw [21, 22] (fun vn i wr => ∃ k : Nat, k ≤ n ∧ i = .int .i64 k ∧ Hid (OwnS X.heap.size wr vn (nodesR (liveL ms (FL.take k)))) ∧ Hid (Below X.heap.size X wr)) (fun _ i _ => n - (intOf i).toNat)
  case atStart => exact ⟨0, Nat.zero_le _, rfl, ownS_nil _ _, Below.refl _ _⟩
  case round =>
    obtain ⟨k, hkn, rfl, HO, HB⟩ := hrel
    have hsr := HB.out.size
    by_cases hlt : k < n
    · have hlen := HLEN.out k
      go_upto_block 1 with fail
      refine rr1 X.heap.size ms FL pm pf nm cm n cf k u21 (nodesR (liveL ms (FL.take k))) wr hms hlt hlen hsr (HMX.out.below HB.out) (HFX.out.below HB.out) HO _ ?_
      intro _ _ _ _ _ _ _ _ _ _ _ _ _ _ _ _ _ _ _ _ _ _ _ _ _ _ _ _ _ _ _ _ _ _ _ _ _ _ _ _ _ _ _ vn' wx ho hb
      have HO2 : Hid (OwnS X.heap.size wx vn' (nodesR (liveL ms (FL.take (k + 1))))) := by rw [HSTEP.out k hlt]; exact ho
      have HB2 : Hid (Below X.heap.size X wx) := HB.out.trans hb.out
      clear ho hb
      go_wp2_with fail
      go_roundw
      case rel => exact ⟨k + 1, by omega, by go_num, HO2, HB2⟩
      case measure => simp [intOf]; omega
    · have HON : Hid (OwnS X.heap.size wr u21 (nodesP (liveL ms FL))) := by
        have h := HO.out
        rw [List.take_of_length_le (by rw [HNN.out]; omega), HUP.out] at h
        exact h
      go_wp2_with fail
      exact HQN.out _ _ _ _ _ _ _ _ _ _ _ _ _ _ _ _ _ _ _ _ _ _ _ _ _ _ _ _ _ _ _ _ _ _ _ _ _ _ _ _ _ _ _ _ _ _ _ _ _ _ _ _ HON HB
set_option maxHeartbeats 12800000 in
set_option maxRecDepth 1000000 in
theorem rloop2 {u0 u3 u4 u5 u6 u7 u8 u9 u10 u11 u12 u13 u14 u15 u16 u19 u22 u23 u26 u27 u28 u29 u30 u31 u32 u33 u34 u35 u36 u37 u38 u39 u40 u41 u42 u43 u44 u45 u46 u47 u48 u49 u50 u51 u52 u53 u54 u55 u56 u57 u58 u59 u60 u61 u62 u63 u64 u65 u66 u67 u68 u69 u70 u71 u72 u73 u74 u75 u76 u77 u78 u79 u80 u81 u82 u83 u84 u85 u86 u87 u88 u89 u90 u91 u92 u93 u94 u95 u96 u97 u98 u99 u100 u101 u102 u103 u104 u105 u106 u107 u108 u109 u110 u111 u112 u113 u114 u115 u116 u117 u118 u119 u120 u121 u122 u123 u124 u125 u126 u127 u128 u129 u130 u131 u132 u133 u134 u135 u136 u137 u138 u139 u140 u141 u142 u143 u144 u145 u146 u147 u148 u149 u150 u151 u152 u153 u154 u155 u156 u157 u158 u159 u160 u161 u162 u163 u164 u165 u166 u167 u168 u169 u170 u171 u172 u173 u174 u175 u176 u177 u178 u179 u180 u181 u182 u183 u184 u185 u186 u187 u188 u189 u190 u191 u192 u193 u194 u195 u196 u197 u198 u199 u200 u201 u202 u203 u204 u205 u206 u207 u208 u209 u210 u211 u212 u213 u214 u215 u216 u217 u218 u219 u220 u221 u222 u223 u224 u225 u226 u227 u228 u229 u230 : Value} (name here : ByteArray) (t : Int) (FL NL : List Sv.Svc) (SL : List ByteArray) (pf pn : Option Addr) (n cf m cn : Nat) (Y : World) (hhm : here.size ≤ maxLen) (hfl : n ≤ 40) (hml : m ≤ 100) (HNR : Hid (NL = (allN SL FL).take 20))
    (HFY : Hid (Sv.Sl Y (.slice pf n cf) FL)) (HTY : Hid (TSl Y (.slice pn m cn) SL)) (HNN : Hid (FL.length = n)) (HMM : Hid (SL.length = m)) (Q : Exit → Act → World → Prop)
    (hN : ∀ (y14 y15 y16 y25 y26 y27 y150 y151 y152 y153 y154 y155 y156 y157 y158 y159 y160 y161 y162 y163 y164 y165 y166 y167 y168 y169 y170 y171 y172 y173 y174 y175 y176 y177 y178 y179 y180 y181 y182 y183 y184 y185 y186 y187 y188 y189 y190 y191 y192 y193 y194 y195 y196 y197 y198 y199 y200 y201 y202 y203 y204 y205 y206 y207 y208 y209 y210 y211 y212 y213 y214 y215 y216 y217 y218 y219 y220 y221 y222 y223 vo : Value) (wx : World), Hid (Rc.Own Y.heap.size wx vo (NL.map (rec1 name here t))) → Hid (recsE here t NL = 0) → Hid (Below Y.heap.size Y wx) → Q .normal ⟨#[u0, .int .i64 t, .string here, u3, u4, u5, u6, u7, u8, u9, u10, u11, u12, u13, y14, y15, y16, .int .i64 0, .string name, u19, .slice pf n cf, .slice pn m cn, u22, u23, vo, y25, y26, y27, u28, u29, u30, u31, u32, u33, u34, u35, u36, u37, u38, u39, u40, u41, u42, u43, u44, u45, u46, u47, u48, u49, u50, u51, u52, u53, u54, u55, u56, u57, u58, u59, u60, u61, u62, u63, u64, u65, u66, u67, u68, u69, u70, u71, u72, u73, u74, u75, u76, u77, u78, u79, u80, u81, u82, u83, u84, u85, u86, u87, u88, u89, u90, u91, u92, u93, u94, u95, u96, u97, u98, u99, u100, u101, u102, u103, u104, u105, u106, u107, u108, u109, u110, u111, u112, u113, u114, u115, u116, u117, u118, u119, u120, u121, u122, u123, u124, u125, u126, u127, u128, u129, u130, u131, u132, u133, u134, u135, u136, u137, u138, u139, u140, u141, u142, u143, u144, u145, u146, u147, u148, u149, y150, y151, y152, y153, y154, y155, y156, y157, y158, y159, y160, y161, y162, y163, y164, y165, y166, y167, y168, y169, y170, y171, y172, y173, y174, y175, y176, y177, y178, y179, y180, y181, y182, y183, y184, y185, y186, y187, y188, y189, y190, y191, y192, y193, y194, y195, y196, y197, y198, y199, y200, y201, y202, y203, y204, y205, y206, y207, y208, y209, y210, y211, y212, y213, y214, y215, y216, y217, y218, y219, y220, y221, y222, y223, u224, u225, u226, u227, u228, u229, u230], []⟩ wx)
    (hE : ∀ a W, Ret3 (.slice none 0 0) 0 (recsE here t NL) a → recsE here t NL ≠ 0 → FL ≠ [] → Below Y.heap.size Y W → Q .ret a W) :
    Code.wp Tryz.prog ((Tryz.f6.body.bind (blkIn 2)).getD .skip) Q ⟨#[u0, .int .i64 t, .string here, u3, u4, u5, u6, u7, u8, u9, u10, u11, u12, u13, u14, u15, u16, .int .i64 0, .string name, u19, .slice pf n cf, .slice pn m cn, u22, u23, .slice none 0 0, .int .i64 0, u26, u27, u28, u29, u30, u31, u32, u33, u34, u35, u36, u37, u38, u39, u40, u41, u42, u43, u44, u45, u46, u47, u48, u49, u50, u51, u52, u53, u54, u55, u56, u57, u58, u59, u60, u61, u62, u63, u64, u65, u66, u67, u68, u69, u70, u71, u72, u73, u74, u75, u76, u77, u78, u79, u80, u81, u82, u83, u84, u85, u86, u87, u88, u89, u90, u91, u92, u93, u94, u95, u96, u97, u98, u99, u100, u101, u102, u103, u104, u105, u106, u107, u108, u109, u110, u111, u112, u113, u114, u115, u116, u117, u118, u119, u120, u121, u122, u123, u124, u125, u126, u127, u128, u129, u130, u131, u132, u133, u134, u135, u136, u137, u138, u139, u140, u141, u142, u143, u144, u145, u146, u147, u148, u149, u150, u151, u152, u153, u154, u155, u156, u157, u158, u159, u160, u161, u162, u163, u164, u165, u166, u167, u168, u169, u170, u171, u172, u173, u174, u175, u176, u177, u178, u179, u180, u181, u182, u183, u184, u185, u186, u187, u188, u189, u190, u191, u192, u193, u194, u195, u196, u197, u198, u199, u200, u201, u202, u203, u204, u205, u206, u207, u208, u209, u210, u211, u212, u213, u214, u215, u216, u217, u218, u219, u220, u221, u222, u223, u224, u225, u226, u227, u228, u229, u230], []⟩ Y := by
  conv => arg 2; whnf
  have HQN : Hid _ := hN
  have HQE : Hid _ := hE
  clear hN hE
  go_wp2_with fail
  go_loopw [17, 24, 25] (fun e vo i wr => ∃ j : Nat, j ≤ m ∧ i = .int .i64 j ∧ e = .int .i64 0 ∧ Hid (Rc.Own Y.heap.size wr vo ((fk SL FL j 0).map (rec1 name here t))) ∧ Hid (noE here t (fk SL FL j 0)) ∧ Hid (Below Y.heap.size Y wr)) (fun _ _ i _ => m - (intOf i).toNat)
  case atStart => exact ⟨0, Nat.zero_le _, rfl, rfl, by rw [fk_start]; exact Rc.own_nil _ _, by rw [fk_start]; exact fun j hj => absurd hj (Nat.not_lt_zero _), Below.refl _ _⟩
  case round =>
    obtain ⟨j, hj, rfl, rfl, HO, HZ, HB⟩ := hrel
    by_cases hjm : j < m
    · have hjl : j < SL.length := by rw [HMM.out]; exact hjm
      go_wp2_with fail
      go_loopw [17, 24, 26] (fun e vo k wr => ∃ k' : Nat, k' ≤ n ∧ k = .int .i64 k' ∧ e = .int .i64 0 ∧ Hid (Rc.Own Y.heap.size wr vo ((fk SL FL j k').map (rec1 name here t))) ∧ Hid (noE here t (fk SL FL j k')) ∧ Hid (Below Y.heap.size Y wr)) (fun _ _ k _ => n - (intOf k).toNat)
      case atStart => exact ⟨0, Nat.zero_le _, rfl, rfl, HO, HZ, HB⟩
      case round =>
        obtain ⟨k, hk, rfl, rfl, HO, HZ, HB⟩ := hrel
        have hsr := HB.out.size
        obtain ⟨po, co, hvo⟩ := rcown_slice HO.out
        subst hvo
        have hfl2 := fk_len SL FL j k
        by_cases hlt : k < n
        · have hkl : k < FL.length := by rw [HNN.out]; exact hlt
          by_cases hl20 : (fk SL FL j k).length < 20
          · have HN1 : Hid ((FL.getD k Sv.dm).node ≠ SL.getD j ByteArray.empty → fk SL FL j (k + 1) = fk SL FL j k) := fun h => fk_no hkl h
            have HY1 : Hid ((FL.getD k Sv.dm).node = SL.getD j ByteArray.empty → fk SL FL j (k + 1) = fk SL FL j k ++ [FL.getD k Sv.dm]) := fun h => fk_yes hkl h hl20
            have HE1 : Hid ((FL.getD k Sv.dm).node = SL.getD j ByteArray.empty → recE here t (FL.getD k Sv.dm) ≠ 0 → recsE here t NL = recE here t (FL.getD k Sv.dm)) := fun h h2 => by rw [HNR.out]; exact fk_err hjl hkl h hl20 HZ.out h2
            have hdl : ((fk SL FL j k).map (rec1 name here t)).length < 20 := by rw [List.length_map]; exact hl20
            have hdl2 : ((fk SL FL j k).map (rec1 name here t)).length ≤ 20 := by omega
            have hci : (((fk SL FL j k).map (rec1 name here t)).length : Int) < 20 := by omega
            go_upto_block 5 with fail
            refine rr5 Y.heap.size name here t FL SL ((fk SL FL j k).map (rec1 name here t)) pf pn n cf m cn j k _ wr hhm hlt hjm hdl2 hsr (HFY.out.below HB.out) (HTY.out.below HB.out) HO _ ?hN ?hY ?hE
            case hN =>
              intro hmt _ _ _ _ _ _ _ _ _ _ _ _ _ _ _ _ _ _ _ _ _ _ _ _ _ _ _ _ _ _ _ _ _ _ _ _ _ _ _ _ _ _ _ _ _ _ _ _ _ _ _ _ _ _ _ _ _ _ wx ho hb
              have HO2 : Hid (Rc.Own Y.heap.size wx (.slice po ((fk SL FL j k).map (rec1 name here t)).length co) ((fk SL FL j (k + 1)).map (rec1 name here t))) := by rw [HN1.out hmt]; exact ho
              have HZ2 : Hid (noE here t (fk SL FL j (k + 1))) := by rw [HN1.out hmt]; exact HZ
              have HB2 : Hid (Below Y.heap.size Y wx) := HB.out.trans hb
              clear ho hb hmt
              go_wp2_with fail
              go_roundw
              case rel => exact ⟨k + 1, by omega, by go_num, rfl, HO2, HZ2, HB2⟩
              case measure => simp [intOf]; omega
            case hY =>
              intro hmt hz0 _ _ _ _ _ _ _ _ _ _ _ _ _ _ _ _ _ _ _ _ _ _ _ _ _ _ _ _ _ _ _ _ _ _ _ _ _ _ _ _ _ _ _ _ _ _ _ _ _ _ _ _ _ _ _ _ _ _ vo' wx ho hb
              have HO2 : Hid (Rc.Own Y.heap.size wx vo' ((fk SL FL j (k + 1)).map (rec1 name here t))) := by rw [HY1.out hmt, List.map_append]; exact ho
              have HZ2 : Hid (noE here t (fk SL FL j (k + 1))) := by rw [HY1.out hmt]; exact noE_snoc HZ.out hz0
              have HB2 : Hid (Below Y.heap.size Y wx) := HB.out.trans hb
              clear ho hb hmt hz0
              go_wp2_with fail
              go_roundw
              case rel => exact ⟨k + 1, by omega, by go_num, rfl, HO2, HZ2, HB2⟩
              case measure => simp [intOf]; omega
            case hE =>
              intro hmt hz0 a W hret hb
              have HER := HE1.out hmt hz0
              exact HQE.out a W (by rw [HER]; exact hret) (by rw [HER]; exact hz0) (fun h => by rw [h] at hkl; simp at hkl) (HB.out.trans hb)
          · have HOV : Hid (fk SL FL j k = fk SL FL (j + 1) 0) := fk_over hjl hl20
            have hdl : ¬ (((fk SL FL j k).map (rec1 name here t)).length : Int) < 20 := by rw [List.length_map]; omega
            have HO2 : Hid (Rc.Own Y.heap.size wr (.slice po ((fk SL FL j k).map (rec1 name here t)).length co) ((fk SL FL (j + 1) 0).map (rec1 name here t))) := by rw [← HOV.out]; exact HO
            have HZ2 : Hid (noE here t (fk SL FL (j + 1) 0)) := by rw [← HOV.out]; exact HZ
            clear HO HZ HOV hl20 hfl2
            generalize ((fk SL FL j k).map (rec1 name here t)).length = ll at *
            go_wp2_with fail
            exact ⟨⟨j + 1, by omega, by go_num, rfl, HO2, HZ2, HB⟩, by simp [intOf]; omega⟩
        · have HOV : Hid (fk SL FL j k = fk SL FL (j + 1) 0) := fk_full hjl (by rw [HNN.out]; omega)
          have HO2 : Hid (Rc.Own Y.heap.size wr (.slice po ((fk SL FL j k).map (rec1 name here t)).length co) ((fk SL FL (j + 1) 0).map (rec1 name here t))) := by rw [← HOV.out]; exact HO
          have HZ2 : Hid (noE here t (fk SL FL (j + 1) 0)) := by rw [← HOV.out]; exact HZ
          clear HO HZ HOV hfl2
          generalize ((fk SL FL j k).map (rec1 name here t)).length = ll at *
          go_wp2_with fail
          exact ⟨⟨j + 1, by omega, by go_num, rfl, HO2, HZ2, HB⟩, by simp [intOf]; omega⟩
    · have HEN : Hid (fk SL FL j 0 = NL) := by show _ = _; rw [fk_end (by rw [HMM.out]; omega), HNR.out]
      have HO2 : Hid (Rc.Own Y.heap.size wr u24 (NL.map (rec1 name here t))) := by rw [← HEN.out]; exact HO
      have HZ2 : Hid (recsE here t NL = 0) := by rw [← HEN.out]; exact noE_all HZ.out
      go_wp2_with fail
      exact HQN.out _ _ _ _ _ _ _ _ _ _ _ _ _ _ _ _ _ _ _ _ _ _ _ _ _ _ _ _ _ _ _ _ _ _ _ _ _ _ _ _ _ _ _ _ _ _ _ _ _ _ _ _ _ _ _ _ _ _ _ _ _ _ _ _ _ _ _ _ _ _ _ _ _ _ _ _ _ _ _ _ _ _ HO2 HZ2 HB

end Go.Proofs.YtignmeaeibaejaaGreat

/- records: are two the same? -/
namespace Go.Proofs.YtignmeaeibaejaaGreat
namespace Rc
open Go.RowKit

def sameM (x y : Rec) : Bool := x.name.toList == y.name.toList && (x.typ == y.typ && (x.lasts == y.lasts && (x.addr == y.addr && (x.text.toList == y.text.toList && (x.port == y.port && (x.target.toList == y.target.toList))))))

theorem sameM_iff (x y : Rec) : sameM x y = true ↔ x = y := by
  obtain ⟨x_name, x_typ, x_lasts, x_addr, x_text, x_port, x_target⟩ := x
  obtain ⟨y_name, y_typ, y_lasts, y_addr, y_text, y_port, y_target⟩ := y
  simp only [sameM, Bool.and_eq_true, beq_iff_eq, Rec.mk.injEq, Lib.toList_data]
  constructor
  · rintro ⟨h0, h1, h2, h3, h4, h5, h6⟩; exact ⟨ba_ext h0, h1, h2, h3, ba_ext h4, h5, ba_ext h6⟩
  · rintro ⟨h0, h1, h2, h3, h4, h5, h6⟩; exact ⟨by rw [h0], h1, h2, h3, by rw [h4], h5, by rw [h6]⟩

theorem eqInE (m1 m2 : Rec) (w : World) : (Op.equalIn 10000 42 (.agg #[.string m1.name, .int .i64 m1.typ, .int .i64 m1.lasts, .int .i64 m1.addr, .string m1.text, .int .i64 m1.port, .string m1.target]) (.agg #[.string m2.name, .int .i64 m2.typ, .int .i64 m2.lasts, .int .i64 m2.addr, .string m2.text, .int .i64 m2.port, .string m2.target])).run Tryz.prog w = .ok (sameM m1 m2) w := by
  have u3 := Tryz.underlying3
  have u9 := Tryz.underlying9
  have a3 := Tryz.isAgg3
  have z3 := Tryz.sizeOf3
  have a9 := Tryz.isAgg9
  have z9 := Tryz.sizeOf9
  have hS : Tryz.prog.underlying 42 = some (.struct (Tryz.prog.fieldsOf 42)) := by kernel_rfl
  have hp : Tryz.prog.stoodInHeld 42 = false := by kernel_rfl
  rw [show (10000 : Nat) = 9999 + 1 from rfl, run_equalIn_agg w 9999 42 _ _ hS hp]
  simp only [Program.fieldsOf, Tryz.underlying42]
  go_simp
  unfold sameM
  by_cases h0 : m1.name.toList = m2.name.toList
  case neg => simp [h0]
  by_cases h1 : m1.typ = m2.typ
  case neg => simp [h0, h1]
  by_cases h2 : m1.lasts = m2.lasts
  case neg => simp [h0, h1, h2]
  by_cases h3 : m1.addr = m2.addr
  case neg => simp [h0, h1, h2, h3]
  by_cases h4 : m1.text.toList = m2.text.toList
  case neg => simp [h0, h1, h2, h3, h4]
  by_cases h5 : m1.port = m2.port
  case neg => simp [h0, h1, h2, h3, h4, h5]
  by_cases h6 : m1.target.toList = m2.target.toList
  case neg => simp [h0, h1, h2, h3, h4, h5, h6]
  simp [h0, h1, h2, h3, h4, h5, h6]

theorem neqE (m1 m2 : Rec) (w : World) : Sem.run Tryz.prog (binOp .neq 42 (.agg #[.string m1.name, .int .i64 m1.typ, .int .i64 m1.lasts, .int .i64 m1.addr, .string m1.text, .int .i64 m1.port, .string m1.target]) (.agg #[.string m2.name, .int .i64 m2.typ, .int .i64 m2.lasts, .int .i64 m2.addr, .string m2.text, .int .i64 m2.port, .string m2.target])) w = .ok (.bool (!sameM m1 m2)) w := by
  rw [run_neq_struct, eqInE]
  rfl

theorem eqE (m1 m2 : Rec) (w : World) : Sem.run Tryz.prog (binOp .eql 42 (.agg #[.string m1.name, .int .i64 m1.typ, .int .i64 m1.lasts, .int .i64 m1.addr, .string m1.text, .int .i64 m1.port, .string m1.target]) (.agg #[.string m2.name, .int .i64 m2.typ, .int .i64 m2.lasts, .int .i64 m2.addr, .string m2.text, .int .i64 m2.port, .string m2.target])) w = .ok (.bool (sameM m1 m2)) w := by
  rw [run_eql_struct, eqInE]
  rfl

end Rc
end Go.Proofs.YtignmeaeibaejaaGreat

/- Records are checked. -/
namespace Go.Proofs.YtignmeaeibaejaaGreat
open Go.RowKit

def ownB (r : Rc.Rec) : Bool := (decide (r.typ = 1) || decide (r.addr = 0)) && ((decide (r.typ = 16) || decide (r.text.size = 0)) && (decide (r.typ = 33) || (decide (r.port = 0) && decide (r.target.size = 0))))
/-- What CheckRecord says. -/
def chkRec (r : Rc.Rec) : Int :=
  if chkN r.name ≠ 0 then chkN r.name
  else if typB r.typ = false then 7
  else if within r.lasts 0 2147483647 = false then 3
  else if ownB r = false then 1
  else if (within r.addr 0 4294967295 && within r.port 0 65535) = false then 3
  else if 200 < r.text.size then 2
  else chkN r.target

theorem ownF_name (r : Rc.Rec) : (ownF r).name = r.name := by unfold ownF; split; rfl; split; rfl; split <;> rfl
theorem ownF_typ (r : Rc.Rec) : (ownF r).typ = r.typ := by unfold ownF; split; rfl; split; rfl; split <;> rfl
theorem ownF_lasts (r : Rc.Rec) : (ownF r).lasts = r.lasts := by unfold ownF; split; rfl; split; rfl; split <;> rfl

theorem emp_iff (s : ByteArray) : s = ⟨#[]⟩ ↔ s.size = 0 := ⟨fun h => by rw [h]; rfl, isempty⟩
theorem own_same (r : Rc.Rec) : Rc.sameM r (ownF r) = ownB r := by
  rw [Bool.eq_iff_iff, Rc.sameM_iff]
  obtain ⟨name, typ, lasts, addr, text, port, target⟩ := r
  unfold ownF ownB
  simp only
  by_cases h1 : typ = 1
  · subst h1; simp [emp_iff]
  rw [if_neg h1]
  by_cases h2 : typ = 16
  · subst h2; simp [emp_iff]
  rw [if_neg h2]
  by_cases h3 : typ = 33
  · subst h3; simp [emp_iff]
  rw [if_neg h3]
  simp [h1, h2, h3, emp_iff]

end Go.Proofs.YtignmeaeibaejaaGreat

/- A message is checked. -/
namespace Go.Proofs.YtignmeaeibaejaaGreat
open Go.RowKit

def chkRs : List Rc.Rec → Int
  | [] => 0
  | r :: t => if chkRec r = 0 then chkRs t else chkRec r
/-- What CheckMessage says. -/
def chkMsg (id code typ : Int) (name : ByteArray) (rs : List Rc.Rec) : Int :=
  if (within id 0 65535 && within code 0 15) = false then 3
  else if 20 < rs.length then 2
  else if chkN name ≠ 0 then chkN name
  else if typB typ = false then 7
  else chkRs rs

theorem chkRs_step {rs : List Rc.Rec} {k : Nat} (h : k < rs.length) (he : chkRs rs = chkRs (rs.drop k)) : chkRs rs = if chkRec (rs.getD k Rc.dm) = 0 then chkRs (rs.drop (k + 1)) else chkRec (rs.getD k Rc.dm) := by
  rw [he, List.drop_eq_getElem_cons h, chkRs, show rs.getD k Rc.dm = rs[k] by simp [List.getD, List.getElem?_eq_getElem h]]

end Go.Proofs.YtignmeaeibaejaaGreat

/- The document's CheckRecord, CheckMessage. -/
namespace Go.Proofs.YtignmeaeibaejaaGreat
open Go.RowKit

set_option maxHeartbeats 800000 in
theorem isType_any (n : Int) (w : World) :
    Calls Tryz.prog 14 #[.int .i64 n] w fun e w' => e = .returned (.bool (typB n)) ∧ w' = w := by
  go_enter Tryz.func14, Tryz.ntmps14
  go_wp2
  all_goals
    go_ret
    exact ⟨ret_bool (by rw [Bool.eq_iff_iff]; simp [typB]; try omega), rfl⟩

end Go.Proofs.YtignmeaeibaejaaGreat

/- The document's Records, whole. -/
namespace Go.Proofs.YtignmeaeibaejaaGreat
open Go.RowKit

theorem find_sub {sv : List Sv.Svc} {name tag : ByteArray} (h : Sv.findL sv name tag ≠ []) : Sv.findL sv name ⟨#[]⟩ ≠ [] := fun h2 => by
  obtain ⟨x, hx⟩ := List.exists_mem_of_ne_nil _ h
  have h3 := List.mem_filter.1 hx
  have h4 : x ∈ Sv.findL sv name ⟨#[]⟩ := List.mem_filter.2 ⟨h3.1, by
    have h5 := h3.2
    unfold Sv.keep at h5 ⊢
    simp only [Bool.and_eq_true] at h5 ⊢
    exact ⟨⟨⟨h5.1.1.1, by rw [Lib.toList_data]; rfl⟩, h5.1.2⟩, h5.2⟩⟩
  rw [h2] at h4
  simp at h4
theorem ret3_post {w W : World} {A : Ans} {v : Value} {a : Act} (h : Ret3 v A.code A.e a) (ho : Rc.Own w.heap.size W v A.rs) (hb : Below w.heap.size w W) : bodyPost Tryz.prog Tryz.f6 (fun e w' => ∃ v, e = .returned (.tuple #[v, .int .i64 A.code, .int .i64 A.e]) ∧ Rc.Own w.heap.size w' v A.rs ∧ Below w.heap.size w w') .ret a W := by
  obtain ⟨hd, h1, h2, h3⟩ := h
  refine bodyPost_ret (results_tmp3 rfl _ _ _) hd ⟨v, ?_, ho, hb⟩
  rw [h1, h2, h3]

set_option maxHeartbeats 12800000 in
set_option maxRecDepth 1000000 in
theorem refRecords_any (here : ByteArray) (ps pm pw : Option Addr) (ns cs nm cm nw cw : Nat) (px py pz ph pq : Int) (q : Qu) (t : Int) (sv : List Sv.Svc) (ms : List Mem) (wh : List Wh.Whe) (w : World) (hq : q.ok) (hh : here.size ≤ maxLen) (hs : Sv.Sl w (.slice ps ns cs) sv) (hm : Sl w (.slice pm nm cm) ms) (hw : Wh.Sl w (.slice pw nw cw) wh) :
    Calls Tryz.prog 6 #[.agg #[.string q.service, .string q.tag, .string q.node, .string q.centre], .int .i64 t, .string here, .slice ps ns cs, .slice pm nm cm, .agg #[.int .i64 px, .int .i64 py, .int .i64 pz, .int .i64 ph, .int .i64 pq], .slice pw nw cw] w fun e w' => ∃ v, e = .returned (.tuple #[v, .int .i64 (anR q t here sv ms ⟨px, py, pz, ph, pq⟩ wh).code, .int .i64 (anR q t here sv ms ⟨px, py, pz, ph, pq⟩ wh).e]) ∧ Rc.Own w.heap.size w' v (anR q t here sv ms ⟨px, py, pz, ph, pq⟩ wh).rs ∧ Below w.heap.size w w' := by
  have HS : Hid (Sv.Sl w (.slice ps ns cs) sv) := hs
  have HM : Hid (Sl w (.slice pm nm cm) ms) := hm
  have HW : Hid (Wh.Sl w (.slice pw nw cw) wh) := hw
  have HCQ : Hid (∀ W, Calls Tryz.prog 13 #[.agg #[.string q.service, .string q.tag, .string q.node, .string q.centre]] W fun e w' => e = .returned (.int .i64 (chkQ q)) ∧ Below W.heap.size W w') := fun W => rCheckQ_any q W hq
  have HCT : Hid (∀ W, Calls Tryz.prog 14 #[.int .i64 t] W fun e w' => e = .returned (.bool (typB t)) ∧ w' = W) := fun W => isType_any t W
  have HCK : Hid (∀ W, Sv.Sl W (.slice ps ns cs) sv → Sl W (.slice pm nm cm) ms → Wh.Sl W (.slice pw nw cw) wh → Calls Tryz.prog 15 #[.string here, .slice ps ns cs, .slice pm nm cm, .agg #[.int .i64 px, .int .i64 py, .int .i64 pz, .int .i64 ph, .int .i64 pq], .slice pw nw cw] W fun e w' => e = .returned (.int .i64 (knE here sv ms ⟨px, py, pz, ph, pq⟩ wh)) ∧ Below W.heap.size W w') := fun W a1 a2 a3 => refKnown_any here ps pm pw ns cs nm cm nw cw px py pz ph pq sv ms wh W hh a1 a2 a3
  have HCP : Hid (∀ W, Calls Tryz.prog 16 #[.agg #[.string q.service, .string q.tag, .string q.node, .string q.centre]] W fun e w' => e = .returned (.tuple #[.string (prS q), .int .i64 (prE q)]) ∧ Below W.heap.size W w') := fun W => printOf_any q W hq
  have HKO : Hid (knE here sv ms ⟨px, py, pz, ph, pq⟩ wh = 0 → KnOk here sv ms ⟨px, py, pz, ph, pq⟩ wh) := knOk
  have HR1 : Hid (chkQ q ≠ 0 → anR q t here sv ms ⟨px, py, pz, ph, pq⟩ wh = ⟨[], 0, chkQ q⟩) := fun h => by unfold anR asE; rw [if_neg h, if_neg h]
  have HR2 : Hid (chkQ q = 0 → typB t = false → anR q t here sv ms ⟨px, py, pz, ph, pq⟩ wh = ⟨[], 0, 7⟩) := fun h h2 => by unfold anR asE; rw [if_pos h, h2]; rfl
  have HR3 : Hid (chkQ q = 0 → typB t = true → knE here sv ms ⟨px, py, pz, ph, pq⟩ wh ≠ 0 → anR q t here sv ms ⟨px, py, pz, ph, pq⟩ wh = ⟨[], 0, knE here sv ms ⟨px, py, pz, ph, pq⟩ wh⟩) := fun h h2 h3 => by unfold anR asE; rw [if_pos h, if_pos h2, if_pos rfl, if_neg h3]
  have HR4 : Hid (chkQ q = 0 → typB t = true → knE here sv ms ⟨px, py, pz, ph, pq⟩ wh = 0 → anR q t here sv ms ⟨px, py, pz, ph, pq⟩ wh = anS q t here sv ms ⟨px, py, pz, ph, pq⟩ wh) := fun h h2 h3 => by unfold anR asE; rw [if_pos h, if_pos h2, if_pos rfl, if_pos h3]
  have HS0 : Hid (prE q ≠ 0 → anS q t here sv ms ⟨px, py, pz, ph, pq⟩ wh = ⟨[], 0, prE q⟩) := fun h => by unfold anS; rw [if_neg h]
  have HS1 : Hid (prE q = 0 → q.centre.size ≠ 0 → q.centre ≠ here → anS q t here sv ms ⟨px, py, pz, ph, pq⟩ wh = ⟨[], 3, 0⟩) := fun h h1 h2 => by unfold anS; rw [if_pos h, if_pos ⟨h1, h2⟩]
  have HS2 : Hid (prE q = 0 → ¬ (q.centre.size ≠ 0 ∧ q.centre ≠ here) → q.node.size ≠ 0 → anS q t here sv ms ⟨px, py, pz, ph, pq⟩ wh = ofNd q t ms) := fun h h1 h2 => by unfold anS; rw [if_pos h, if_neg h1, if_pos h2]
  have HS3 : Hid (prE q = 0 → ¬ (q.centre.size ≠ 0 ∧ q.centre ≠ here) → q.node.size = 0 → anS q t here sv ms ⟨px, py, pz, ph, pq⟩ wh = ofSv q t here sv ms ⟨px, py, pz, ph, pq⟩ wh) := fun h h1 h2 => by unfold anS; rw [if_pos h, if_neg h1, if_neg (by omega)]
  clear hs hm hw
  generalize hAA : anR q t here sv ms ⟨px, py, pz, ph, pq⟩ wh = A at *
  clear hAA
  obtain ⟨qs, qt, qn, qc⟩ := q
  simp only at *
  have HPS : Hid (prS ⟨qs, qt, qn, qc⟩ = prS ⟨qs, qt, qn, qc⟩) := rfl
  generalize hQQ : (⟨qs, qt, qn, qc⟩ : Qu) = QQ at *
  have HQQ : Hid ((⟨qs, qt, qn, qc⟩ : Qu) = QQ) := hQQ
  clear hQQ HPS hq
  generalize hce : chkQ QQ = ce at *
  generalize hke : knE here sv ms ⟨px, py, pz, ph, pq⟩ wh = ke at *
  generalize hpe : prE QQ = pe at *
  clear hce hke hpe
  go_enter Tryz.func6, Tryz.ntmps6
  go_wp2_with fail
  obtain ⟨X, hX⟩ : ∃ X, X = (w.alloc (.cells #[.string qs, .string qt, .string qn, .string qc] 23)).alloc (.cells #[.int .i64 px, .int .i64 py, .int .i64 pz, .int .i64 ph, .int .i64 pq] 27) := ⟨_, rfl⟩
  rw [← hX]
  have HBX : Hid (Below w.heap.size w X) := by rw [hX]; exact ((Below.refl _ _).alloc (Nat.le_refl _) _).alloc (by simp) _
  have HGQ : Hid (X.heap[w.heap.size]? = some (.cells #[.string qs, .string qt, .string qn, .string qc] 23 (0, 0))) := by rw [hX, Below.heap_alloc _ _ _ (by simp)]; exact heap_alloc_new w _
  have hG1 : X.heap[w.heap.size + 1]? = some (.cells #[.int .i64 px, .int .i64 py, .int .i64 pz, .int .i64 ph, .int .i64 pq] 27 (0, 0)) := by
    rw [hX]
    have h := heap_alloc_new (w.alloc (.cells #[.string qs, .string qt, .string qn, .string qc] 23)) (.cells #[.int .i64 px, .int .i64 py, .int .i64 pz, .int .i64 ph, .int .i64 pq] 27)
    simpa using h
  have HGP : Hid _ := hG1
  have hsX : w.heap.size + 2 ≤ X.heap.size := by rw [hX]; simp
  clear hX hG1
  refine (HCQ.out X).mono ?_
  rintro e w1 ⟨rfl, hb1⟩
  have hs1 := hb1.size
  have HB1 : Hid (Below X.heap.size X w1) := hb1
  have HW1 : Hid (Below w.heap.size w w1) := HBX.out.trans (hb1.mono (by omega))
  clear hb1
  by_cases h1 : ce = 0
  · have HR2' : Hid (typB t = false → A = ⟨[], 0, 7⟩) := HR2.out h1
    have HR3' : Hid (typB t = true → ke ≠ 0 → A = ⟨[], 0, ke⟩) := HR3.out h1
    have HR4' : Hid (typB t = true → ke = 0 → A = anS QQ t here sv ms ⟨px, py, pz, ph, pq⟩ wh) := HR4.out h1
    clear HR1 HR2 HR3 HR4
    subst h1
    generalize typB t = tb at *
    go_wp2_with fail
    refine (HCT.out _).mono ?_
    rintro e w2 ⟨rfl, rfl⟩
    cases tb
    · have HR : Hid (A = ⟨[], 0, 7⟩) := HR2'.out rfl
      go_wp2_with fail
      go_ret3
      exact ⟨.slice none 0 0, by rw [HR.out]; rfl, by rw [HR.out]; exact Rc.own_nil _ _, HW1.out⟩
    · have HR3'' : Hid (ke ≠ 0 → A = ⟨[], 0, ke⟩) := HR3'.out rfl
      have HR4'' : Hid (ke = 0 → A = anS QQ t here sv ms ⟨px, py, pz, ph, pq⟩ wh) := HR4'.out rfl
      clear HR2' HR3' HR4'
      have hgq : w2.heap[w.heap.size]? = some (.cells #[.string qs, .string qt, .string qn, .string qc] 23 (0, 0)) := (HB1.out.block _ (by omega)).trans HGQ.out
      have hgp : w2.heap[w.heap.size + 1]? = some (.cells #[.int .i64 px, .int .i64 py, .int .i64 pz, .int .i64 ph, .int .i64 pq] 27 (0, 0)) := (HB1.out.block _ (by omega)).trans HGP.out
      have q0 : w2.cell? ⟨w.heap.size, 0, none⟩ = some (.string qs) := cellsAt hgq 0
      have q1 : w2.cell? ⟨w.heap.size, 1, none⟩ = some (.string qt) := cellsAt hgq 1
      have q2 : w2.cell? ⟨w.heap.size, 2, none⟩ = some (.string qn) := cellsAt hgq 2
      have q3 : w2.cell? ⟨w.heap.size, 3, none⟩ = some (.string qc) := cellsAt hgq 3
      have p0 : w2.cell? ⟨w.heap.size + 1, 0, none⟩ = some (.int .i64 px) := cellsAt hgp 0
      have p1 : w2.cell? ⟨w.heap.size + 1, 1, none⟩ = some (.int .i64 py) := cellsAt hgp 1
      have p2 : w2.cell? ⟨w.heap.size + 1, 2, none⟩ = some (.int .i64 pz) := cellsAt hgp 2
      have p3 : w2.cell? ⟨w.heap.size + 1, 3, none⟩ = some (.int .i64 ph) := cellsAt hgp 3
      have p4 : w2.cell? ⟨w.heap.size + 1, 4, none⟩ = some (.int .i64 pq) := cellsAt hgp 4
      clear hgq hgp
      go_wp2_with fail
      refine (HCK.out _ (HS.out.below HW1.out) (HM.out.below HW1.out) (HW.out.below HW1.out)).mono ?_
      rintro e w3 ⟨rfl, hb3⟩
      have hs3 := hb3.size
      have HB3 : Hid (Below X.heap.size X w3) := HB1.out.trans (hb3.mono hs1)
      have HW3 : Hid (Below w.heap.size w w3) := HW1.out.trans (hb3.mono (by omega))
      clear hb3
      clear q0 q1 q2 q3 p0 p1 p2 p3 p4
      by_cases h3 : ke = 0
      · have HR : Hid (A = anS QQ t here sv ms ⟨px, py, pz, ph, pq⟩ wh) := HR4''.out h3
        have HK : Hid (KnOk here sv ms ⟨px, py, pz, ph, pq⟩ wh) := HKO.out h3
        clear HR3'' HR4'' HKO
        subst h3
        have hgq : w3.heap[w.heap.size]? = some (.cells #[.string qs, .string qt, .string qn, .string qc] 23 (0, 0)) := (HB3.out.block _ (by omega)).trans HGQ.out
        have hgp : w3.heap[w.heap.size + 1]? = some (.cells #[.int .i64 px, .int .i64 py, .int .i64 pz, .int .i64 ph, .int .i64 pq] 27 (0, 0)) := (HB3.out.block _ (by omega)).trans HGP.out
        have q0 : w3.cell? ⟨w.heap.size, 0, none⟩ = some (.string qs) := cellsAt hgq 0
        have q1 : w3.cell? ⟨w.heap.size, 1, none⟩ = some (.string qt) := cellsAt hgq 1
        have q2 : w3.cell? ⟨w.heap.size, 2, none⟩ = some (.string qn) := cellsAt hgq 2
        have q3 : w3.cell? ⟨w.heap.size, 3, none⟩ = some (.string qc) := cellsAt hgq 3
        have p0 : w3.cell? ⟨w.heap.size + 1, 0, none⟩ = some (.int .i64 px) := cellsAt hgp 0
        have p1 : w3.cell? ⟨w.heap.size + 1, 1, none⟩ = some (.int .i64 py) := cellsAt hgp 1
        have p2 : w3.cell? ⟨w.heap.size + 1, 2, none⟩ = some (.int .i64 pz) := cellsAt hgp 2
        have p3 : w3.cell? ⟨w.heap.size + 1, 3, none⟩ = some (.int .i64 ph) := cellsAt hgp 3
        have p4 : w3.cell? ⟨w.heap.size + 1, 4, none⟩ = some (.int .i64 pq) := cellsAt hgp 4
        clear hgq hgp
        go_wp2_with fail
        refine Calls.mono (HCP.out w3) ?_
        rintro e w4 ⟨rfl, hb4⟩
        have hs4 := hb4.size
        have HB4 : Hid (Below X.heap.size X w4) := HB3.out.trans (hb4.mono (by omega))
        have HW4 : Hid (Below w.heap.size w w4) := HW3.out.trans (hb4.mono (by omega))
        clear hb4
        clear q0 q1 q2 q3 p0 p1 p2 p3 p4
        by_cases h4 : pe = 0
        · have HS1' : Hid (qc.size ≠ 0 → qc ≠ here → anS QQ t here sv ms ⟨px, py, pz, ph, pq⟩ wh = ⟨[], 3, 0⟩) := by rw [← HQQ.out] at HS1 ⊢; exact HS1.out h4
          have HS2' : Hid (¬ (qc.size ≠ 0 ∧ qc ≠ here) → qn.size ≠ 0 → anS QQ t here sv ms ⟨px, py, pz, ph, pq⟩ wh = ofNd QQ t ms) := by rw [← HQQ.out] at HS2 ⊢; exact HS2.out h4
          have HS3' : Hid (¬ (qc.size ≠ 0 ∧ qc ≠ here) → qn.size = 0 → anS QQ t here sv ms ⟨px, py, pz, ph, pq⟩ wh = ofSv QQ t here sv ms ⟨px, py, pz, ph, pq⟩ wh) := by rw [← HQQ.out] at HS3 ⊢; exact HS3.out h4
          clear HS0 HS1 HS2 HS3
          subst h4
          have hgq : w4.heap[w.heap.size]? = some (.cells #[.string qs, .string qt, .string qn, .string qc] 23 (0, 0)) := (HB4.out.block _ (by omega)).trans HGQ.out
          have hgp : w4.heap[w.heap.size + 1]? = some (.cells #[.int .i64 px, .int .i64 py, .int .i64 pz, .int .i64 ph, .int .i64 pq] 27 (0, 0)) := (HB4.out.block _ (by omega)).trans HGP.out
          have q0 : w4.cell? ⟨w.heap.size, 0, none⟩ = some (.string qs) := cellsAt hgq 0
          have q1 : w4.cell? ⟨w.heap.size, 1, none⟩ = some (.string qt) := cellsAt hgq 1
          have q2 : w4.cell? ⟨w.heap.size, 2, none⟩ = some (.string qn) := cellsAt hgq 2
          have q3 : w4.cell? ⟨w.heap.size, 3, none⟩ = some (.string qc) := cellsAt hgq 3
          have p0 : w4.cell? ⟨w.heap.size + 1, 0, none⟩ = some (.int .i64 px) := cellsAt hgp 0
          have p1 : w4.cell? ⟨w.heap.size + 1, 1, none⟩ = some (.int .i64 py) := cellsAt hgp 1
          have p2 : w4.cell? ⟨w.heap.size + 1, 2, none⟩ = some (.int .i64 pz) := cellsAt hgp 2
          have p3 : w4.cell? ⟨w.heap.size + 1, 3, none⟩ = some (.int .i64 ph) := cellsAt hgp 3
          have p4 : w4.cell? ⟨w.heap.size + 1, 4, none⟩ = some (.int .i64 pq) := cellsAt hgp 4
          clear hgq hgp
          generalize hps : prS QQ = name at *
          have HPS : Hid (prS QQ = name) := hps
          clear hps
          by_cases hc : qc.size ≠ 0 ∧ qc ≠ here
          · have HR2 : Hid (A = ⟨[], 3, 0⟩) := HR.out.trans (HS1'.out hc.1 hc.2)
            obtain ⟨e1, e2⟩ := nempty hc.1
            obtain ⟨e3, e4⟩ := beq_name hc.2
            clear hc
            go_wp2_with fail
            go_ret3
            exact ⟨.slice none 0 0, by rw [HR2.out]; rfl, by rw [HR2.out]; exact Rc.own_nil _ _, HW4.out⟩
          · have hcc : ((qc.toList == []) = true ∧ qc.toList = []) ∨ ((qc.toList == []) = false ∧ ¬ qc.toList = [] ∧ (qc.toList == here.toList) = true ∧ qc.toList = here.toList) := by
              by_cases h : qc.size = 0
              · have e := isempty h
                have h2 : qc.toList = [] := by rw [e, Lib.toList_data]
                exact .inl ⟨by rw [h2]; rfl, h2⟩
              · have e : qc = here := by
                  by_cases e : qc = here
                  · exact e
                  · exact absurd ⟨h, e⟩ hc
                exact .inr ⟨(nempty h).1, (nempty h).2, by rw [e]; simp, by rw [e]⟩
            have HS2'' : Hid (qn.size ≠ 0 → anS QQ t here sv ms ⟨px, py, pz, ph, pq⟩ wh = ofNd QQ t ms) := HS2'.out hc
            have HS3'' : Hid (qn.size = 0 → anS QQ t here sv ms ⟨px, py, pz, ph, pq⟩ wh = ofSv QQ t here sv ms ⟨px, py, pz, ph, pq⟩ wh) := HS3'.out hc
            clear HS1' HS2' HS3' hc
            by_cases hnz : qn.size = 0
            · have HR2 : Hid (A = ofSv QQ t here sv ms ⟨px, py, pz, ph, pq⟩ wh) := HR.out.trans (HS3''.out hnz)
              have g4 : qn.toList = [] := by rw [isempty hnz, Lib.toList_data]
              have g3 : (qn.toList == []) = true := by rw [g4]; rfl
              clear g4 HS2'' HS3'' hnz
              have hsl : sv.length ≤ 40 := (Sv.chk_zero HK.out.sv).1
              have HF2 : Hid (∀ W, Sv.Sl W (.slice ps ns cs) sv → Calls Tryz.prog 17 #[.slice ps ns cs, .string qs, .string qt] W fun e w' => ∃ v', e = .returned v' ∧ Sv.Own W.heap.size w' v' (Sv.findL sv qs qt) ∧ Below W.heap.size W w') := fun W h => Sv.refFind_any sv _ qs qt W h hsl
              have HF0 : Hid (∀ W, Sv.Sl W (.slice ps ns cs) sv → Calls Tryz.prog 17 #[.slice ps ns cs, .string qs, .string ⟨#[]⟩] W fun e w' => ∃ v', e = .returned v' ∧ Sv.Own W.heap.size w' v' (Sv.findL sv qs ⟨#[]⟩) ∧ Below W.heap.size W w') := fun W h => Sv.refFind_any sv _ qs ⟨#[]⟩ W h hsl
              have hfl : (Sv.findL sv qs qt).length ≤ 40 := by have h1 := Sv.findL_len sv qs qt; omega
              have HFO : Hid (∀ x ∈ Sv.findL sv qs qt, x.ok) := Sv.findL_ok (by obtain ⟨_, _, _, h, _⟩ := HS.out; exact Sv.ns_mem h)
              have HUP : Hid (nodesR (liveL ms (Sv.findL sv qs qt)) = nodesP (liveL ms (Sv.findL sv qs qt))) := nodes_eq _ (live_up (find_up _ _ HK.out.sv))
              have HNR : Hid (nearL ⟨px, py, pz, ph, pq⟩ wh ms (Sv.findL sv qs qt) = (allN (srt ⟨px, py, pz, ph, pq⟩ wh (nodesP (liveL ms (Sv.findL sv qs qt)))) (Sv.findL sv qs qt)).take 20) := near_found
              have HA1 : Hid (Sv.findL sv qs ⟨#[]⟩ = [] → ofSv QQ t here sv ms ⟨px, py, pz, ph, pq⟩ wh = ⟨[], 3, 0⟩) := fun h => by rw [← HQQ.out]; unfold ofSv; rw [if_pos h]
              have HA2 : Hid (Sv.findL sv qs ⟨#[]⟩ ≠ [] → recsE here t (nearL ⟨px, py, pz, ph, pq⟩ wh ms (Sv.findL sv qs qt)) = 0 → ofSv QQ t here sv ms ⟨px, py, pz, ph, pq⟩ wh = ⟨(nearL ⟨px, py, pz, ph, pq⟩ wh ms (Sv.findL sv qs qt)).map (rec1 name here t), 0, 0⟩) := fun h h2 => by rw [← HPS.out, ← HQQ.out]; unfold ofSv; rw [if_neg h, if_pos h2]
              have HA3 : Hid (Sv.findL sv qs ⟨#[]⟩ ≠ [] → recsE here t (nearL ⟨px, py, pz, ph, pq⟩ wh ms (Sv.findL sv qs qt)) ≠ 0 → ofSv QQ t here sv ms ⟨px, py, pz, ph, pq⟩ wh = ⟨[], 0, recsE here t (nearL ⟨px, py, pz, ph, pq⟩ wh ms (Sv.findL sv qs qt))⟩) := fun h h2 => by rw [← HQQ.out]; unfold ofSv; rw [if_neg h, if_neg h2]
              have HSUB : Hid (Sv.findL sv qs qt ≠ [] → Sv.findL sv qs ⟨#[]⟩ ≠ []) := find_sub
              obtain ⟨hwl, hokp, hokw⟩ := HK.out.okP
              have HSO : Hid (∀ (vn : Value) W ns', ns'.length ≤ 100 → Wh.Sl W (.slice pw nw cw) wh → TSl W vn ns' → Calls Tryz.prog 18 #[.agg #[.int .i64 px, .int .i64 py, .int .i64 pz, .int .i64 ph, .int .i64 pq], .slice pw nw cw, vn] W fun e w' => ∃ v', e = .returned v' ∧ TSl w' v' (srt ⟨px, py, pz, ph, pq⟩ wh ns') ∧ Below W.heap.size W w') := fun vn W ns' h1 h2 h3 => sortOf_any ⟨px, py, pz, ph, pq⟩ wh _ vn ns' W h2 h3 hwl h1 hokp hokw
              have HOKF : Hid (∀ s ∈ nodesP (liveL ms (Sv.findL sv qs qt)), s.size ≤ maxLen) := fun s hs => by
                obtain ⟨x, hx, e⟩ := (nodesP_mem _ s).1 hs
                rw [← e]
                exact (HFO.out x (List.mem_filter.1 hx).1).1
              have hnl : (nodesP (liveL ms (Sv.findL sv qs qt))).length ≤ 100 := by have h1 := nodesP_len (liveL ms (Sv.findL sv qs qt)); have h2 := live_len ms (Sv.findL sv qs qt); omega
              have hsl2 : (srt ⟨px, py, pz, ph, pq⟩ wh (nodesP (liveL ms (Sv.findL sv qs qt)))).length ≤ 100 := by rw [srt_len]; exact hnl
              clear hokp hokw hwl hsl
              generalize nearL ⟨px, py, pz, ph, pq⟩ wh ms (Sv.findL sv qs qt) = NL at *
              generalize Sv.findL sv qs qt = FL at *
              generalize Sv.findL sv qs ⟨#[]⟩ = F0 at *
              rcases hcc with ⟨g1, -⟩ | ⟨g1, g2, g5, -⟩
              all_goals
                go_wp2_with fail
                refine Calls.mono (HF2.out w4 (HS.out.below HW4.out)) ?_
                rintro e w5 ⟨v5, rfl, ho5, hb5⟩
                obtain ⟨pf, cf, rfl⟩ := svown_slice ho5
                have hs5 := hb5.size
                have HB5 : Hid (Below X.heap.size X w5) := HB4.out.trans (hb5.mono (by omega))
                have HW5 : Hid (Below w.heap.size w w5) := HW4.out.trans (hb5.mono (by omega))
                have HFX : Hid (Sv.Sl w5 (.slice pf FL.length cf) FL) := Sv.own_names ho5 HFO.out
                clear ho5 hb5
                clear q0 q1 q2 q3 p0 p1 p2 p3 p4
                generalize hnn : FL.length = n at *
                have HNN : Hid (FL.length = n) := hnn
                clear hnn
                go_upto_block 0 with fail
                refine rloop1 ms FL pm pf nm cm n cf w5 HK.out.ms hfl HUP (HM.out.below HW5.out) HFX HNN _ ?_
                intro _ _ _ _ _ _ _ _ _ _ _ _ _ _ _ _ _ _ _ _ _ _ _ _ _ _ _ _ _ _ _ _ _ _ _ _ _ _ _ _ _ _ _ _ _ _ _ _ _ _ vn w6 ho6 hb6
                have hs6 := hb6.out.size
                have HB6 : Hid (Below X.heap.size X w6) := HB5.out.trans (hb6.out.mono (by omega))
                have HW6 : Hid (Below w.heap.size w w6) := HW5.out.trans (hb6.out.mono (by omega))
                have HF6 : Hid (Sv.Sl w6 (.slice pf n cf) FL) := HFX.out.below hb6.out
                have HTS : Hid (TSl w6 vn (nodesP (liveL ms FL))) := own_tsl' ho6.out HOKF.out
                clear ho6 hb6
                have hgq : w6.heap[w.heap.size]? = some (.cells #[.string qs, .string qt, .string qn, .string qc] 23 (0, 0)) := (HB6.out.block _ (by omega)).trans HGQ.out
                have hgp : w6.heap[w.heap.size + 1]? = some (.cells #[.int .i64 px, .int .i64 py, .int .i64 pz, .int .i64 ph, .int .i64 pq] 27 (0, 0)) := (HB6.out.block _ (by omega)).trans HGP.out
                have q0 : w6.cell? ⟨w.heap.size, 0, none⟩ = some (.string qs) := cellsAt hgq 0
                have q1 : w6.cell? ⟨w.heap.size, 1, none⟩ = some (.string qt) := cellsAt hgq 1
                have q2 : w6.cell? ⟨w.heap.size, 2, none⟩ = some (.string qn) := cellsAt hgq 2
                have q3 : w6.cell? ⟨w.heap.size, 3, none⟩ = some (.string qc) := cellsAt hgq 3
                have p0 : w6.cell? ⟨w.heap.size + 1, 0, none⟩ = some (.int .i64 px) := cellsAt hgp 0
                have p1 : w6.cell? ⟨w.heap.size + 1, 1, none⟩ = some (.int .i64 py) := cellsAt hgp 1
                have p2 : w6.cell? ⟨w.heap.size + 1, 2, none⟩ = some (.int .i64 pz) := cellsAt hgp 2
                have p3 : w6.cell? ⟨w.heap.size + 1, 3, none⟩ = some (.int .i64 ph) := cellsAt hgp 3
                have p4 : w6.cell? ⟨w.heap.size + 1, 4, none⟩ = some (.int .i64 pq) := cellsAt hgp 4
                clear hgq hgp
                go_wp2_with fail
                refine Calls.mono (HSO.out vn w6 (nodesP (liveL ms FL)) hnl (HW.out.below HW6.out) HTS.out) ?_
                rintro e Y ⟨v7, rfl, hts, hb7⟩
                have hs7 := hb7.size
                have HTY : Hid (TSl Y v7 (srt ⟨px, py, pz, ph, pq⟩ wh (nodesP (liveL ms FL)))) := hts
                obtain ⟨pn, cn, hv7, -, -⟩ := hts
                subst hv7
                have HB7 : Hid (Below X.heap.size X Y) := HB6.out.trans (hb7.mono (by omega))
                have HW7 : Hid (Below w.heap.size w Y) := HW6.out.trans (hb7.mono (by omega))
                have HF7 : Hid (Sv.Sl Y (.slice pf n cf) FL) := HF6.out.below hb7
                clear hb7 HF6 HTS
                clear q0 q1 q2 q3 p0 p1 p2 p3 p4
                generalize hsr : srt ⟨px, py, pz, ph, pq⟩ wh (nodesP (liveL ms FL)) = SL at *
                have HSR : Hid (NL = (allN SL FL).take 20) := HNR
                clear hsr
                generalize hmm : SL.length = m at *
                have HMM : Hid (SL.length = m) := hmm
                clear hmm
                go_upto_block 2 with fail
                refine rloop2 name here t FL NL SL pf pn n cf m cn Y hh hfl hsl2 HSR HF7 HTY HNN HMM _ ?hN ?hE
                case hE =>
                  intro a W hret hz hne hb
                  have HA : A = ⟨[], 0, recsE here t NL⟩ := HR2.out.trans (HA3.out (HSUB.out hne) hz)
                  exact ret3_post (v := .slice none 0 0) (by rw [HA]; exact hret) (by rw [HA]; exact Rc.own_nil _ _) (HW7.out.trans (hb.mono (by omega)))
                case hN =>
                  intro _ _ _ _ _ _ _ _ _ _ _ _ _ _ _ _ _ _ _ _ _ _ _ _ _ _ _ _ _ _ _ _ _ _ _ _ _ _ _ _ _ _ _ _ _ _ _ _ _ _ _ _ _ _ _ _ _ _ _ _ _ _ _ _ _ _ _ _ _ _ _ _ _ _ _ _ _ _ _ _ vo w8 ho8 hz8 hb8
                  have hs8 := hb8.out.size
                  have HB8 : Hid (Below X.heap.size X w8) := HB7.out.trans (hb8.out.mono (by omega))
                  have HW8 : Hid (Below w.heap.size w w8) := HW7.out.trans (hb8.out.mono (by omega))
                  have HO8 : Hid (Rc.Own w.heap.size w8 vo (NL.map (rec1 name here t))) := ho8.out.mono (by omega)
                  clear ho8 hb8
                  have hgq : w8.heap[w.heap.size]? = some (.cells #[.string qs, .string qt, .string qn, .string qc] 23 (0, 0)) := (HB8.out.block _ (by omega)).trans HGQ.out
                  have hgp : w8.heap[w.heap.size + 1]? = some (.cells #[.int .i64 px, .int .i64 py, .int .i64 pz, .int .i64 ph, .int .i64 pq] 27 (0, 0)) := (HB8.out.block _ (by omega)).trans HGP.out
                  have q0 : w8.cell? ⟨w.heap.size, 0, none⟩ = some (.string qs) := cellsAt hgq 0
                  have q1 : w8.cell? ⟨w.heap.size, 1, none⟩ = some (.string qt) := cellsAt hgq 1
                  have q2 : w8.cell? ⟨w.heap.size, 2, none⟩ = some (.string qn) := cellsAt hgq 2
                  have q3 : w8.cell? ⟨w.heap.size, 3, none⟩ = some (.string qc) := cellsAt hgq 3
                  have p0 : w8.cell? ⟨w.heap.size + 1, 0, none⟩ = some (.int .i64 px) := cellsAt hgp 0
                  have p1 : w8.cell? ⟨w.heap.size + 1, 1, none⟩ = some (.int .i64 py) := cellsAt hgp 1
                  have p2 : w8.cell? ⟨w.heap.size + 1, 2, none⟩ = some (.int .i64 pz) := cellsAt hgp 2
                  have p3 : w8.cell? ⟨w.heap.size + 1, 3, none⟩ = some (.int .i64 ph) := cellsAt hgp 3
                  have p4 : w8.cell? ⟨w.heap.size + 1, 4, none⟩ = some (.int .i64 pq) := cellsAt hgp 4
                  clear hgq hgp
                  go_wp2_with fail
                  refine Calls.mono (HF0.out w8 (HS.out.below HW8.out)) ?_
                  rintro e w9 ⟨v9, rfl, ho9, hb9⟩
                  obtain ⟨p9, c9, rfl⟩ := svown_slice ho9
                  have HW9 : Hid (Below w.heap.size w w9) := HW8.out.trans (hb9.mono (by omega))
                  have HO9 : Hid (Rc.Own w.heap.size w9 vo (NL.map (rec1 name here t))) := HO8.out.below hb9
                  clear ho9 hb9 HO8
                  by_cases he : F0 = []
                  · have HA : Hid (A = ⟨[], 3, 0⟩) := HR2.out.trans (HA1.out he)
                    have h00 : F0.length = 0 := by rw [he]; rfl
                    clear he
                    generalize F0.length = n0 at *
                    subst h00
                    go_wp2_with fail
                    go_ret3
                    exact ⟨.slice none 0 0, by rw [HA.out]; rfl, by rw [HA.out]; exact Rc.own_nil _ _, HW9.out⟩
                  · have HA : Hid (A = ⟨NL.map (rec1 name here t), 0, 0⟩) := HR2.out.trans (HA2.out he hz8.out)
                    have h00 : (((F0.length : Nat) : Int) == 0) = false := by
                      have : F0.length ≠ 0 := fun h => he (List.eq_nil_of_length_eq_zero h)
                      simpa using this
                    clear he
                    generalize F0.length = n0 at *
                    go_wp2_with fail
                    go_ret3
                    exact ⟨vo, by rw [HA.out]; rfl, by rw [HA.out]; exact HO9.out, HW9.out⟩
            · have HR2 : Hid (A = ofNd QQ t ms) := HR.out.trans (HS2''.out hnz)
              obtain ⟨g3, g4⟩ := nempty hnz
              clear HS2'' HS3'' hnz
              have hml : ms.length ≤ 1000 := by have := (chk_zero HK.out.ms).1; omega
              have HAT : Hid (∀ W, Sl W (.slice pm nm cm) ms → Calls Tryz.prog 9 #[.slice pm nm cm, .string qn] W fun e w' => ∃ r : Int, e = .returned (.int .i64 r) ∧ Hid (AtF ms qn r) ∧ w' = W) := fun W h => memAt_any ms _ _ W h hml
              have HN3 : Hid (fstM ms qn = none → A = ⟨[], 3, 0⟩) := fun h => by rw [HR2.out, ← HQQ.out]; unfold ofNd; rw [if_neg]; show ¬ ((mOf ms qn).state = 1 ∨ (mOf ms qn).state = 2); rw [mOf_none h]; decide
              have HN4 : Hid (∀ j, j < ms.length → fstM ms qn = some (ms.getD j dm) → 2 < (ms.getD j dm).state → A = ⟨[], 3, 0⟩) := fun j hj h h2 => by rw [HR2.out, ← HQQ.out]; unfold ofNd; rw [if_neg]; show ¬ ((mOf ms qn).state = 1 ∨ (mOf ms qn).state = 2); rw [mOf_some h]; omega
              have HN5 : Hid (∀ j, j < ms.length → fstM ms qn = some (ms.getD j dm) → ¬ 2 < (ms.getD j dm).state → t ≠ 1 → A = ⟨[], 0, 0⟩) := fun j hj h h2 h3 => by
                have h4 := st_range HK.out.ms hj
                rw [HR2.out, ← HQQ.out]; unfold ofNd; rw [if_pos, if_neg h3]; show (mOf ms qn).state = 1 ∨ (mOf ms qn).state = 2; rw [mOf_some h]; omega
              have HN6 : Hid (∀ j, j < ms.length → fstM ms qn = some (ms.getD j dm) → ¬ 2 < (ms.getD j dm).state → t = 1 → A = ⟨[⟨name, 1, 0, (ms.getD j dm).addr, ⟨#[]⟩, 0, ⟨#[]⟩⟩], 0, 0⟩) := fun j hj h h2 h3 => by
                have h4 := st_range HK.out.ms hj
                rw [HR2.out, ← HPS.out, ← HQQ.out]; unfold ofNd; rw [if_pos, if_pos h3]
                · show (⟨[⟨_, 1, 0, (mOf ms qn).addr, _, 0, _⟩], 0, 0⟩ : Ans) = _; rw [mOf_some h]
                · show (mOf ms qn).state = 1 ∨ (mOf ms qn).state = 2; rw [mOf_some h]; omega
              obtain ⟨_, _, hme, -, hma⟩ := (HM.out.below HW4.out)
              simp only [Value.slice.injEq] at hme
              obtain ⟨rfl, hmn, rfl⟩ := hme
              have HML : Hid (nm = ms.length) := hmn
              have HMA : Hid (ms = [] ∨ ∃ b off, pm = some ⟨b, off, none⟩ ∧ b < w4.heap.size ∧ Row w4 b off ms) := hma
              have HM4 : Hid (Sl w4 (.slice pm nm cm) ms) := HM.out.below HW4.out
              clear hma hmn hml
              rcases hcc with ⟨g1, -⟩ | ⟨g1, g2, g5, -⟩
              all_goals
                go_wp2_with fail
                refine Calls.mono (HAT.out w4 HM4.out) ?_
                rintro e w5 ⟨r, rfl, hat, hw5⟩
                subst hw5
                rcases hat.out with ⟨j, hj, rfl, hfj⟩ | ⟨rfl, hfj⟩
                · obtain ⟨bm, om, hp2, hl2, hr2⟩ : ∃ b off, pm = some ⟨b, off, none⟩ ∧ b < w5.heap.size ∧ Row w5 b off ms := by
                    rcases HMA.out with h | h
                    · rw [h] at hj; simp at hj
                    · exact h
                  subst hp2
                  obtain ⟨-, m1, -, m3, -⟩ := hr2 j hj
                  have hjn : j < nm := by rw [HML.out]; exact hj
                  have hj0 : (0 : Int) ≤ (j : Int) := Int.natCast_nonneg _
                  have hj1 : (j : Int) < (nm : Int) := by omega
                  have HN4' : Hid _ := HN4.out j hj hfj
                  have HN5' : Hid _ := HN5.out j hj hfj
                  have HN6' : Hid _ := HN6.out j hj hfj
                  clear hr2 hfj hat HMA hj HN3 HN4 HN5 HN6
                  generalize (ms.getD j dm).state = st at *
                  generalize (ms.getD j dm).addr = ad at *
                  by_cases hst : 2 < st
                  · have HA : Hid (A = ⟨[], 3, 0⟩) := HN4'.out hst
                    go_wp2_with fail
                    go_ret3
                    exact ⟨.slice none 0 0, by rw [HA.out]; rfl, by rw [HA.out]; exact Rc.own_nil _ _, HW4.out⟩
                  · by_cases ht : t = 1
                    · have HA : Hid (A = ⟨[⟨name, 1, 0, ad, ⟨#[]⟩, 0, ⟨#[]⟩⟩], 0, 0⟩) := HN6'.out (by omega) ht
                      have ht' : (t != 1) = false := by simpa using ht
                      clear ht
                      go_wp2_with fail
                      go_ret3
                      refine ⟨_, by rw [HA.out]; rfl, ?_, HW4.out.alloc (by omega) _⟩
                      rw [HA.out]
                      refine Rc.own_of (G := 1) (cur := #[.string name, .int .i64 1, .int .i64 0, .int .i64 ad, .string ⟨#[]⟩, .int .i64 0, .string ⟨#[]⟩]) ?_ (heap_alloc_new _ _) rfl (Nat.le_refl _) (by decide) rfl
                      omega
                    · have HA : Hid (A = ⟨[], 0, 0⟩) := HN5'.out (by omega) ht
                      have ht' : (t != 1) = true := by simpa using ht
                      go_wp2_with fail
                      go_ret3
                      exact ⟨.slice none 0 0, by rw [HA.out]; rfl, by rw [HA.out]; exact Rc.own_nil _ _, HW4.out⟩
                · have HA : Hid (A = ⟨[], 3, 0⟩) := HN3.out hfj
                  clear hfj hat HN3 HN4 HN5 HN6
                  go_wp2_with fail
                  go_ret3
                  exact ⟨.slice none 0 0, by rw [HA.out]; rfl, by rw [HA.out]; exact Rc.own_nil _ _, HW4.out⟩
        · have HR2 : Hid (A = ⟨[], 0, pe⟩) := HR.out.trans (HS0.out h4)
          have h4' : (pe != 0) = true := by simpa using h4
          go_wp2_with fail
          go_ret3
          exact ⟨.slice none 0 0, by rw [HR2.out]; rfl, by rw [HR2.out]; exact Rc.own_nil _ _, HW4.out⟩
      · have HR : Hid (A = ⟨[], 0, ke⟩) := HR3''.out h3
        have h3' : (ke != 0) = true := by simpa using h3
        go_wp2_with fail
        go_ret3
        exact ⟨.slice none 0 0, by rw [HR.out]; rfl, by rw [HR.out]; exact Rc.own_nil _ _, HW3.out⟩
  · have HR : Hid (A = ⟨[], 0, ce⟩) := HR1.out h1
    have h1' : (ce == 0) = false := by simpa using h1
    have h1'' : (ce != 0) = true := by simpa using h1
    go_wp2_with fail
    go_ret3
    exact ⟨.slice none 0 0, by rw [HR.out]; rfl, by rw [HR.out]; exact Rc.own_nil _ _, HW1.out⟩

end Go.Proofs.YtignmeaeibaejaaGreat

/- records: are two lists the same? -/
namespace Go.Proofs.YtignmeaeibaejaaGreat
namespace Rc
open Go.RowKit

set_option maxHeartbeats 800000 in
theorem same_any (a b : List Rec) (va vb : Value) (w : World) (ha : Sl w va a) (hb : Sl w vb b) (hsm : a.length ≤ 1000) :
    Calls Tryz.prog 8 #[va, vb] w fun e w' => ∃ r : Bool, e = .returned (.bool r) ∧ (r = true ↔ a = b) ∧ Below w.heap.size w w' := by
  obtain ⟨pa, ca, rfl, _, ha⟩ := ha
  obtain ⟨pv, cb, rfl, _, hb⟩ := hb
  by_cases hl : a.length = b.length
  · have HA : Hid (a = [] ∨ ∃ b off, pa = some ⟨b, off, none⟩ ∧ b < w.heap.size ∧ Row w b off a) := ha
    have HB : Hid (b = [] ∨ ∃ b_1 off, pv = some ⟨b_1, off, none⟩ ∧ b_1 < w.heap.size ∧ Row w b_1 off b) := hb
    have HL : Hid (a.length = b.length) := hl
    clear ha hb
    rw [← hl]
    clear hl
    generalize hna : a.length = n at *
    have HN : Hid (a.length = n) := hna
    clear hna
    have hg28 : Tryz.prog.eqGuardType Tryz.prog.depth 42 = false := by kernel_rfl
    go_enter Tryz.func8, Tryz.ntmps8
    go_wp2_with fail
    go_loopw [5] (fun i w' => ∃ k : Nat, k ≤ n ∧ i = .int .i64 k ∧ Below w.heap.size w w' ∧ Hid (∀ j, j < k → a.getD j dm = b.getD j dm)) (fun i _ => n - (intOf i).toNat)
    case atStart => exact ⟨0, Nat.zero_le _, rfl, Below.refl _ _, fun j h => absurd h (Nat.not_lt_zero _)⟩
    case round =>
      obtain ⟨k, hk, rfl, hbl, hz⟩ := hrel
      obtain ⟨hbc, hbf⟩ := bcell hbl
      have hsz := hbl.size
      by_cases hlt : k < n
      · obtain ⟨b1, o1, hp1, hl1, hr1⟩ : ∃ b off, pa = some ⟨b, off, none⟩ ∧ b < w.heap.size ∧ Row w b off a := by
          rcases HA.out with h | h
          · have := HN.out; rw [h] at this; simp at this; omega
          · exact h
        obtain ⟨b2, o2, hp2, hl2, hr2⟩ : ∃ b_1 off, pv = some ⟨b_1, off, none⟩ ∧ b_1 < w.heap.size ∧ Row w b_1 off b := by
          rcases HB.out with h | h
          · have h2 := HN.out; have h3 := HL.out; rw [h] at h3; simp at h3; omega
          · exact h
        subst hp1
        subst hp2
        obtain ⟨c0, c1, c2, c3, c4, c5, c6⟩ := hr1 k (by rw [HN.out]; exact hlt)
        obtain ⟨d0, d1, d2, d3, d4, d5, d6⟩ := hr2 k (by have h2 := HN.out; have h3 := HL.out; omega)
        clear hr1 hr2
        have HF : Hid (a.getD k dm ≠ b.getD k dm → a ≠ b) := fun h e => h (by rw [e])
        have HZ : Hid (a.getD k dm = b.getD k dm → ∀ j, j < k + 1 → a.getD j dm = b.getD j dm) := fun h j hj => by
          rcases Nat.lt_succ_iff_lt_or_eq.1 hj with h2 | rfl
          · exact hz.out j h2
          · exact h
        have hneq := neqE (a.getD k dm) (b.getD k dm)
        generalize a.getD k dm = m1 at *
        generalize b.getD k dm = m2 at *
        rcases hs : sameM m1 m2 with _ | _
        · rw [hs] at hneq
          have hne : Hid (a ≠ b) := HF.out (fun e => by rw [← sameM_iff, hs] at e; cases e)
          go_wp2_with fail
          go_quiet (fail)
          go_wp2_with fail
          go_ret
          exact ⟨false, rfl, ⟨fun h => (by cases h), fun h => absurd h hne.out⟩, below_drewN hbl _⟩
        · rw [hs] at hneq
          have heq : Hid (m1 = m2) := (sameM_iff m1 m2).1 hs
          go_wp2_with fail
          go_quiet (fail)
          go_wp2_with fail
          go_roundw
          case rel => exact ⟨k + 1, by omega, by go_num, below_drewN hbl _, HZ.out heq.out⟩
          case measure => simp [intOf]; omega
      · have hfin : Hid (a = b) := by
          apply List.ext_getElem (HN.out.trans HL.out)
          intro j h1 h2
          have := hz.out j (by have := HN.out; omega)
          simpa [List.getD, List.getElem?_eq_getElem h1, List.getElem?_eq_getElem h2] using this
        go_wp2_with fail
        go_ret
        exact ⟨true, rfl, ⟨fun _ => hfin.out, fun _ => rfl⟩, hbl⟩
  · have hne : ((a.length : Int) != (b.length : Int)) = true := by rw [bne_iff_ne]; omega
    have HF : Hid (a ≠ b) := fun e => hl (by rw [e])
    clear ha hb
    go_enter Tryz.func8, Tryz.ntmps8
    go_wp2_with fail
    go_ret
    exact ⟨false, rfl, ⟨fun h => (by cases h), fun h => absurd h HF.out⟩, Below.refl _ _⟩

end Rc
end Go.Proofs.YtignmeaeibaejaaGreat

/- What must be in any case; AnswerRecords. -/
namespace Go.Proofs.YtignmeaeibaejaaGreat
open Go.RowKit

abbrev qT : Qu := ⟨⟨#[115]⟩, ⟨#[]⟩, ⟨#[]⟩, ⟨#[]⟩⟩
abbrev sT : Sv.Svc := ⟨⟨#[110]⟩, ⟨#[105]⟩, ⟨#[115]⟩, ⟨#[]⟩, 9, 0, true, 1, false⟩
theorem begun_is : anR qT 1 ⟨#[99]⟩ [sT] [] ⟨0, 0, 0, 0, 0⟩ [] = ⟨[⟨⟨#[115, 46, 115, 101, 114, 118, 105, 99, 101, 46, 109, 101, 115, 104]⟩, 1, 0, 9, ⟨#[]⟩, 0, ⟨#[]⟩⟩], 0, 0⟩ := by kernel_rfl
set_option maxHeartbeats 3200000 in
set_option maxRecDepth 100000 in
theorem answerBegun_any (w : World) : Calls Tryz.prog 7 #[] w fun e w' => e = .returned (.bool true) ∧ Below w.heap.size w w' := by
  have HR : Hid (∀ (W : World) (g : Nat), W.heap[g]? = some (.cells #[.string ⟨#[110]⟩, .string ⟨#[105]⟩, .string ⟨#[115]⟩, .string ⟨#[]⟩, .int .i64 9, .int .i64 0, .bool true, .int .i64 1, .bool false] 39 (0, 0)) → Calls Tryz.prog 5 #[.agg #[.string ⟨#[115]⟩, .string ⟨#[]⟩, .string ⟨#[]⟩, .string ⟨#[]⟩], .int .i64 1, .string ⟨#[99]⟩, .slice (some ⟨g, 0, none⟩) 1 1, .slice none 0 0, .agg #[.int .i64 0, .int .i64 0, .int .i64 0, .int .i64 0, .int .i64 0], .slice none 0 0] W fun e w' => ∃ v, e = .returned (.tuple #[v, .int .i64 0, .int .i64 0]) ∧ Rc.Own W.heap.size w' v [⟨⟨#[115, 46, 115, 101, 114, 118, 105, 99, 101, 46, 109, 101, 115, 104]⟩, 1, 0, 9, ⟨#[]⟩, 0, ⟨#[]⟩⟩] ∧ Below W.heap.size W w') := fun W g hg => by
    have h := Records_any ⟨#[99]⟩ (some ⟨g, 0, none⟩) none none 1 1 0 0 0 0 0 0 0 0 0 qT 1 [sT] [] [] W ⟨by decide, by decide, by decide, by decide⟩ (by decide) (Sv.sl_one W g 1 sT ⟨by decide, by decide, by decide, by decide⟩ hg) ⟨none, 0, rfl, fun j => by simp [dm], .inl rfl⟩ ⟨none, 0, rfl, fun j => by simpa using Wh.dm_ok, .inl rfl⟩
    rw [begun_is] at h
    exact h
  go_enter Tryz.func7, Tryz.ntmps7
  go_wp2_with fail
  refine Calls.mono (HR.out _ w.heap.size (heap_alloc_new w _)) ?_
  rintro e w1 ⟨v, rfl, ho, hb⟩
  obtain ⟨g, c, rfl⟩ := Rc.own_form ho 0 (by simp)
  obtain ⟨c0, c1, c2, c3, c4, c5, c6⟩ := Rc.own_cells ho 0 (by simp)
  have HB : Hid (Below w.heap.size w w1) := ((Below.refl _ _).alloc (Nat.le_refl _) _).trans (hb.mono (by simp))
  simp only [List.getD_cons_zero, Nat.zero_mul, Nat.zero_add, List.length_singleton] at c0 c1 c2 c3 c4 c5 c6 ⊢
  clear ho hb
  go_wp2_with fail
  go_ret
  exact ⟨rfl, HB.out⟩

set_option maxHeartbeats 6400000 in
set_option maxRecDepth 100000 in
theorem sameRs (a : List Rc.Rec) (va vb : Value) (w : World) (ha : Rc.Sl w va a) (hb : Rc.Sl w vb a) (hn : a.length ≤ 1000) : Calls Tryz.prog 8 #[va, vb] w fun e w' => e = .returned (.bool true) ∧ Below w.heap.size w w' := by
  refine (Rc.same_any a a va vb w ha hb hn).mono ?_
  rintro e w' ⟨r, rfl, hr, hb⟩
  rw [hr.2 rfl]
  exact ⟨rfl, hb⟩
theorem prS_size (q : Qu) : (prS q).size ≤ maxLen := by
  unfold prS
  split
  · rename_i h
    have h2 : chkQ q = 0 := by unfold prE at h; by_cases h3 : chkQ q = 0; exact h3; rw [if_neg h3] at h; exact absurd h h3
    have := prt_size h2
    unfold maxLen; omega
  · decide
theorem anR_few (q : Qu) (t : Int) (here : ByteArray) (sv : List Sv.Svc) (ms : List Mem) (p : Pl) (wh : List Wh.Whe) : (anR q t here sv ms p wh).rs.length ≤ 20 := by
  unfold anR
  split
  · split
    · unfold anS
      split
      · split
        · simp
        · split
          · unfold ofNd; (repeat' split) <;> simp
          · unfold ofSv
            split
            · simp
            · split
              · rw [List.length_map]; exact near_len _ _ _ _
              · simp
      · simp
    · simp
  · simp
theorem anR_ok (q : Qu) (t : Int) (here : ByteArray) (sv : List Sv.Svc) (ms : List Mem) (p : Pl) (wh : List Wh.Whe) (hs : ∀ s ∈ sv, s.ok) : ∀ r ∈ (anR q t here sv ms p wh).rs, r.ok := by
  have he : (⟨#[]⟩ : ByteArray).size ≤ maxLen := by decide
  unfold anR
  split
  · split
    · unfold anS
      split
      · split
        · simp
        · split
          · unfold ofNd
            split
            · split
              · intro r hr
                simp at hr
                subst hr
                exact ⟨prS_size q, he, he⟩
              · simp
            · simp
          · unfold ofSv
            split
            · simp
            · split
              · intro r hr
                obtain ⟨s, hs2, rfl⟩ := List.mem_map.1 hr
                have h1 := near_mem hs2
                have h2 := hs s (List.mem_filter.1 h1.1).1
                refine ⟨prS_size q, ?_, ?_⟩
                · show (if t = 16 then s.idn else ⟨#[]⟩).size ≤ maxLen
                  split
                  · exact h2.2.1
                  · exact he
                · show (if t = 33 then prS (qN s.node here) else ⟨#[]⟩).size ≤ maxLen
                  split
                  · exact prS_size _
                  · exact he
              · simp
      · simp
    · simp
  · simp
set_option maxHeartbeats 6400000 in
set_option maxRecDepth 100000 in
theorem answerRecords_walk (here : ByteArray) (ps pm pw : Option Addr) (ns cs nm cm nw cw : Nat) (px py pz ph pq : Int) (q : Qu) (t : Int) (sv : List Sv.Svc) (ms : List Mem) (wh : List Wh.Whe) (w : World) (hq : q.ok) (hh : here.size ≤ maxLen) (hs : Sv.Sl w (.slice ps ns cs) sv) (hm : Sl w (.slice pm nm cm) ms) (hw : Wh.Sl w (.slice pw nw cw) wh) :
    Calls Tryz.prog 3 #[.agg #[.string q.service, .string q.tag, .string q.node, .string q.centre], .int .i64 t, .agg (knA here (.slice ps ns cs) (.slice pm nm cm) px py pz ph pq (.slice pw nw cw))] w fun e w' => e = .returned (.bool true) ∧ Below w.heap.size w w' := by
  have HS : Hid (Sv.Sl w (.slice ps ns cs) sv) := hs
  have HM : Hid (Sl w (.slice pm nm cm) ms) := hm
  have HW : Hid (Wh.Sl w (.slice pw nw cw) wh) := hw
  have hC1 := fun (W : World) (a1 : Sv.Sl W (.slice ps ns cs) sv) (a2 : Sl W (.slice pm nm cm) ms) (a3 : Wh.Sl W (.slice pw nw cw) wh) => Records_any here ps pm pw ns cs nm cm nw cw px py pz ph pq q t sv ms wh W hq hh a1 a2 a3
  have hC2 := fun (W : World) (a1 : Sv.Sl W (.slice ps ns cs) sv) (a2 : Sl W (.slice pm nm cm) ms) (a3 : Wh.Sl W (.slice pw nw cw) wh) => refRecords_any here ps pm pw ns cs nm cm nw cw px py pz ph pq q t sv ms wh W hq hh a1 a2 a3
  have HC1 : Hid _ := hC1
  have HC2 : Hid _ := hC2
  have hn := anR_few q t here sv ms ⟨px, py, pz, ph, pq⟩ wh
  have HOK : Hid (∀ r ∈ (anR q t here sv ms ⟨px, py, pz, ph, pq⟩ wh).rs, r.ok) := anR_ok q t here sv ms ⟨px, py, pz, ph, pq⟩ wh (by obtain ⟨_, _, _, h, _⟩ := hs; exact Sv.ns_mem h)
  clear hC1 hC2 hs hm hw hq
  generalize anR q t here sv ms ⟨px, py, pz, ph, pq⟩ wh = A at *
  obtain ⟨qs, qt, qn, qc⟩ := q
  simp only at *
  go_enter Tryz.func3, Tryz.ntmps3
  go_wp2_with fail
  obtain ⟨W, hW⟩ : ∃ W, W = (w.alloc (.cells #[.string qs, .string qt, .string qn, .string qc] 23)).alloc (.cells (knA here (.slice ps ns cs) (.slice pm nm cm) px py pz ph pq (.slice pw nw cw)) 30) := ⟨_, rfl⟩
  rw [← hW]
  have hbW : Below w.heap.size w W := by rw [hW]; exact ((Below.refl _ _).alloc (Nat.le_refl _) _).alloc (by simp) _
  have HG0 : Hid (W.heap[w.heap.size]? = some (.cells #[.string qs, .string qt, .string qn, .string qc] 23 (0, 0))) := by rw [hW, Below.heap_alloc _ _ _ (by simp)]; exact heap_alloc_new w _
  have hG1 : W.heap[w.heap.size + 1]? = some (.cells (knA here (.slice ps ns cs) (.slice pm nm cm) px py pz ph pq (.slice pw nw cw)) 30 (0, 0)) := by
    rw [hW]
    have h := heap_alloc_new (w.alloc (.cells #[.string qs, .string qt, .string qn, .string qc] 23)) (.cells (knA here (.slice ps ns cs) (.slice pm nm cm) px py pz ph pq (.slice pw nw cw)) 30)
    simpa using h
  have HG1 : Hid _ := hG1
  have hsW : w.heap.size + 2 ≤ W.heap.size := by rw [hW]; simp
  clear hW hG1
  refine Calls.mono (HC1.out W (HS.out.below hbW) (HM.out.below hbW) (HW.out.below hbW)) ?_
  rintro e w1 ⟨v1, rfl, ho1, hb1⟩
  have hs1 := hb1.size
  have HB1 : Hid (Below w.heap.size w w1) := hbW.trans (hb1.mono (by omega))
  have k0 : w1.heap[w.heap.size]? = _ := (hb1.block _ (by omega)).trans HG0.out
  have k1 : w1.heap[w.heap.size + 1]? = _ := (hb1.block _ (by omega)).trans HG1.out
  have q0 : w1.cell? ⟨w.heap.size, 0, none⟩ = some (.string qs) := cellsAt k0 0
  have q1 : w1.cell? ⟨w.heap.size, 1, none⟩ = some (.string qt) := cellsAt k0 1
  have q2 : w1.cell? ⟨w.heap.size, 2, none⟩ = some (.string qn) := cellsAt k0 2
  have q3 : w1.cell? ⟨w.heap.size, 3, none⟩ = some (.string qc) := cellsAt k0 3
  have d0 : w1.cell? ⟨w.heap.size + 1, 0, none⟩ = some (.string here) := cellsAt k1 0
  have d1 : w1.cell? ⟨w.heap.size + 1, 1, none⟩ = some (.slice ps ns cs) := cellsAt k1 1
  have d2 : w1.cell? ⟨w.heap.size + 1, 2, none⟩ = some (.slice pm nm cm) := cellsAt k1 2
  have d3 : w1.cell? ⟨w.heap.size + 1, 3, none⟩ = some (.int .i64 px) := cellsAt k1 3
  have d4 : w1.cell? ⟨w.heap.size + 1, 4, none⟩ = some (.int .i64 py) := cellsAt k1 4
  have d5 : w1.cell? ⟨w.heap.size + 1, 5, none⟩ = some (.int .i64 pz) := cellsAt k1 5
  have d6 : w1.cell? ⟨w.heap.size + 1, 6, none⟩ = some (.int .i64 ph) := cellsAt k1 6
  have d7 : w1.cell? ⟨w.heap.size + 1, 7, none⟩ = some (.int .i64 pq) := cellsAt k1 7
  have d8 : w1.cell? ⟨w.heap.size + 1, 8, none⟩ = some (.slice pw nw cw) := cellsAt k1 8
  have HO1 : Hid (Rc.Own W.heap.size w1 v1 A.rs) := ho1
  clear k0 k1 ho1 hb1 hbW HG0 HG1
  go_wp2_with fail
  refine Calls.mono (HC2.out w1 (HS.out.below HB1.out) (HM.out.below HB1.out) (HW.out.below HB1.out)) ?_
  rintro e w2 ⟨v2, rfl, ho2, hb2⟩
  have hs2 := hb2.size
  have HB2 : Hid (Below w.heap.size w w2) := HB1.out.trans (hb2.mono (by omega))
  have HO12 : Hid (Rc.Own W.heap.size w2 v1 A.rs) := HO1.out.below hb2
  have HO22 : Hid (Rc.Own w1.heap.size w2 v2 A.rs) := ho2
  clear ho2 hb2 q0 q1 q2 q3 d0 d1 d2 d3 d4 d5 d6 d7 d8
  go_wp2_with fail
  refine (answerBegun_any _).mono ?_
  rintro e w3 ⟨rfl, hb3⟩
  have HB3 : Hid (Below w.heap.size w w3) := HB2.out.trans (hb3.mono (by omega))
  have HV1 : Hid (Rc.Sl w3 v1 A.rs) := Rc.own_names (HO12.out.below hb3) HOK.out
  have HV2 : Hid (Rc.Sl w3 v2 A.rs) := Rc.own_names (HO22.out.below hb3) HOK.out
  clear hb3
  go_wp2_with fail
  refine (sameRs A.rs v1 v2 w3 HV1.out HV2.out (by omega)).mono ?_
  rintro e w4 ⟨rfl, hb4⟩
  have HB4 : Hid (Below w.heap.size w w4) := HB3.out.trans (hb4.mono HB3.out.size)
  clear hb4
  go_wp2_with fail
  go_ret
  exact ⟨rfl, HB4.out⟩

end Go.Proofs.YtignmeaeibaejaaGreat

/- Lists of services that lie within what a law is handed. -/
namespace Go.Proofs.YtignmeaeibaejaaGreat
namespace Sv
open Go.ChangeShapes Go.WideShapes Go.ChangeAt Go.RowKit

section
variable {H : Type} {enc : TypeId × Value → H} {w : World} {base : Nat} {spare : Nat → Bool} {held : Bool}

theorem Tryz.kcT : Tryz.prog.cellsOf 39 = 9 := by kernel_rfl
theorem Tryz.kc9 : Tryz.prog.cellsOf 9 = 1 := by kernel_rfl
theorem Tryz.kc3 : Tryz.prog.cellsOf 3 = 1 := by kernel_rfl
theorem Tryz.kc4 : Tryz.prog.cellsOf 4 = 1 := by kernel_rfl

set_option maxRecDepth 100000 in
theorem elT_of_trod {fuel : Nat} {cs : List Value} {x : DataW H × List MemPlace} (h : DataW.trod enc Tryz.prog w base spare held fuel 39 cs = some x) :
    ∃ m : Svc, cs = [.string m.node, .string m.idn, .string m.name, .string m.tag, .int .i64 m.addr, .int .i64 m.port, .bool m.passing, .int .i64 m.version, .bool m.gone] ∧ (m).ok := by
  obtain ⟨xs, n, _, _, hl, hlen, hf⟩ := DataW.trod_struct Tryz.underlying39 h
  rw [Tryz.kcT] at hl
  match cs, hl with
  | [c0, c1, c2, c3, c4, c5, c6, c7, c8], _ =>
    match xs, hlen with
    | [y0, y1, y2, y3, y4, y5, y6, y7, y8], _ =>
      have h0 := hf 0 _ rfl
      have h1 := hf 1 _ rfl
      have h2 := hf 2 _ rfl
      have h3 := hf 3 _ rfl
      have h4 := hf 4 _ rfl
      have h5 := hf 5 _ rfl
      have h6 := hf 6 _ rfl
      have h7 := hf 7 _ rfl
      have h8 := hf 8 _ rfl
      simp [Tryz.kc9] at h0
      simp [Tryz.kc9] at h1
      simp [Tryz.kc9] at h2
      simp [Tryz.kc9] at h3
      simp [Tryz.kc3] at h4
      simp [Tryz.kc3] at h5
      simp [Tryz.kc4] at h6
      simp [Tryz.kc3] at h7
      simp [Tryz.kc4] at h8
      obtain ⟨z0, e0, _, g0⟩ := DataW.trod_string Tryz.underlying9 h0
      obtain ⟨z1, e1, _, g1⟩ := DataW.trod_string Tryz.underlying9 h1
      obtain ⟨z2, e2, _, g2⟩ := DataW.trod_string Tryz.underlying9 h2
      obtain ⟨z3, e3, _, g3⟩ := DataW.trod_string Tryz.underlying9 h3
      obtain ⟨z4, e4, _⟩ := DataW.trod_int Tryz.underlying3 h4
      obtain ⟨z5, e5, _⟩ := DataW.trod_int Tryz.underlying3 h5
      obtain ⟨z6, e6, _⟩ := DataW.trod_bool Tryz.underlying4 h6
      obtain ⟨z7, e7, _⟩ := DataW.trod_int Tryz.underlying3 h7
      obtain ⟨z8, e8, _⟩ := DataW.trod_bool Tryz.underlying4 h8
      simp only [List.cons.injEq, and_true] at e0 e1 e2 e3 e4 e5 e6 e7 e8
      subst e0 e1 e2 e3 e4 e5 e6 e7 e8
      exact ⟨⟨z0, z1, z2, z3, z4, z5, z6, z7, z8⟩, rfl, ⟨g0, g1, g2, g3⟩⟩

set_option maxRecDepth 100000 in
theorem elsT_of_trod {fuel : Nat} {cs : List Value} {x : DataW H × List MemPlace} (h : DataW.trod enc Tryz.prog w base spare held fuel 24 cs = some x) :
    ∃ (p : Option Addr) (n c : Nat) (ms : List Svc), cs = [.slice p n c] ∧ Sl w (.slice p n c) ms ∧ ms.length ≤ maxLen := by
  rcases Go.Deep.open_slice Tryz.underlying24 h with ⟨hcs, _⟩ | ⟨x, len, cap, m, n, D, Pl, hcs, hb, hl, hm, hmm, _, hx⟩
  · exact ⟨none, 0, 0, [], hcs, ⟨none, 0, rfl, ns_get (by simp), .inl rfl⟩, by simp⟩
  · have hlm : len ≤ m := by rw [hmm]; split <;> omega
    have hall : ∀ i, i < len → ∃ q : Svc, (∀ t, t < 9 → w.cell? (x.add (i * 9 + t)) = q.cs[t]?) ∧ (q).ok := fun i hi => by
      obtain ⟨cs', h1, h2⟩ := hx i (by omega)
      obtain ⟨q, hq, hs⟩ := elT_of_trod h2
      rw [Tryz.kcT] at h1
      obtain ⟨_, _, h3⟩ := World.cells?_some h1
      refine ⟨q, fun t ht => ?_, hs⟩
      rw [← Go.Deep.add_add, h3 t ht, hq]
      rfl
    have hinh : Inhabited Svc := ⟨dm⟩
    obtain ⟨F, hF⟩ := Go.Deep.choose_lt (α := Svc) (p := fun i q => (∀ t, t < 9 → w.cell? (x.add (i * 9 + t)) = q.cs[t]?) ∧ (q).ok) hall
    have hget : ∀ j, j < len → ((List.range len).map F).getD j dm = F j := fun j hj => by simp [List.getD, hj]
    refine ⟨some x, len, cap, (List.range len).map F, hcs, ⟨some x, cap, by simp, ns_get (fun q hq => ?_), ?_⟩, by simp; omega⟩
    · obtain ⟨j, hj, rfl⟩ := List.mem_map.1 hq
      exact (hF j (List.mem_range.1 hj)).2
    · by_cases h0 : len = 0
      · left; simp [h0]
      · right
        obtain ⟨b, off, spot⟩ := x
        have hc0 := (hF 0 (by omega)).1 0 (by omega)
        have hspot : spot = none := by simpa [Addr.add] using World.cell?_spot hc0
        subst hspot
        have hcell : ∀ j, j < len → ∀ t, t < 9 → w.cell? ⟨b, off + j * 9 + t, none⟩ = (F j).cs[t]? := fun j hj t ht => by
          have := (hF j hj).1 t ht
          rwa [Go.WideShapes.add_plain, ← Nat.add_assoc] at this
        refine ⟨b, off, rfl, World.block_lt_of_cell? w ⟨b, off + 0 * 9 + 0, none⟩ (hcell 0 (by omega) 0 (by omega)), fun j hj => ?_⟩
        have hj' : j < len := by simpa using hj
        rw [hget j hj']
        exact ⟨hcell j hj' 0 (by omega), hcell j hj' 1 (by omega), hcell j hj' 2 (by omega), hcell j hj' 3 (by omega), hcell j hj' 4 (by omega), hcell j hj' 5 (by omega), hcell j hj' 6 (by omega), hcell j hj' 7 (by omega), hcell j hj' 8 (by omega)⟩

end
end Sv
end Go.Proofs.YtignmeaeibaejaaGreat

/- Lists of members that lie within what a law is handed. -/
namespace Go.Proofs.YtignmeaeibaejaaGreat

open Go.ChangeShapes Go.WideShapes Go.ChangeAt Go.RowKit

section
variable {H : Type} {enc : TypeId × Value → H} {w : World} {base : Nat} {spare : Nat → Bool} {held : Bool}

theorem Tryz.kcT : Tryz.prog.cellsOf 44 = 5 := by kernel_rfl
theorem Tryz.kc9 : Tryz.prog.cellsOf 9 = 1 := by kernel_rfl
theorem Tryz.kc3 : Tryz.prog.cellsOf 3 = 1 := by kernel_rfl
theorem Tryz.kc4 : Tryz.prog.cellsOf 4 = 1 := by kernel_rfl

set_option maxRecDepth 100000 in
theorem elT_of_trod {fuel : Nat} {cs : List Value} {x : DataW H × List MemPlace} (h : DataW.trod enc Tryz.prog w base spare held fuel 44 cs = some x) :
    ∃ m : Mem, cs = [.string m.name, .int .i64 m.state, .int .i64 m.life, .int .i64 m.addr, .bool m.server] ∧ (m).name.size ≤ maxLen := by
  obtain ⟨xs, n, _, _, hl, hlen, hf⟩ := DataW.trod_struct Tryz.underlying44 h
  rw [Tryz.kcT] at hl
  match cs, hl with
  | [c0, c1, c2, c3, c4], _ =>
    match xs, hlen with
    | [y0, y1, y2, y3, y4], _ =>
      have h0 := hf 0 _ rfl
      have h1 := hf 1 _ rfl
      have h2 := hf 2 _ rfl
      have h3 := hf 3 _ rfl
      have h4 := hf 4 _ rfl
      simp [Tryz.kc9] at h0
      simp [Tryz.kc3] at h1
      simp [Tryz.kc3] at h2
      simp [Tryz.kc3] at h3
      simp [Tryz.kc4] at h4
      obtain ⟨z0, e0, _, g0⟩ := DataW.trod_string Tryz.underlying9 h0
      obtain ⟨z1, e1, _⟩ := DataW.trod_int Tryz.underlying3 h1
      obtain ⟨z2, e2, _⟩ := DataW.trod_int Tryz.underlying3 h2
      obtain ⟨z3, e3, _⟩ := DataW.trod_int Tryz.underlying3 h3
      obtain ⟨z4, e4, _⟩ := DataW.trod_bool Tryz.underlying4 h4
      simp only [List.cons.injEq, and_true] at e0 e1 e2 e3 e4
      subst e0 e1 e2 e3 e4
      exact ⟨⟨z0, z1, z2, z3, z4⟩, rfl, g0⟩

set_option maxRecDepth 100000 in
theorem elsT_of_trod {fuel : Nat} {cs : List Value} {x : DataW H × List MemPlace} (h : DataW.trod enc Tryz.prog w base spare held fuel 25 cs = some x) :
    ∃ (p : Option Addr) (n c : Nat) (ms : List Mem), cs = [.slice p n c] ∧ Sl w (.slice p n c) ms ∧ ms.length ≤ maxLen := by
  rcases Go.Deep.open_slice Tryz.underlying25 h with ⟨hcs, _⟩ | ⟨x, len, cap, m, n, D, Pl, hcs, hb, hl, hm, hmm, _, hx⟩
  · exact ⟨none, 0, 0, [], hcs, ⟨none, 0, rfl, ns_get (by simp), .inl rfl⟩, by simp⟩
  · have hlm : len ≤ m := by rw [hmm]; split <;> omega
    have hall : ∀ i, i < len → ∃ q : Mem, (∀ t, t < 5 → w.cell? (x.add (i * 5 + t)) = q.cs[t]?) ∧ (q).name.size ≤ maxLen := fun i hi => by
      obtain ⟨cs', h1, h2⟩ := hx i (by omega)
      obtain ⟨q, hq, hs⟩ := elT_of_trod h2
      rw [Tryz.kcT] at h1
      obtain ⟨_, _, h3⟩ := World.cells?_some h1
      refine ⟨q, fun t ht => ?_, hs⟩
      rw [← Go.Deep.add_add, h3 t ht, hq]
      rfl
    have hinh : Inhabited Mem := ⟨dm⟩
    obtain ⟨F, hF⟩ := Go.Deep.choose_lt (α := Mem) (p := fun i q => (∀ t, t < 5 → w.cell? (x.add (i * 5 + t)) = q.cs[t]?) ∧ (q).name.size ≤ maxLen) hall
    have hget : ∀ j, j < len → ((List.range len).map F).getD j dm = F j := fun j hj => by simp [List.getD, hj]
    refine ⟨some x, len, cap, (List.range len).map F, hcs, ⟨some x, cap, by simp, ns_get (fun q hq => ?_), ?_⟩, by simp; omega⟩
    · obtain ⟨j, hj, rfl⟩ := List.mem_map.1 hq
      exact (hF j (List.mem_range.1 hj)).2
    · by_cases h0 : len = 0
      · left; simp [h0]
      · right
        obtain ⟨b, off, spot⟩ := x
        have hc0 := (hF 0 (by omega)).1 0 (by omega)
        have hspot : spot = none := by simpa [Addr.add] using World.cell?_spot hc0
        subst hspot
        have hcell : ∀ j, j < len → ∀ t, t < 5 → w.cell? ⟨b, off + j * 5 + t, none⟩ = (F j).cs[t]? := fun j hj t ht => by
          have := (hF j hj).1 t ht
          rwa [Go.WideShapes.add_plain, ← Nat.add_assoc] at this
        refine ⟨b, off, rfl, World.block_lt_of_cell? w ⟨b, off + 0 * 5 + 0, none⟩ (hcell 0 (by omega) 0 (by omega)), fun j hj => ?_⟩
        have hj' : j < len := by simpa using hj
        rw [hget j hj']
        exact ⟨hcell j hj' 0 (by omega), hcell j hj' 1 (by omega), hcell j hj' 2 (by omega), hcell j hj' 3 (by omega), hcell j hj' 4 (by omega)⟩

end

end Go.Proofs.YtignmeaeibaejaaGreat

/- Lists of places that are told that lie within what a law is handed. -/
namespace Go.Proofs.YtignmeaeibaejaaGreat
namespace Wh
open Go.ChangeShapes Go.WideShapes Go.ChangeAt Go.RowKit

section
variable {H : Type} {enc : TypeId × Value → H} {w : World} {base : Nat} {spare : Nat → Bool} {held : Bool}

theorem Tryz.kcT : Tryz.prog.cellsOf 67 = 6 := by kernel_rfl
theorem Tryz.kc9 : Tryz.prog.cellsOf 9 = 1 := by kernel_rfl
theorem Tryz.kc3 : Tryz.prog.cellsOf 3 = 1 := by kernel_rfl
theorem Tryz.kc4 : Tryz.prog.cellsOf 4 = 1 := by kernel_rfl

theorem kcP : Tryz.prog.cellsOf 27 = 5 := by kernel_rfl
set_option maxRecDepth 100000 in
theorem plT_of_trod {fuel : Nat} {cs : List Value} {x : DataW H × List MemPlace} (h : DataW.trod enc Tryz.prog w base spare held fuel 27 cs = some x) :
    ∃ a b c d e : Int, cs = [.int .i64 a, .int .i64 b, .int .i64 c, .int .i64 d, .int .i64 e] := by
  obtain ⟨xs, n, _, _, hl, hlen, hf⟩ := DataW.trod_struct Tryz.underlying27 h
  rw [kcP] at hl
  match cs, hl with
  | [c0, c1, c2, c3, c4], _ =>
    match xs, hlen with
    | [y0, y1, y2, y3, y4], _ =>
      have h0 := hf 0 _ rfl
      have h1 := hf 1 _ rfl
      have h2 := hf 2 _ rfl
      have h3 := hf 3 _ rfl
      have h4 := hf 4 _ rfl
      simp [Tryz.kc3] at h0
      simp [Tryz.kc3] at h1
      simp [Tryz.kc3] at h2
      simp [Tryz.kc3] at h3
      simp [Tryz.kc3] at h4
      obtain ⟨a, e0, _, _⟩ := DataW.trod_int Tryz.underlying3 h0
      obtain ⟨b, e1, _, _⟩ := DataW.trod_int Tryz.underlying3 h1
      obtain ⟨c, e2, _, _⟩ := DataW.trod_int Tryz.underlying3 h2
      obtain ⟨d, e3, _, _⟩ := DataW.trod_int Tryz.underlying3 h3
      obtain ⟨e, e4, _, _⟩ := DataW.trod_int Tryz.underlying3 h4
      simp only [List.cons.injEq, and_true] at e0 e1 e2 e3 e4
      subst e0 e1 e2 e3 e4
      exact ⟨a, b, c, d, e, rfl⟩
set_option maxRecDepth 100000 in
theorem elT_of_trod {fuel : Nat} {cs : List Value} {x : DataW H × List MemPlace} (h : DataW.trod enc Tryz.prog w base spare held fuel 67 cs = some x) :
    ∃ m : Whe, cs = m.cs ∧ m.ok := by
  obtain ⟨xs, n, _, _, hl, hlen, hf⟩ := DataW.trod_struct Tryz.underlying67 h
  rw [Tryz.kcT] at hl
  match cs, hl with
  | [c0, c1, c2, c3, c4, c5], _ =>
    match xs, hlen with
    | [y0, y1], _ =>
      have h0 := hf 0 _ rfl
      have h1 := hf 1 _ rfl
      simp [Tryz.kc9] at h0
      simp [kcP] at h1
      obtain ⟨s, e0, _, w0⟩ := DataW.trod_string Tryz.underlying9 h0
      obtain ⟨a, b, c, d, e, e1⟩ := plT_of_trod h1
      simp only [List.cons.injEq, and_true] at e0 e1
      obtain ⟨r1, r2, r3, r4, r5⟩ := e1
      subst e0 r1 r2 r3 r4 r5
      exact ⟨⟨s, a, b, c, d, e⟩, rfl, w0⟩

set_option maxRecDepth 100000 in
theorem elsT_of_trod {fuel : Nat} {cs : List Value} {x : DataW H × List MemPlace} (h : DataW.trod enc Tryz.prog w base spare held fuel 28 cs = some x) :
    ∃ (p : Option Addr) (n c : Nat) (ms : List Whe), cs = [.slice p n c] ∧ Sl w (.slice p n c) ms ∧ ms.length ≤ maxLen := by
  rcases Go.Deep.open_slice Tryz.underlying28 h with ⟨hcs, _⟩ | ⟨x, len, cap, m, n, D, Pl, hcs, hb, hl, hm, hmm, _, hx⟩
  · exact ⟨none, 0, 0, [], hcs, ⟨none, 0, rfl, ns_get (by simp), .inl rfl⟩, by simp⟩
  · have hlm : len ≤ m := by rw [hmm]; split <;> omega
    have hall : ∀ i, i < len → ∃ q : Whe, (∀ t, t < 6 → w.cell? (x.add (i * 6 + t)) = q.cs[t]?) ∧ (q).ok := fun i hi => by
      obtain ⟨cs', h1, h2⟩ := hx i (by omega)
      obtain ⟨q, hq, hs⟩ := elT_of_trod h2
      rw [Tryz.kcT] at h1
      obtain ⟨_, _, h3⟩ := World.cells?_some h1
      refine ⟨q, fun t ht => ?_, hs⟩
      rw [← Go.Deep.add_add, h3 t ht, hq]
    have hinh : Inhabited Whe := ⟨dm⟩
    obtain ⟨F, hF⟩ := Go.Deep.choose_lt (α := Whe) (p := fun i q => (∀ t, t < 6 → w.cell? (x.add (i * 6 + t)) = q.cs[t]?) ∧ (q).ok) hall
    have hget : ∀ j, j < len → ((List.range len).map F).getD j dm = F j := fun j hj => by simp [List.getD, hj]
    refine ⟨some x, len, cap, (List.range len).map F, hcs, ⟨some x, cap, by simp, ns_get (fun q hq => ?_), ?_⟩, by simp; omega⟩
    · obtain ⟨j, hj, rfl⟩ := List.mem_map.1 hq
      exact (hF j (List.mem_range.1 hj)).2
    · by_cases h0 : len = 0
      · left; simp [h0]
      · right
        obtain ⟨b, off, spot⟩ := x
        have hc0 := (hF 0 (by omega)).1 0 (by omega)
        have hspot : spot = none := by simpa [Addr.add] using World.cell?_spot hc0
        subst hspot
        have hcell : ∀ j, j < len → ∀ t, t < 6 → w.cell? ⟨b, off + j * 6 + t, none⟩ = (F j).cs[t]? := fun j hj t ht => by
          have := (hF j hj).1 t ht
          rwa [Go.WideShapes.add_plain, ← Nat.add_assoc] at this
        refine ⟨b, off, rfl, World.block_lt_of_cell? w ⟨b, off + 0 * 6 + 0, none⟩ (hcell 0 (by omega) 0 (by omega)), fun j hj => ?_⟩
        have hj' : j < len := by simpa using hj
        rw [hget j hj']
        exact ⟨hcell j hj' 0 (by omega), hcell j hj' 1 (by omega), hcell j hj' 2 (by omega), hcell j hj' 3 (by omega), hcell j hj' 4 (by omega), hcell j hj' 5 (by omega)⟩

end
end Wh
end Go.Proofs.YtignmeaeibaejaaGreat

/- What the laws of answers are handed: what one knows who answers, and queries. -/
namespace Go.Proofs.YtignmeaeibaejaaGreat
open Go.ChangeShapes Go.WideShapes Go.ChangeAt Go.RowKit

section
variable {H : Type} {enc : TypeId × Value → H} {w : World} {base : Nat} {spare : Nat → Bool} {held : Bool}

theorem Tryz.kcKn : Tryz.prog.cellsOf 30 = 9 := by kernel_rfl
theorem Tryz.kcQ : Tryz.prog.cellsOf 23 = 4 := by kernel_rfl
theorem Tryz.kcS : Tryz.prog.cellsOf 24 = 1 := by kernel_rfl
theorem Tryz.kcM : Tryz.prog.cellsOf 25 = 1 := by kernel_rfl
theorem Tryz.kcW : Tryz.prog.cellsOf 28 = 1 := by kernel_rfl

set_option maxRecDepth 100000 in
theorem kn_of_trod {fuel : Nat} {cs : List Value} {x : DataW H × List MemPlace} (h : DataW.trod enc Tryz.prog w base spare held fuel 30 cs = some x) :
    ∃ (here : ByteArray) (ps pm pw : Option Addr) (ns cn nm cm nw cw : Nat) (px py pz ph pq : Int) (sv : List Sv.Svc) (ms : List Mem) (wh : List Wh.Whe), cs = [.string here, .slice ps ns cn, .slice pm nm cm, .int .i64 px, .int .i64 py, .int .i64 pz, .int .i64 ph, .int .i64 pq, .slice pw nw cw] ∧ here.size ≤ maxLen ∧ Sv.Sl w (.slice ps ns cn) sv ∧ Sl w (.slice pm nm cm) ms ∧ Wh.Sl w (.slice pw nw cw) wh := by
  obtain ⟨xs, n, _, _, hl, hlen, hf⟩ := DataW.trod_struct Tryz.underlying30 h
  rw [Tryz.kcKn] at hl
  match cs, hl with
  | [c0, c1, c2, c3, c4, c5, c6, c7, c8], _ =>
    match xs, hlen with
    | [y0, y1, y2, y3, y4], _ =>
      have h0 := hf 0 _ rfl
      have h1 := hf 1 _ rfl
      have h2 := hf 2 _ rfl
      have h3 := hf 3 _ rfl
      have h4 := hf 4 _ rfl
      simp [Tryz.kc9] at h0
      simp [Tryz.kcS] at h1
      simp [Tryz.kcM] at h2
      simp [Wh.kcP] at h3
      simp [Tryz.kcW] at h4
      obtain ⟨s, e0, _, w0⟩ := DataW.trod_string Tryz.underlying9 h0
      obtain ⟨ps, ns, cn, sv, e1, k1, _⟩ := Sv.elsT_of_trod h1
      obtain ⟨pm, nm, cm, ms, e2, k2, _⟩ := elsT_of_trod h2
      obtain ⟨a, b, c, d, e, e3⟩ := Wh.plT_of_trod h3
      obtain ⟨pw, nw, cw, wh, e4, k4, _⟩ := Wh.elsT_of_trod h4
      simp only [List.cons.injEq, and_true] at e0 e1 e2 e3 e4
      obtain ⟨r1, r2, r3, r4, r5⟩ := e3
      subst e0 e1 e2 r1 r2 r3 r4 r5 e4
      exact ⟨s, ps, pm, pw, ns, cn, nm, cm, nw, cw, a, b, c, d, e, sv, ms, wh, rfl, w0, k1, k2, k4⟩
set_option maxRecDepth 100000 in
theorem open_known {r : Reach} {b0 : Nat} {v : Value} {d : DataW H} {p : List MemPlace} (hv : Value.okWide Tryz.prog w r b0 30 v) (h : DataW.Trod enc Tryz.prog w base spare held 30 v d p) :
    ∃ (here : ByteArray) (ps pm pw : Option Addr) (ns cn nm cm nw cw : Nat) (px py pz ph pq : Int) (sv : List Sv.Svc) (ms : List Mem) (wh : List Wh.Whe), v = .agg #[.string here, .slice ps ns cn, .slice pm nm cm, .int .i64 px, .int .i64 py, .int .i64 pz, .int .i64 ph, .int .i64 pq, .slice pw nw cw] ∧ here.size ≤ maxLen ∧ Sv.Sl w (.slice ps ns cn) sv ∧ Sl w (.slice pm nm cm) ms ∧ Wh.Sl w (.slice pw nw cw) wh := by
  obtain ⟨cs, rfl, hsz⟩ := okWide_struct Tryz.underlying30 hv
  obtain ⟨fuel, hf⟩ := h
  obtain ⟨here, ps, pm, pw, ns, cn, nm, cm, nw, cw, a, b, c, d', e, sv, ms, wh, hm, hs⟩ := kn_of_trod hf
  refine ⟨here, ps, pm, pw, ns, cn, nm, cm, nw, cw, a, b, c, d', e, sv, ms, wh, ?_, hs⟩
  simp only [Value.cells] at hm
  congr 1
  apply Array.ext'
  exact hm
set_option maxRecDepth 100000 in
theorem quT_of_trod {fuel : Nat} {cs : List Value} {x : DataW H × List MemPlace} (h : DataW.trod enc Tryz.prog w base spare held fuel 23 cs = some x) :
    ∃ q : Qu, cs = [.string q.service, .string q.tag, .string q.node, .string q.centre] ∧ q.ok := by
  obtain ⟨xs, n, _, _, hl, hlen, hf⟩ := DataW.trod_struct Tryz.underlying23 h
  rw [Tryz.kcQ] at hl
  match cs, hl with
  | [c0, c1, c2, c3], _ =>
    match xs, hlen with
    | [y0, y1, y2, y3], _ =>
      have h0 := hf 0 _ rfl
      have h1 := hf 1 _ rfl
      have h2 := hf 2 _ rfl
      have h3 := hf 3 _ rfl
      simp [Tryz.kc9] at h0
      simp [Tryz.kc9] at h1
      simp [Tryz.kc9] at h2
      simp [Tryz.kc9] at h3
      obtain ⟨a, e0, _, w0⟩ := DataW.trod_string Tryz.underlying9 h0
      obtain ⟨b, e1, _, w1⟩ := DataW.trod_string Tryz.underlying9 h1
      obtain ⟨c, e2, _, w2⟩ := DataW.trod_string Tryz.underlying9 h2
      obtain ⟨d, e3, _, w3⟩ := DataW.trod_string Tryz.underlying9 h3
      simp only [List.cons.injEq, and_true] at e0 e1 e2 e3
      subst e0 e1 e2 e3
      exact ⟨⟨a, b, c, d⟩, rfl, w0, w1, w2, w3⟩
set_option maxRecDepth 100000 in
theorem open_queryT {r : Reach} {b0 : Nat} {v : Value} {d : DataW H} {p : List MemPlace} (hv : Value.okWide Tryz.prog w r b0 23 v) (h : DataW.Trod enc Tryz.prog w base spare held 23 v d p) :
    ∃ q : Qu, v = .agg #[.string q.service, .string q.tag, .string q.node, .string q.centre] ∧ q.ok := by
  obtain ⟨cs, rfl, hsz⟩ := okWide_struct Tryz.underlying23 hv
  obtain ⟨fuel, hf⟩ := h
  obtain ⟨q, hm, hs⟩ := quT_of_trod hf
  refine ⟨q, ?_, hs⟩
  simp only [Value.cells] at hm
  congr 1
  apply Array.ext'
  exact hm

end
end Go.Proofs.YtignmeaeibaejaaGreat

