/- HH, HJ, HK -/
import Derived.Test.YtigffgjkakalfaaGreatDoorV20
/- The document's reader: a name. -/
namespace Go.Proofs.YtigffgjkakalfaaGreatDoor
open Go.RowKit

def aft : Option Nat → Int
  | none => -1
  | some q => q
/-- 1 while the reader is not bad. -/
def okAt (W : World) (k : Nat) : Nat := match W.cell? ⟨k, 2, none⟩ with
  | some (.bool false) => 1
  | _ => 0
theorem okAt_of {W : World} {k a : Nat} {t : ByteArray} {bad : Bool} (h : IsC k t a bad W) : okAt W k = if bad then 0 else 1 := by
  have c2 : W.cell? ⟨k, 2, none⟩ = some (.bool bad) := cellsAt h 2
  unfold okAt
  rw [c2]
  cases bad <;> rfl
/-- What lies there while the document's reader reads a name. -/
structure Cn (k : Nat) (t : ByteArray) (w : World) (RES : Option (List ByteArray × Nat)) (lv : Value) (bg : Nat) (p : Option Nat) (bad : Bool) (W : World) : Prop where
  rd : Rd k w W
  st : ∃ D b, OwnS w.heap.size W lv D ∧ IsC k t b bad W ∧ b ≤ 20000 ∧ (bad = true → RES = none) ∧ (bad = false → b ≤ t.size ∧ bg ≤ t.size ∧ D.length ≤ 8 ∧ (∀ l ∈ D, l.size ≤ 30) ∧ nmF t b bg D p = RES ∧ ∀ q, p = some q → q ≤ t.size)

set_option maxHeartbeats 1600000 in
set_option maxRecDepth 100000 in
theorem sname_b (k a : Nat) (t : ByteArray) (w : World) (h : IsC k t a false w) (hs : t.size ≤ 1000) (ha : a ≤ t.size) :
    Calls Tryz.prog 36 #[.pointer (some ⟨k, 0, none⟩)] w fun e w' => Hid (Rd k w w') ∧ ((∃ ls q, nmF t a a [] none = some (ls, q) ∧ (ls.length ≤ 8 ∧ ∀ l ∈ ls, l.size ≤ 30) ∧ q ≤ t.size ∧ e = .returned (.string (mk (jn (ls.map bts)))) ∧ Hid (IsC k t q false w')) ∨ (nmF t a a [] none = none ∧ e = .returned (.string ⟨#[]⟩) ∧ ∃ b, b ≤ 20000 ∧ Hid (IsC k t b true w'))) := by
  obtain ⟨i0, hi0, hz0, hzs, hzb⟩ := info_parts Tryz.info9
  have c1 : w.cell? ⟨k, 1, none⟩ = some (.int .i64 a) := cellsAt h 1
  have HI : Hid (IsC k t a false w) := h
  have hkw := h.lt
  clear h
  obtain ⟨RES, hRES⟩ : ∃ R, R = nmF t a a [] none := ⟨_, rfl⟩
  rw [← hRES]
  have HRES : Hid (nmF t a a [] none = RES) := hRES.symm
  clear hRES
  go_enter Tryz.func36, Tryz.ntmps36
  go_wp2_with fail
  go_loopw [3, 4, 5] (fun lv bv av wr => ∃ bg p bad, bv = .int .i64 (bg : Nat) ∧ av = .int .i64 (aft p) ∧ Hid (Cn k t w RES lv bg p bad wr)) (fun lv bv _ wr => okAt wr k * (1 + (intOf bv).toNat * 9 + (8 - lenOf lv)))
  case atStart => exact ⟨a, none, false, rfl, rfl, (⟨Rd.refl _ _, [], a, ownS_nil _ _, HI.out, by omega, (fun e => by cases e), fun _ => ⟨ha, ha, by simp, (fun l hl => by cases hl), HRES.out, fun q e => by cases e⟩⟩ : Cn k t w RES _ a none false w)⟩
  case round =>
    obtain ⟨bg, p, bad, rfl, rfl, HC⟩ := hrel
    obtain ⟨D, b, ho, hc, hb2, hbt, hbf⟩ := HC.out.st
    have HO : Hid (OwnS w.heap.size wr _ D) := ho
    have HCC : Hid (IsC k t b bad wr) := hc
    have HD : Hid (Rd k w wr) := HC.out.rd
    clear ho hc HC
    have c2 : wr.cell? ⟨k, 2, none⟩ = some (.bool bad) := cellsAt HCC.out 2
    cases bad with
    | true =>
      have HN : Hid (RES = none) := hbt rfl
      clear hbt hbf
      go_wp2_with fail
      go_ret
      exact ⟨HD, .inr ⟨HN.out, rfl, b, hb2, HCC⟩⟩
    | false =>
      obtain ⟨hb, hbg, hD8, hsm, hnm, hpq⟩ := hbf rfl
      have HSM : Hid (∀ l ∈ D, l.size ≤ 30) := hsm
      have HNM : Hid (nmF t b bg D p = RES) := hnm
      have HPQ : Hid (∀ q, p = some q → q ≤ t.size) := hpq
      have HMS : Hid (okAt wr k = 1) := okAt_of HCC.out
      clear hsm hnm hpq hbt hbf
      go_wp2_with fail
      refine (snum_b k b 1 t false wr HCC.out hs (by omega) (by omega) (by omega)).mono ?_
      rintro e w1 ⟨HD1, ⟨hle, rfl, HI1⟩ | ⟨hno, rfl, b1, _, hb1, HI1⟩⟩
      rotate_left
      · have HN : Hid (RES = none) := HNM.out.symm.trans (nmF_no (by omega))
        have d2 : w1.cell? ⟨k, 2, none⟩ = some (.bool true) := cellsAt HI1.out 2
        have HDD : Hid (Rd k w w1) := HD.out.trans HD1.out
        clear HNM
        go_wp2_with fail
        go_ret
        exact ⟨HDD, .inr ⟨HN.out, rfl, b1, hb1, HI1⟩⟩
      have HDD : Hid (Rd k w w1) := HD.out.trans HD1.out
      have HO1 : Hid (OwnS w.heap.size w1 _ D) := HD1.out.own HO.out hkw
      have d1 : w1.cell? ⟨k, 1, none⟩ = some (.int .i64 ((b + 1 : Nat) : Int)) := cellsAt HI1.out 1
      have d2 : w1.cell? ⟨k, 2, none⟩ = some (.bool false) := cellsAt HI1.out 2
      have z1 : w1.frozen? ⟨k, 1, none⟩ = false := frozenAt HI1.out 1
      have z2 : w1.frozen? ⟨k, 2, none⟩ = false := frozenAt HI1.out 2
      clear HD1 HD HO HCC c2
      by_cases h0 : rnum t b 1 = 0
      · have HR1 : Hid (RES = some (D, p.getD (b + 1))) := HNM.out.symm.trans (nmF_end (by omega) h0)
        rw [h0]
        clear h0 HNM
        cases p with
        | none =>
          have ha1 : aft none = -1 := rfl
          go_wp2_with fail
          refine (nameOf_any w.heap.size D _ w1 HO1.out (by omega) HSM.out).mono ?_
          rintro e w2 ⟨rfl, hw2⟩
          subst hw2
          go_wp2_with fail
          go_ret
          exact ⟨HDD, .inl ⟨D, b + 1, HR1.out, ⟨hD8, HSM.out⟩, hle, rfl, HI1⟩⟩
        | some q =>
          have ha1 : aft (some q) = (q : Int) := rfl
          have ha2 : decide ((0 : Int) ≤ (q : Int)) = true := by simp
          have hq := HPQ.out q rfl
          have HO2 : Hid (OwnS w.heap.size (w1.setCell ⟨k, 1, none⟩ (.int .i64 (q : Int))) _ D) := ((Rd.refl k w1).here 1 _).own HO1.out hkw
          go_wp2_with fail
          refine (nameOf_any w.heap.size D _ _ HO2.out (by omega) HSM.out).mono ?_
          rintro e w2 ⟨rfl, hw2⟩
          subst hw2
          go_wp2_with fail
          go_ret
          exact ⟨HDD.out.here 1 _, .inl ⟨D, q, HR1.out, ⟨hD8, HSM.out⟩, hq, rfl, HI1.out.at q⟩⟩
      · by_cases h192 : 192 ≤ rnum t b 1
        · have HR1 : Hid (RES = if b + 2 ≤ t.size ∧ rnum t b 2 - 49152 < bg then nmF t (rnum t b 2 - 49152) (rnum t b 2 - 49152) D (some (p.getD (b + 2))) else none) := HNM.out.symm.trans (nmF_rest (by omega) h192)
          have hf2 : rnum t b 2 = rnum t b 1 * 256 + rnum t (b + 1) 1 := by
            simp only [rnum, Nat.zero_mul, Nat.zero_add, Nat.add_zero]
          have hfl := rnum_lt t b 1
          have hgl := rnum_lt t (b + 1) 1
          have hm0 : ((rnum t b 1 : Int) == 0) = false := beq_eq_false_iff_ne.2 (by omega)
          have hm2 : decide ((192 : Int) ≤ (rnum t b 1 : Int)) = true := by simp; omega
          generalize rnum t b 1 = f at *
          generalize rnum t b 2 = f2 at *
          have hw1 : IntKind.i64.wrap ((f : Int) - 192) = (f : Int) - 192 := by rw [IntKind.wrap_i64]; omega
          have hw2 : IntKind.i64.wrap (((f : Int) - 192) * 256) = ((f : Int) - 192) * 256 := by rw [IntKind.wrap_i64]; omega
          clear HNM
          go_wp2_with fail
          refine (snum_b k (b + 1) 1 t false w1 HI1.out hs (by omega) (by omega) (by omega)).mono ?_
          rintro e w2 ⟨HD2, ⟨hle2, rfl, HI2⟩ | ⟨hno2, rfl, b3, _, hb3, HI2⟩⟩
          · generalize rnum t (b + 1) 1 = y at *
            obtain ⟨r, hr⟩ : ∃ r, r = f2 - 49152 := ⟨_, rfl⟩
            rw [← hr] at HR1
            have hr2 : r ≤ 20000 := by omega
            have hw3 : IntKind.i64.wrap (((f : Int) - 192) * 256 + (y : Int)) = (r : Int) := by rw [IntKind.wrap_i64]; omega
            have HO2 : Hid (OwnS w.heap.size w2 _ D) := HD2.out.own HO1.out hkw
            have HDE : Hid (Rd k w w2) := HDD.out.trans HD2.out
            have e1 : w2.cell? ⟨k, 1, none⟩ = some (.int .i64 ((b + 1 + 1 : Nat) : Int)) := cellsAt HI2.out 1
            have e2 : w2.cell? ⟨k, 2, none⟩ = some (.bool false) := cellsAt HI2.out 2
            have y1 : w2.frozen? ⟨k, 1, none⟩ = false := frozenAt HI2.out 1
            have y2 : w2.frozen? ⟨k, 2, none⟩ = false := frozenAt HI2.out 2
            have HIC : Hid (IsC k t r (decide (bg ≤ r)) ((w2.setCell ⟨k, 2, none⟩ (.bool (decide (bg ≤ r)))).setCell ⟨k, 1, none⟩ (.int .i64 (r : Int)))) := (HI2.out.spoil (decide (bg ≤ r))).at r
            have hpd : p.getD (b + 2) ≤ t.size := by
              cases p with
              | none => exact hle2
              | some q => exact HPQ.out q rfl
            have HCN : Hid (Cn k t w RES _ r (some (p.getD (b + 2))) (decide (bg ≤ r)) ((w2.setCell ⟨k, 2, none⟩ (.bool (decide (bg ≤ r)))).setCell ⟨k, 1, none⟩ (.int .i64 (r : Int)))) := (⟨(HDE.out.here 2 _).here 1 _, D, r, (((Rd.refl k w2).here 2 _).here 1 _).own HO2.out hkw, HIC.out, hr2, fun e => HR1.out.trans (if_neg (fun h => by have := of_decide_eq_true e; omega)), fun e => by
              have hrb : r < bg := by have := of_decide_eq_false e; omega
              refine ⟨by omega, by omega, hD8, HSM.out, (HR1.out.trans (if_pos ⟨hle2, hrb⟩)).symm, fun q e2 => ?_⟩
              rw [← Option.some.inj e2]; exact hpd⟩ : Cn _ _ _ _ _ _ _ _ _)
            have HMM : Hid (okAt ((w2.setCell ⟨k, 2, none⟩ (.bool (decide (bg ≤ r)))).setCell ⟨k, 1, none⟩ (.int .i64 (r : Int))) k * (1 + r * 9 + (8 - D.length)) < okAt wr k * (1 + bg * 9 + (8 - D.length))) := (show _ < _ by
              rw [okAt_of HIC.out, HMS.out]
              by_cases hrb : bg ≤ r
              · rw [decide_eq_true hrb]; simp; omega
              · rw [decide_eq_false hrb]; simp; omega)
            clear hr hf2 hfl hgl HD2 HI1 HO1 HDD d1 d2 z1 z2 hpd HIC HR1 HMS
            cases p with
            | none =>
              have ha1 : aft none = -1 := rfl
              go_wp2_with fail
              refine ⟨⟨r, _, _, rfl, ?_, HCN⟩, ?_⟩
              · simp [aft]; omega
              · rw [own_len HO2.out]; exact HMM.out
            | some q =>
              have ha1 : aft (some q) = (q : Int) := rfl
              have ha2 : decide ((q : Int) < 0) = false := by simp
              go_wp2_with fail
              refine ⟨⟨r, _, _, rfl, ?_, HCN⟩, ?_⟩
              · simp [aft]
              · rw [own_len HO2.out]; exact HMM.out
          · have HN : Hid (RES = none) := HR1.out.trans (if_neg (fun h => hno2 h.1))
            obtain ⟨r, hr⟩ : ∃ r, r = (f - 192) * 256 := ⟨_, rfl⟩
            have hr2 : r ≤ 20000 := by omega
            have hw3 : IntKind.i64.wrap (((f : Int) - 192) * 256) = (r : Int) := by rw [IntKind.wrap_i64]; omega
            have hw4 : ((f : Int) - 192) * 256 = (r : Int) := by omega
            have HO2 : Hid (OwnS w.heap.size w2 _ D) := HD2.out.own HO1.out hkw
            have HDE : Hid (Rd k w w2) := HDD.out.trans HD2.out
            have e1 : w2.cell? ⟨k, 1, none⟩ = some (.int .i64 (b3 : Int)) := cellsAt HI2.out 1
            have e2 : w2.cell? ⟨k, 2, none⟩ = some (.bool true) := cellsAt HI2.out 2
            have y1 : w2.frozen? ⟨k, 1, none⟩ = false := frozenAt HI2.out 1
            have y2 : w2.frozen? ⟨k, 2, none⟩ = false := frozenAt HI2.out 2
            have HIC : Hid (IsC k t r true ((w2.setCell ⟨k, 2, none⟩ (.bool true)).setCell ⟨k, 1, none⟩ (.int .i64 (r : Int)))) := (HI2.out.spoil true).at r
            have HCN : Hid (∀ p', Cn k t w RES _ r p' true ((w2.setCell ⟨k, 2, none⟩ (.bool true)).setCell ⟨k, 1, none⟩ (.int .i64 (r : Int)))) := fun p' => (⟨(HDE.out.here 2 _).here 1 _, D, r, (((Rd.refl k w2).here 2 _).here 1 _).own HO2.out hkw, HIC.out, hr2, fun _ => HN.out, fun e => by cases e⟩ : Cn _ _ _ _ _ _ _ _ _)
            have HMM : Hid (∀ x y z : Nat, okAt ((w2.setCell ⟨k, 2, none⟩ (.bool true)).setCell ⟨k, 1, none⟩ (.int .i64 (r : Int))) k * x < okAt wr k * (1 + y + z)) := (show ∀ _ _ _, _ from fun x y z => by
              rw [okAt_of HIC.out, HMS.out]; simp; omega)
            clear hr hf2 hfl hgl HD2 HI1 HO1 HDD d1 d2 z1 z2 HIC HR1 HMS
            cases p with
            | none =>
              have ha1 : aft none = -1 := rfl
              go_wp2_with fail
              exact ⟨⟨r, some b3, true, rfl, rfl, HCN.out _⟩, HMM.out _ _ _⟩
            | some q =>
              have ha1 : aft (some q) = (q : Int) := rfl
              have ha2 : decide ((q : Int) < 0) = false := by simp
              go_wp2_with fail
              exact ⟨⟨r, some q, true, rfl, rfl, HCN.out _⟩, HMM.out _ _ _⟩
        · have HR1 : Hid (RES = if b + 1 + rnum t b 1 ≤ t.size ∧ labB (lwS (t.extract (b + 1) (b + 1 + rnum t b 1))) = true ∧ D.length < 8 then nmF t (b + 1 + rnum t b 1) bg (D ++ [lwS (t.extract (b + 1) (b + 1 + rnum t b 1))]) p else none) := HNM.out.symm.trans (nmF_label (by omega) h0 h192)
          have hm0 : ((rnum t b 1 : Int) == 0) = false := beq_eq_false_iff_ne.2 (by omega)
          have hm2 : decide ((192 : Int) ≤ (rnum t b 1 : Int)) = false := by simp; omega
          generalize rnum t b 1 = f at *
          clear HNM
          go_wp2_with fail
          have HLB0 : Hid (Lb k b f t 0 ⟨#[]⟩ w1) := (show Lb _ _ _ _ _ _ _ from ⟨rfl, .inl ⟨hle, (by apply ba_ext; simp [lwS, mk]), HI1.out⟩⟩)
          have HLS : Hid (∀ i x W, Lb k b f t i x W → i < f → Calls Tryz.prog 35 #[.pointer (some ⟨k, 0, none⟩), .int .i64 1] W fun e w' => Hid (Rd k W w') ∧ ∃ v : UInt8, e = .returned (.int .i64 (v.toNat : Nat)) ∧ Hid (Lb k b f t (i + 1) (x ++ ⟨#[lwb v]⟩) w')) := fun i x W hx hi => lb_step k b f i t x W hx hs hi
          have hf191 : f ≤ 191 := by omega
          clear d1 d2 z1 z2
          go_loopw [8, 9] (fun vs vi wi => ∃ i x, vs = .string x ∧ vi = .int .i64 (i : Nat) ∧ i ≤ f ∧ Hid (Lb k b f t i x wi) ∧ Hid (Rd k w1 wi)) (fun _ vi _ => f - (intOf vi).toNat)
          case atStart => exact ⟨0, _, rfl, rfl, by omega, HLB0, Rd.refl _ _⟩
          case round =>
            obtain ⟨i, x, rfl, rfl, hif, HLB, HDI⟩ := hrel
            have hxs : x.size = i := HLB.out.1
            by_cases hi : i < f
            · have hd : decide ((i : Int) < (f : Int)) = true := by simp; omega
              have hss : ¬ 9223372036854775807 < x.size + 1 := by omega
              go_wp2_with fail
              refine (HLS.out i x _ HLB.out hi).mono ?_
              rintro e w3 ⟨HD3, v, rfl, HL3⟩
              have hv := v.toNat_lt
              have HDI2 : Hid (Rd k w1 w3) := HDI.out.trans HD3.out
              have HL4 : Hid (∀ o, Hid (Lb k b f t (i + 1) (x ++ ⟨#[lwb v]⟩) (w3.alloc o))) := fun o => HL3.out.ext ((World.Extends.refl _).alloc o)
              by_cases hc : 65 ≤ v.toNat ∧ v.toNat ≤ 90
              · have hl : (lwb v).toNat = v.toNat + 32 := by
                  unfold lwb; rw [if_pos hc]; show (v.toNat + 32) % 256 = _; omega
                have h1 : decide ((65 : Int) ≤ (v.toNat : Int)) = true := by simp; omega
                have h2 : decide ((v.toNat : Int) ≤ 90) = true := by simp; omega
                have hw : Sem.run Tryz.prog (convert 117 9 (.slice (some ⟨w3.heap.size, 0, none⟩) 1 1)) (w3.alloc (.cells #[.int .u8 ((v.toNat : Int) + 32)] 5)) = .ok (.string ⟨#[lwb v]⟩) (w3.alloc (.cells #[.int .u8 ((v.toNat : Int) + 32)] 5)) := by
                  have e : ((v.toNat : Int) + 32) = ((lwb v).toNat : Int) := by rw [hl]; simp
                  rw [e]; exact conv_one w3 _
                generalize lwb v = lc at *
                generalize v.toNat = vn at *
                go_wp2_with fail
                exact ⟨⟨i + 1, _, rfl, by simp, by omega, HL4.out _, HDI2.out.trans (Rd.ext ((World.Extends.refl _).alloc _))⟩, by simp [intOf]; omega⟩
              · have hl : (lwb v).toNat = v.toNat := by unfold lwb; rw [if_neg hc]
                have hw : Sem.run Tryz.prog (convert 117 9 (.slice (some ⟨w3.heap.size, 0, none⟩) 1 1)) (w3.alloc (.cells #[.int .u8 (v.toNat : Int)] 5)) = .ok (.string ⟨#[lwb v]⟩) (w3.alloc (.cells #[.int .u8 (v.toNat : Int)] 5)) := by
                  have e : (v.toNat : Int) = ((lwb v).toNat : Int) := by rw [hl]
                  rw [e]; exact conv_one w3 _
                generalize lwb v = lc at *
                generalize v.toNat = vn at *
                by_cases h65 : 65 ≤ vn
                · have h1 : decide ((65 : Int) ≤ (vn : Int)) = true := by simp; omega
                  have h2 : decide ((vn : Int) ≤ 90) = false := by simp; omega
                  go_wp2_with fail
                  exact ⟨⟨i + 1, _, rfl, by simp, by omega, HL4.out _, HDI2.out.trans (Rd.ext ((World.Extends.refl _).alloc _))⟩, by simp [intOf]; omega⟩
                · have h1 : decide ((65 : Int) ≤ (vn : Int)) = false := by simp; omega
                  go_wp2_with fail
                  exact ⟨⟨i + 1, _, rfl, by simp, by omega, HL4.out _, HDI2.out.trans (Rd.ext ((World.Extends.refl _).alloc _))⟩, by simp [intOf]; omega⟩
            · have hd : decide ((i : Int) < (f : Int)) = false := by simp; omega
              have hi2 : i = f := by omega
              subst hi2
              have HOI : Hid (OwnS w.heap.size wr _ D) := HDI.out.own HO1.out hkw
              have HDX : Hid (Rd k w wr) := HDD.out.trans HDI.out
              obtain ⟨pp, c, hv⟩ := own_shape HOI.out
              subst hv
              have hls : x.size ≤ maxLen := by unfold maxLen; omega
              obtain ⟨_, ⟨g2, g3, g4⟩ | ⟨g2, q, g3, g4⟩⟩ := HLB.out
              · have HIX : Hid (IsC k t (b + 1 + i) false wr) := g4
                have e2 : wr.cell? ⟨k, 2, none⟩ = some (.bool false) := cellsAt g4 2
                have y2 : wr.frozen? ⟨k, 2, none⟩ = false := frozenAt g4 2
                have HXE : Hid (x = lwS (t.extract (b + 1) (b + 1 + i))) := g3
                have HRX : Hid (RES = if b + 1 + i ≤ t.size ∧ labB x = true ∧ D.length < 8 then nmF t (b + 1 + i) bg (D ++ [x]) p else none) := (show _ = _ by rw [HXE.out]; exact HR1.out)
                have hl30 : labB x = true → x.size ≤ 30 := fun h => (lab_size h).2
                have hsz := HDX.out.size
                clear g3 g4 HLB HLB0 HLS HR1
                go_wp2_with fail
                refine (isLabel_any x wr hls).mono ?_
                rintro e w5 ⟨rfl, hw5⟩
                subst hw5
                have HOJ : Hid (OwnS w.heap.size (w5.setCell ⟨k, 2, none⟩ (.bool (!labB x))) (.slice pp D.length c) D) := ((Rd.refl k w5).here 2 _).own HOI.out hkw
                generalize labB x = lb at *
                go_wp2_with (at_builtin; refine wpList_append_own_at _ rfl _ _ 115 rfl w.heap.size 9 i0 _ 1 16 Tryz.underlying115 hi0 hz0 hzs hzb rfl (by omega) _ D.length (D.map Value.string) rfl ?hown ⟨w5.heap.size, 0, none⟩ 1 1 [.string x] rfl rfl ?hnews (strs_one [_]) ?h63 ?hbytes ?hbase ?_)
                case hown => exact HOJ.out.below ((Below.refl _ _).alloc (Nat.le_refl _) _)
                case hnews => (intro j u hj; have h := cell_one_new (w5.setCell ⟨k, 2, none⟩ (.bool (!lb))) (.string x) 9 j u hj; simpa using h)
                case h63 => (unfold maxLen; omega)
                case hbytes => omega
                case hbase => (simp; omega)
                intro v' w6 r1 r2 r3 r4
                have HO6 : Hid (OwnS w.heap.size w6 v' (D ++ [x])) := ownS_snoc (l := D) r1
                have hk5 : k < w5.heap.size := HIX.out.lt
                have hne : ∀ j, j < w.heap.size → some j ≠ (Value.slice pp D.length c).ownBlock := fun j hj e => by have := (HOI.out.lt _ e.symm).1; omega
                have HB6 : Hid (∀ j, j < w.heap.size → w6.heap[j]? = (w5.setCell ⟨k, 2, none⟩ (.bool (!lb))).heap[j]?) := fun j hj => (r2.block j (by simp; omega) (hne j hj)).trans (Lib.alloc_old _ _ _ (by simp; omega))
                have HI6 : Hid (IsC k t (b + 1 + i) (!lb) w6) := (HB6.out k hkw).trans (HIX.out.spoil (!lb))
                have HD6 : Hid (Rd k w w6) := (⟨r2.os.trans HDX.out.os, r2.tape.trans HDX.out.tape, r2.output.trans HDX.out.output, by have := r2.size; simp at this; omega, fun j hj hjk => (HB6.out j hj).trans ((Below.heap_setCell w5 _ _ j (by simpa using hjk)).trans (HDX.out.block j hj hjk))⟩ : Rd k w w6)
                obtain ⟨p6, c6, hv6⟩ := own_shape HO6.out
                subst hv6
                rw [List.length_append, List.length_singleton] at *
                have f2 : w6.cell? ⟨k, 2, none⟩ = some (.bool (!lb)) := cellsAt HI6.out 2
                have z6 : w6.frozen? ⟨k, 2, none⟩ = false := frozenAt HI6.out 2
                clear r1 r2 r3 r4 HB6 hne HOJ e2 y2
                by_cases hD : D.length < 8
                · have hd9 : decide ((8 : Int) < ((D.length + 1 : Nat) : Int)) = false := by simp; omega
                  have HCN : Hid (Cn k t w RES (.slice p6 (D.length + 1) c6) bg p (!lb) w6) := (⟨HD6.out, D ++ [x], b + 1 + i, HO6.out, HI6.out, by omega, fun e => HRX.out.trans (if_neg (fun h => by rw [h.2.1] at e; cases e)), fun e => by
                    have hlb : lb = true := by cases lb <;> simp_all
                    refine ⟨g2, hbg, by rw [List.length_append, List.length_singleton]; omega, fun l hl => ?_, (HRX.out.trans (if_pos ⟨g2, hlb, hD⟩)).symm, HPQ.out⟩
                    rcases List.mem_append.1 hl with h | h
                    · exact HSM.out l h
                    · rw [List.mem_singleton.1 h]; exact hl30 hlb⟩ : Cn _ _ _ _ _ _ _ _ _)
                  go_wp2_with fail
                  refine ⟨⟨bg, p, !lb, rfl, rfl, HCN⟩, ?_⟩
                  rw [okAt_of HI6.out, HMS.out]
                  cases lb <;> simp [intOf, lenOf] <;> omega
                · have hd9 : decide ((8 : Int) < ((D.length + 1 : Nat) : Int)) = true := by simp; omega
                  have HI7 : Hid (IsC k t (b + 1 + i) true (w6.setCell ⟨k, 2, none⟩ (.bool true))) := HI6.out.spoil true
                  have HO7 : Hid (OwnS w.heap.size (w6.setCell ⟨k, 2, none⟩ (.bool true)) (.slice p6 (D.length + 1) c6) (D ++ [x])) := ((Rd.refl k w6).here 2 _).own HO6.out hkw
                  have HCN : Hid (Cn k t w RES (.slice p6 (D.length + 1) c6) bg p true (w6.setCell ⟨k, 2, none⟩ (.bool true))) := (⟨HD6.out.here 2 _, D ++ [x], b + 1 + i, HO7.out, HI7.out, by omega, fun _ => HRX.out.trans (if_neg (fun h => hD h.2.2)), fun e => by cases e⟩ : Cn _ _ _ _ _ _ _ _ _)
                  go_wp2_with fail
                  refine ⟨⟨bg, p, true, rfl, rfl, HCN⟩, ?_⟩
                  rw [okAt_of HI7.out, HMS.out]
                  simp
                  omega
              · have HIX : Hid (IsC k t q true wr) := g4
                have e2 : wr.cell? ⟨k, 2, none⟩ = some (.bool true) := cellsAt g4 2
                have y2 : wr.frozen? ⟨k, 2, none⟩ = false := frozenAt g4 2
                have HRX : Hid (RES = none) := (show _ = _ from HR1.out.trans (if_neg (fun h => g2 h.1)))
                have hsz := HDX.out.size
                have HOJ : Hid (OwnS w.heap.size (wr.setCell ⟨k, 2, none⟩ (.bool true)) (.slice pp D.length c) D) := ((Rd.refl k wr).here 2 _).own HOI.out hkw
                clear g4 HLB HLB0 HLS HR1
                go_wp2_with (at_builtin; refine wpList_append_own_at _ rfl _ _ 115 rfl w.heap.size 9 i0 _ 1 16 Tryz.underlying115 hi0 hz0 hzs hzb rfl (by omega) _ D.length (D.map Value.string) rfl ?hown ⟨wr.heap.size, 0, none⟩ 1 1 [.string x] rfl rfl ?hnews (strs_one [_]) ?h63 ?hbytes ?hbase ?_)
                case hown => exact HOJ.out.below ((Below.refl _ _).alloc (Nat.le_refl _) _)
                case hnews => (intro j u hj; have h := cell_one_new (wr.setCell ⟨k, 2, none⟩ (.bool true)) (.string x) 9 j u hj; simpa using h)
                case h63 => (unfold maxLen; omega)
                case hbytes => omega
                case hbase => (simp; omega)
                intro v' w6 r1 r2 r3 r4
                have HO6 : Hid (OwnS w.heap.size w6 v' (D ++ [x])) := ownS_snoc (l := D) r1
                have hk5 : k < wr.heap.size := HIX.out.lt
                have hne : ∀ j, j < w.heap.size → some j ≠ (Value.slice pp D.length c).ownBlock := fun j hj e => by have := (HOI.out.lt _ e.symm).1; omega
                have HB6 : Hid (∀ j, j < w.heap.size → w6.heap[j]? = (wr.setCell ⟨k, 2, none⟩ (.bool true)).heap[j]?) := fun j hj => (r2.block j (by simp; omega) (hne j hj)).trans (Lib.alloc_old _ _ _ (by simp; omega))
                have HI6 : Hid (IsC k t q true w6) := (HB6.out k hkw).trans (HIX.out.spoil true)
                have HD6 : Hid (Rd k w w6) := (⟨r2.os.trans HDX.out.os, r2.tape.trans HDX.out.tape, r2.output.trans HDX.out.output, by have := r2.size; simp at this; omega, fun j hj hjk => (HB6.out j hj).trans ((Below.heap_setCell wr _ _ j (by simpa using hjk)).trans (HDX.out.block j hj hjk))⟩ : Rd k w w6)
                obtain ⟨p6, c6, hv6⟩ := own_shape HO6.out
                subst hv6
                rw [List.length_append, List.length_singleton] at *
                have f2 : w6.cell? ⟨k, 2, none⟩ = some (.bool true) := cellsAt HI6.out 2
                have z6 : w6.frozen? ⟨k, 2, none⟩ = false := frozenAt HI6.out 2
                clear r1 r2 r3 r4 HB6 hne HOJ e2 y2
                by_cases hD : D.length < 8
                · have hd9 : decide ((8 : Int) < ((D.length + 1 : Nat) : Int)) = false := by simp; omega
                  have HCN : Hid (Cn k t w RES (.slice p6 (D.length + 1) c6) bg p true w6) := (⟨HD6.out, D ++ [x], q, HO6.out, HI6.out, g3, fun _ => HRX.out, fun e => by cases e⟩ : Cn _ _ _ _ _ _ _ _ _)
                  go_wp2_with fail
                  refine ⟨⟨bg, p, true, rfl, rfl, HCN⟩, ?_⟩
                  rw [okAt_of HI6.out, HMS.out]
                  simp
                  omega
                · have hd9 : decide ((8 : Int) < ((D.length + 1 : Nat) : Int)) = true := by simp; omega
                  have HI7 : Hid (IsC k t q true (w6.setCell ⟨k, 2, none⟩ (.bool true))) := HI6.out.spoil true
                  have HO7 : Hid (OwnS w.heap.size (w6.setCell ⟨k, 2, none⟩ (.bool true)) (.slice p6 (D.length + 1) c6) (D ++ [x])) := ((Rd.refl k w6).here 2 _).own HO6.out hkw
                  have HCN : Hid (Cn k t w RES (.slice p6 (D.length + 1) c6) bg p true (w6.setCell ⟨k, 2, none⟩ (.bool true))) := (⟨HD6.out.here 2 _, D ++ [x], q, HO7.out, HI7.out, g3, fun _ => HRX.out, fun e => by cases e⟩ : Cn _ _ _ _ _ _ _ _ _)
                  go_wp2_with fail
                  refine ⟨⟨bg, p, true, rfl, rfl, HCN⟩, ?_⟩
                  rw [okAt_of HI7.out, HMS.out]
                  simp
                  omega

end Go.Proofs.YtigffgjkakalfaaGreatDoor

/- The document's reader, in whatever state it is. -/
namespace Go.Proofs.YtigffgjkakalfaaGreatDoor
open Go.RowKit

/-- What a number of n bytes at a says: v, and the reader is at b. -/
def NumL (t : ByteArray) (a n : Nat) (bad : Bool) (v b : Nat) (bad2 : Bool) : Prop :=
  (bad2 = false → bad = false ∧ a + n ≤ t.size ∧ v = rnum t a n ∧ b = a + n) ∧ (bad2 = true → bad = true ∨ (¬ a + n ≤ t.size ∧ v = 0 ∧ t.size ≤ b))
def NamL (t : ByteArray) (a : Nat) (bad : Bool) (s : ByteArray) (b : Nat) (bad2 : Bool) : Prop :=
  (bad2 = false → bad = false ∧ tgF t a = some (s, b) ∧ b ≤ t.size) ∧ (bad2 = true → bad = true ∨ tgF t a = none)

theorem snum_l (k a n : Nat) (t : ByteArray) (bad : Bool) (w : World) (h : IsC k t a bad w) (hs : t.size ≤ 1000) (hn : n ≤ 4) (hn0 : 0 < n) (ha : a ≤ 20000) :
    Calls Tryz.prog 35 #[.pointer (some ⟨k, 0, none⟩), .int .i64 n] w fun e w' => ∃ (v b : Nat) (bad2 : Bool), e = .returned (.int .i64 v) ∧ b ≤ 20000 ∧ v < 256 ^ n ∧ Hid (Rd k w w') ∧ Hid (IsC k t b bad2 w') ∧ Hid (NumL t a n bad v b bad2) := by
  refine (snum_b k a n t bad w h hs hn hn0 ha).mono ?_
  rintro e w' ⟨h1, ⟨h2, h3, h4⟩ | ⟨h2, h3, b, h6, h4, h5⟩⟩
  · refine ⟨rnum t a n, a + n, bad, h3, by omega, rnum_lt t a n, h1, h4, (show NumL _ _ _ _ _ _ _ from ⟨fun e => ⟨e, h2, rfl, rfl⟩, fun e => .inl e⟩)⟩
  · exact ⟨0, b, true, h3, h4, Nat.pow_pos (by omega), h1, h5, (show NumL _ _ _ _ _ _ _ from ⟨(fun e => by cases e), fun _ => .inr ⟨h2, rfl, h6⟩⟩)⟩

theorem sname_l (k a : Nat) (t : ByteArray) (bad : Bool) (w : World) (h : IsC k t a bad w) (hs : t.size ≤ 1000) (ha : a ≤ 20000) (hb : bad = false → a ≤ t.size) :
    Calls Tryz.prog 36 #[.pointer (some ⟨k, 0, none⟩)] w fun e w' => ∃ (s : ByteArray) (b : Nat) (bad2 : Bool), e = .returned (.string s) ∧ b ≤ 20000 ∧ s.size ≤ 1000 ∧ Hid (Rd k w w') ∧ Hid (IsC k t b bad2 w') ∧ Hid (NamL t a bad s b bad2) := by
  cases bad with
  | true =>
    refine (sname_bad k a t w h).mono ?_
    rintro e w' ⟨h1, h2, h3⟩
    exact ⟨⟨#[]⟩, a, true, h1, ha, by exact Nat.zero_le _, h2, h3, (show NamL _ _ _ _ _ _ from ⟨(fun e => by cases e), fun _ => .inl rfl⟩)⟩
  | false =>
    refine (sname_b k a t w h hs (hb rfl)).mono ?_
    rintro e w' ⟨h1, ⟨ls, q, h2, ⟨g1, g2⟩, h3, h4, h5⟩ | ⟨h2, h3, b, h4, h5⟩⟩
    · refine ⟨_, q, false, h4, by omega, ?_, h1, h5, (show NamL _ _ _ _ _ _ from ⟨fun _ => ⟨rfl, by unfold tgF; rw [h2]; rfl, h3⟩, fun e => by cases e⟩)⟩
      rw [mk_size]
      have := jn_len ls g2
      omega
    · exact ⟨_, b, true, h3, h4, by exact Nat.zero_le _, h1, h5, (show NamL _ _ _ _ _ _ from ⟨(fun e => by cases e), fun _ => .inr (by unfold tgF; rw [h2]; rfl)⟩)⟩

/-- What lies there while the document's reader reads a message. -/
structure Sc (w : World) (t : ByteArray) (mb a : Nat) (bad : Bool) (mc : Array Value) (W : World) : Prop where
  sc : IsC (w.heap.size + 1) t a bad W
  bl : Below w.heap.size w W
  qx : W.heap[w.heap.size]? = some (.cells zmsg 38 (0, 0))
  bx : W.heap[mb]? = some (.cells mc 38 (0, 0))
  lt : w.heap.size + 1 < mb
variable {w W W' : World} {t : ByteArray} {mb a b : Nat} {bad bad2 : Bool} {mc : Array Value}
theorem Sc.lm (h : Sc w t mb a bad mc W) : mb < W.heap.size := (Array.getElem?_eq_some_iff.1 h.bx).1
theorem Sc.call (h : Sc w t mb a bad mc W) (h1 : Hid (IsC (w.heap.size + 1) t b bad2 W')) (h2 : Hid (Rd (w.heap.size + 1) W W')) : Sc w t mb b bad2 mc W' := by
  have hl := h.lt
  have hm := h.lm
  exact ⟨h1.out, ⟨h2.out.os.trans h.bl.os, h2.out.tape.trans h.bl.tape, h2.out.output.trans h.bl.output, Nat.le_trans h.bl.size h2.out.size, fun j hj => (h2.out.block j (by omega) (by omega)).trans (h.bl.block j hj)⟩, (h2.out.block _ (by omega) (by omega)).trans h.qx, (h2.out.block _ hm (by omega)).trans h.bx, hl⟩
theorem Sc.keep (h : Sc w t mb a bad mc W) (hx : W.Extends W') : Sc w t mb a bad mc W' :=
  h.call ((hx.block _ h.sc.lt).trans h.sc : IsC _ _ _ _ _) (Rd.ext hx : Rd _ W W')
theorem Sc.below (h : Sc w t mb a bad mc W) (hb : Below W.heap.size W W') : Sc w t mb a bad mc W' :=
  h.call ((hb.block _ h.sc.lt).trans h.sc : IsC _ _ _ _ _) (Rd.of_below hb (Nat.le_refl _) : Rd _ W W')
theorem Sc.grown {row : Option Nat} (h : Sc w t mb a bad mc W) (hg : W.grownBy W' row) (hne : ∀ q, q < mb + 1 → some q ≠ row) : Sc w t mb a bad mc W' := by
  have hl := h.lt
  have hm := h.lm
  have hblk : ∀ q, q < mb + 1 → W'.heap[q]? = W.heap[q]? := fun q hq => hg.block q (by omega) (hne q hq)
  exact ⟨(hblk _ (by omega)).trans h.sc, ⟨hg.os.trans h.bl.os, hg.tape.trans h.bl.tape, hg.output.trans h.bl.output, Nat.le_trans h.bl.size hg.size, fun j hj => (hblk j (by omega)).trans (h.bl.block j hj)⟩, (hblk _ (by omega)).trans h.qx, (hblk _ (by omega)).trans h.bx, hl⟩
theorem Sc.other (h : Sc w t mb a bad mc W) (g i : Nat) (v : Value) (hg : mb < g) : Sc w t mb a bad mc (W.setCell ⟨g, i, none⟩ v) := by
  have hl := h.lt
  have e : ∀ j, j ≠ g → (W.setCell ⟨g, i, none⟩ v).heap[j]? = W.heap[j]? := fun j hj => Below.heap_setCell W _ _ j (by simpa using hj)
  exact ⟨(e _ (by omega)).trans h.sc, ⟨h.bl.os, h.bl.tape, h.bl.output, by simpa using h.bl.size, fun j hj => (e j (by omega)).trans (h.bl.block j hj)⟩, (e _ (by omega)).trans h.qx, (e _ (by omega)).trans h.bx, hl⟩
theorem Sc.store (h : Sc w t mb a bad mc W) (i : Nat) (v : Value) : Sc w t mb a bad (mc.setIfInBounds i v) (W.setCell ⟨mb, i, none⟩ v) := by
  have hl := h.lt
  have e : ∀ j, j ≠ mb → (W.setCell ⟨mb, i, none⟩ v).heap[j]? = W.heap[j]? := fun j hj => Below.heap_setCell W _ _ j (by simpa using hj)
  exact ⟨(e _ (by omega)).trans h.sc, ⟨h.bl.os, h.bl.tape, h.bl.output, by simpa using h.bl.size, fun j hj => (e j (by omega)).trans (h.bl.block j hj)⟩, (e _ (by omega)).trans h.qx, Joins.block_setCell (i := i) h.bx v, hl⟩
theorem Sc.mark (h : Sc w t mb a bad mc W) (b : Bool) : Sc w t mb a b mc (W.setCell ⟨w.heap.size + 1, 2, none⟩ (.bool b)) :=
  h.call (h.sc.spoil b : IsC _ _ _ _ _) ((Rd.refl _ W).here 2 _ : Rd _ _ _)
theorem Sc.at (h : Sc w t mb a bad mc W) (b : Nat) : Sc w t mb b bad mc (W.setCell ⟨w.heap.size + 1, 1, none⟩ (.int .i64 b)) :=
  h.call (h.sc.at b : IsC _ _ _ _ _) ((Rd.refl _ W).here 1 _ : Rd _ _ _)
theorem Sc.cell (h : Sc w t mb a bad mc W) (i : Nat) : W.cell? ⟨mb, i, none⟩ = mc[i]? := cellsAt h.bx i
theorem Sc.free (h : Sc w t mb a bad mc W) (i : Nat) : W.frozen? ⟨mb, i, none⟩ = false := frozenAt h.bx i
theorem Sc.qcell (h : Sc w t mb a bad mc W) (i : Nat) : W.cell? ⟨w.heap.size, i, none⟩ = zmsg[i]? := cellsAt h.qx i
theorem Sc.qfree (h : Sc w t mb a bad mc W) (i : Nat) : W.frozen? ⟨w.heap.size, i, none⟩ = false := frozenAt h.qx i
theorem Sc.sat (h : Sc w t mb a bad mc W) : W.cell? ⟨w.heap.size + 1, 1, none⟩ = some (.int .i64 a) := cellsAt h.sc 1
theorem Sc.sbad (h : Sc w t mb a bad mc W) : W.cell? ⟨w.heap.size + 1, 2, none⟩ = some (.bool bad) := cellsAt h.sc 2
theorem Sc.sfree (h : Sc w t mb a bad mc W) (i : Nat) : W.frozen? ⟨w.heap.size + 1, i, none⟩ = false := frozenAt h.sc i
/-- The result's block is written. -/
theorem atop {v : Value} {B k : Nat} (i : Nat) (h : Below B w W) (hk : B ≤ k) : Below B w (W.setCell ⟨k, i, none⟩ v) :=
  ⟨h.os, h.tape, h.output, by simpa using h.size, fun j hj => (Below.heap_setCell W _ _ j (by simp; omega)).trans (h.block j hj)⟩

/-- What lies there while the document's reader reads a record: since wr the reader moved, and the record's box is new. -/
structure Sr (k rb : Nat) (t : ByteArray) (wr : World) (a : Nat) (bad : Bool) (rc : Array Value) (W : World) : Prop where
  rd : Rd k wr W
  sc : IsC k t a bad W
  rx : W.heap[rb]? = some (.cells rc 51 (0, 0))
  lr : wr.heap.size ≤ rb
  lk : k < wr.heap.size
variable {k rb : Nat} {wr : World} {rc : Array Value}
theorem Sr.call (h : Sr k rb t wr a bad rc W) (h1 : Hid (IsC k t b bad2 W')) (h2 : Hid (Rd k W W')) : Sr k rb t wr b bad2 rc W' :=
  ⟨h.rd.trans h2.out, h1.out, (h2.out.block rb (Array.getElem?_eq_some_iff.1 h.rx).1 (by have := h.lr; have := h.lk; omega)).trans h.rx, h.lr, h.lk⟩
theorem Sr.store (h : Sr k rb t wr a bad rc W) (i : Nat) (v : Value) : Sr k rb t wr a bad (rc.setIfInBounds i v) (W.setCell ⟨rb, i, none⟩ v) :=
  ⟨h.rd.put i v h.lr, (Below.heap_setCell W _ _ k (by have := h.lr; have := h.lk; simp; omega)).trans h.sc, Joins.block_setCell (i := i) h.rx v, h.lr, h.lk⟩
theorem Sr.mark (h : Sr k rb t wr a bad rc W) (b : Bool) : Sr k rb t wr a b rc (W.setCell ⟨k, 2, none⟩ (.bool b)) :=
  h.call (h.sc.spoil b : IsC _ _ _ _ _) ((Rd.refl _ W).here 2 _ : Rd _ _ _)
theorem Sr.at (h : Sr k rb t wr a bad rc W) (b : Nat) : Sr k rb t wr b bad rc (W.setCell ⟨k, 1, none⟩ (.int .i64 b)) :=
  h.call (h.sc.at b : IsC _ _ _ _ _) ((Rd.refl _ W).here 1 _ : Rd _ _ _)
theorem Sr.drewN (h : Sr k rb t wr a bad rc W) (m : Nat) : Sr k rb t wr a bad rc (W.drewN m) :=
  h.call (h.sc.drewN m : IsC _ _ _ _ _) (rd_drewN k W m : Rd _ _ _)
theorem Sr.ext (h : Sr k rb t wr a bad rc W) (hx : W.Extends W') : Sr k rb t wr a bad rc W' :=
  h.call ((hx.block _ h.sc.lt).trans h.sc : IsC _ _ _ _ _) (Rd.ext hx : Rd _ W W')
theorem Sr.cell (h : Sr k rb t wr a bad rc W) (i : Nat) : W.cell? ⟨rb, i, none⟩ = rc[i]? := cellsAt h.rx i
theorem Sr.free (h : Sr k rb t wr a bad rc W) (i : Nat) : W.frozen? ⟨rb, i, none⟩ = false := frozenAt h.rx i
theorem Sr.sat (h : Sr k rb t wr a bad rc W) : W.cell? ⟨k, 1, none⟩ = some (.int .i64 a) := cellsAt h.sc 1
theorem Sr.sbad (h : Sr k rb t wr a bad rc W) : W.cell? ⟨k, 2, none⟩ = some (.bool bad) := cellsAt h.sc 2
theorem Sr.sfree (h : Sr k rb t wr a bad rc W) (i : Nat) : W.frozen? ⟨k, i, none⟩ = false := frozenAt h.sc i

end Go.Proofs.YtigffgjkakalfaaGreatDoor

/- What the document's reader finds, in the words of msgF. -/
namespace Go.Proofs.YtigffgjkakalfaaGreatDoor
open Go.RowKit

theorem rnum_four (t : ByteArray) (a : Nat) : rnum t a 4 = rnum t a 2 * 65536 + rnum t (a + 2) 2 := by
  have e : a + 2 + 1 = a + 3 := rfl
  simp only [rnum, Nat.zero_mul, Nat.zero_add, Nat.add_zero, e]
  omega

theorem msgF_short {t : ByteArray} (h : ¬ 12 ≤ t.size) : msgF t = none := by
  unfold msgF msgS
  by_cases h1 : 0 + 2 ≤ t.size
  · rw [if_pos h1]
    by_cases h2 : 2 + 1 ≤ t.size
    · rw [if_pos h2]
      repeat' split
      all_goals first | rfl | (exfalso; omega)
    · rw [if_neg h2]
  · rw [if_neg h1]

theorem flg_is (a b : Bool) : flg a b = 0 ∨ flg a b = 2 ∨ flg a b = 128 ∨ flg a b = 130 := by
  cases a <;> cases b <;> simp [flg]

def flB (f : Nat) : Prop := f = 0 ∨ f = 2 ∨ f = 128 ∨ f = 130
theorem msgF_head {t : ByteArray} (h : 12 ≤ t.size) (hf : flB (rnum t 2 1)) (h4 : rnum t 4 2 = 1) (h8 : rnum t 8 4 = 0) :
    msgF t = msgT t (rnum t 0 2) (decide (128 ≤ rnum t 2 1)) (decide (2 ≤ rnum t 2 1 % 4)) (rnum t 3 1) (rnum t 6 2) (tgF t 12) := by
  have h82 : rnum t 8 4 = rnum t 8 2 * 65536 + rnum t 10 2 := rnum_four t 8
  unfold msgF
  rw [if_pos (by omega), if_pos (by omega)]
  have h1 : (bits .and .i64 (rnum t 2 1 : Int) 128 != 0) = decide (128 ≤ rnum t 2 1) := by
    rcases hf with e | e | e | e <;> rw [e] <;> decide
  have h2 : (bits .and .i64 (rnum t 2 1 : Int) 2 != 0) = decide (2 ≤ rnum t 2 1 % 4) := by
    rcases hf with e | e | e | e <;> rw [e] <;> decide
  have h3 : (rnum t 2 1 : Int) = flg (decide (128 ≤ rnum t 2 1)) (decide (2 ≤ rnum t 2 1 % 4)) := by
    rcases hf with e | e | e | e <;> rw [e] <;> decide
  rw [h1, h2]
  unfold msgS
  rw [if_pos h3, if_pos (by omega), if_pos ⟨by omega, by omega⟩, if_pos (by omega), if_pos ⟨by omega, by omega⟩, if_pos ⟨by omega, by omega⟩]
theorem msgF_nohead {t : ByteArray} (h : ¬ flB (rnum t 2 1) ∨ rnum t 4 2 ≠ 1 ∨ rnum t 8 4 ≠ 0) : msgF t = none := by
  have h82 : rnum t 8 4 = rnum t 8 2 * 65536 + rnum t 10 2 := rnum_four t 8
  unfold msgF
  by_cases h1 : 0 + 2 ≤ t.size
  · rw [if_pos h1]
    by_cases h2 : 2 + 1 ≤ t.size
    · rw [if_pos h2]
      unfold msgS
      generalize (bits .and .i64 (rnum t 2 1 : Int) 128 != 0) = x
      generalize (bits .and .i64 (rnum t 2 1 : Int) 2 != 0) = y
      by_cases h3 : (rnum t 2 1 : Int) = flg x y
      · rw [if_pos h3]
        have h4 : flB (rnum t 2 1) := by
          have := flg_is x y
          unfold flB
          omega
        repeat' split
        all_goals first | rfl | (exfalso; rcases h with h | h | h; exact h h4; omega; omega)
      · rw [if_neg h3]
    · rw [if_neg h2]
  · rw [if_neg h1]

theorem recsF_len {t : ByteArray} : ∀ (n a : Nat) (D : List Rc.Rec) (rs : List Rc.Rec) (q : Nat), recsF t n a D = some (rs, q) → rs.length = D.length + n
  | 0, a, D, rs, q, h => by
    simp only [recsF, Option.some.injEq, Prod.mk.injEq] at h
    rw [← h.1]; rfl
  | n + 1, a, D, rs, q, h => by
    simp only [recsF] at h
    cases hr : recF t a with
    | none => rw [hr] at h; cases h
    | some x =>
      rw [hr] at h
      have := recsF_len n _ _ rs q h
      rw [List.length_append, List.length_singleton] at this
      omega

theorem msgT_is {t : ByteArray} {id : Int} {ans cut : Bool} {code : Int} {n : Nat} {o : Option (ByteArray × Nat)} {M : Ms} (h : msgT t id ans cut code n o = some M) : M.code = code ∧ M.rs.length = n := by
  unfold msgT at h
  cases o with
  | none => cases h
  | some x =>
    obtain ⟨R, p⟩ := x
    simp only at h
    split at h
    · split at h
      · unfold msgU at h
        generalize hr : recsF t n (p + 2 + 2) [] = rr at h
        cases rr with
        | none => cases h
        | some y =>
          obtain ⟨rs, q⟩ := y
          simp only at h
          split at h
          · have hl := recsF_len _ _ _ _ _ hr
            rw [← Option.some.inj h]
            exact ⟨rfl, by simpa using hl⟩
          · cases h
      · cases h
    · cases h

theorem rdE_none {t : ByteArray} (h : msgF t = none) : rdE t ≠ 0 := by unfold rdE; rw [h]; decide
theorem rdE_some {t : ByteArray} {M : Ms} (h : msgF t = some M) (h2 : chkMsg M.id M.code M.typ M.R M.rs ≠ 0) : rdE t ≠ 0 := by unfold rdE; rw [h]; exact h2
theorem rdE_great {t : ByteArray} {id : Int} {ans cut : Bool} {code : Int} {n : Nat} {o : Option (ByteArray × Nat)} (h : msgF t = msgT t id ans cut code n o) (h2 : 15 < code ∨ 20 < n) : rdE t ≠ 0 := by
  cases hM : msgF t with
  | none => exact rdE_none hM
  | some M =>
    have h3 := msgT_is (h.symm.trans hM)
    refine rdE_some hM ?_
    unfold chkMsg
    split
    · decide
    · next hw =>
      rcases h2 with h2 | h2
      · exfalso
        apply hw
        rw [h3.1]
        have : within code 0 15 = false := by simp [within]; omega
        rw [this, Bool.and_false]
      · rw [if_pos (by omega)]; decide

/-- The ways in which the head ends the reading. -/
structure HeadL (t : ByteArray) (v1 v2 v3 v4 v5 v6 b6 : Nat) (bad6 : Bool) : Prop where
  good : bad6 = false → 12 ≤ t.size ∧ v1 = rnum t 0 2 ∧ v2 = rnum t 2 1 ∧ v3 = rnum t 3 1 ∧ v4 = rnum t 4 2 ∧ v5 = rnum t 6 2 ∧ v6 = rnum t 8 4 ∧ b6 = 12
  bad : bad6 = true → msgF t = none

theorem headL {t : ByteArray} {v1 v2 v3 v4 v5 v6 b1 b2 b3 b4 b5 b6 : Nat} {d1 d2 d3 d4 d5 d6 : Bool} (n1 : NumL t 0 2 false v1 b1 d1) (n2 : NumL t b1 1 d1 v2 b2 d2) (n3 : NumL t b2 1 d2 v3 b3 d3) (n4 : NumL t b3 2 d3 v4 b4 d4) (n5 : NumL t b4 2 d4 v5 b5 d5) (n6 : NumL t b5 4 d5 v6 b6 d6) : HeadL t v1 v2 v3 v4 v5 v6 b6 d6 where
  good := fun h => by
    obtain ⟨h5, k6, e6, r6⟩ := n6.1 h
    obtain ⟨h4, k5, e5, r5⟩ := n5.1 h5
    obtain ⟨h3, k4, e4, r4⟩ := n4.1 h4
    obtain ⟨h2, k3, e3, r3⟩ := n3.1 h3
    obtain ⟨h1, k2, e2, r2⟩ := n2.1 h2
    obtain ⟨_, k1, e1, r1⟩ := n1.1 h1
    simp only [r1, r2, r3, r4, r5, Nat.zero_add, Nat.reduceAdd] at *
    exact ⟨by omega, e1, e2, e3, e4, e5, e6, by omega⟩
  bad := fun h => by
    apply msgF_short
    intro h12
    cases d1 with
    | true => rcases n1.2 rfl with e | e; cases e; omega
    | false =>
    have r1 := (n1.1 rfl).2.2.2
    cases d2 with
    | true => rcases n2.2 rfl with e | e; cases e; omega
    | false =>
    have r2 := (n2.1 rfl).2.2.2
    cases d3 with
    | true => rcases n3.2 rfl with e | e; cases e; omega
    | false =>
    have r3 := (n3.1 rfl).2.2.2
    cases d4 with
    | true => rcases n4.2 rfl with e | e; cases e; omega
    | false =>
    have r4 := (n4.1 rfl).2.2.2
    cases d5 with
    | true => rcases n5.2 rfl with e | e; cases e; omega
    | false =>
    have r5 := (n5.1 rfl).2.2.2
    cases d6 with
    | true => rcases n6.2 rfl with e | e; cases e; omega
    | false => cases h

theorem nmF_le (t : ByteArray) : ∀ (m b bg : Nat) (D : List ByteArray) (p : Option Nat), bg * 9 + (8 - D.length) < m → (∀ x, p = some x → x ≤ t.size) → ∀ ls q, nmF t b bg D p = some (ls, q) → q ≤ t.size
  | 0, _, _, _, _, hm, _, _, _, _ => by omega
  | m + 1, b, bg, D, p, hm, hp, ls, q, h => by
    by_cases h1 : b < t.size
    · by_cases h0 : rnum t b 1 = 0
      · rw [nmF_end h1 h0] at h
        have e : p.getD (b + 1) = q := (Prod.mk.inj (Option.some.inj h)).2
        cases p with
        | none => simp at e; omega
        | some x => simp at e; have := hp x rfl; omega
      · by_cases h2 : 192 ≤ rnum t b 1
        · rw [nmF_rest h1 h2] at h
          by_cases hc : b + 2 ≤ t.size ∧ rnum t b 2 - 49152 < bg
          · rw [if_pos hc] at h
            refine nmF_le t m _ _ _ _ (by omega) (fun x e => ?_) ls q h
            cases p with
            | none => simp at e; omega
            | some y => simp at e; have := hp y rfl; omega
          · rw [if_neg hc] at h; cases h
        · rw [nmF_label h1 h0 h2] at h
          by_cases hc : b + 1 + rnum t b 1 ≤ t.size ∧ labB (lwS (t.extract (b + 1) (b + 1 + rnum t b 1))) = true ∧ D.length < 8
          · rw [if_pos hc] at h
            exact nmF_le t m _ _ _ _ (by rw [List.length_append, List.length_singleton]; omega) hp ls q h
          · rw [if_neg hc] at h; cases h
    · rw [nmF_no h1] at h; cases h
theorem tgF_le {t s : ByteArray} {a q : Nat} (h : tgF t a = some (s, q)) : q ≤ t.size := by
  unfold tgF at h
  generalize hn : nmF t a a [] none = x at h
  cases x with
  | none => cases h
  | some y =>
    have e : y.2 = q := (Prod.mk.inj (Option.some.inj h)).2
    rw [← e]
    exact nmF_le t _ a a [] none (Nat.lt_succ_self _) (fun x e => by cases e) y.1 y.2 hn

variable {t s s1 s8 : ByteArray} {a b b1 b2 b3 b4 b5 b6 b7 b8 v2 v3 v4 v5 v6 v7 : Nat} {d1 d2 d3 d4 d5 d6 d7 d8 : Bool} {la : Int}
theorem rec_bad (n1 : NamL t b false s1 b1 d1) (n2 : NumL t b1 2 d1 v2 b2 true) : recF t b = none := by
  unfold recF
  cases d1 with
  | true =>
    rcases n1.2 rfl with e | e
    · cases e
    · rw [e]
  | false =>
    rw [(n1.1 rfl).2.1]
    show recG t s1 b1 = none
    rcases n2.2 rfl with e | e
    · cases e
    · unfold recG; rw [if_neg e.1]
theorem rec_head (n1 : NamL t b false s1 b1 d1) (n2 : NumL t b1 2 d1 v2 b2 false) (n3 : NumL t b2 2 false v3 b3 d3) (n4 : NumL t b3 4 ((v3 : Int) != 1) v4 b4 d4) (n5 : NumL t b4 2 d4 v5 b5 d5) :
    (d5 = true → recF t b = none) ∧ (d5 = false → b5 ≤ t.size ∧ b5 = b1 + 2 + 2 + 4 + 2 ∧ v5 = rnum t (b1 + 2 + 2 + 4) 2 ∧ recF t b = recH t b1 (datF t b5 s1 v2 v4)) := by
  obtain ⟨e1, k2, e2, r2⟩ := n2.1 rfl
  subst e1
  obtain ⟨_, g1, g2⟩ := n1.1 rfl
  have hr : recF t b = recG t s1 b1 := by unfold recF; rw [g1]
  subst r2
  refine ⟨fun h => ?_, fun h => ?_⟩
  · rw [hr]
    unfold recG
    rw [if_pos k2]
    by_cases c2 : b1 + 2 + 2 ≤ t.size ∧ (rnum t (b1 + 2) 2 : Int) = 1
    · rw [if_pos c2]
      by_cases c3 : b1 + 2 + 2 + 4 ≤ t.size
      · rw [if_pos c3]
        by_cases c4 : b1 + 2 + 2 + 4 + 2 ≤ t.size
        · exfalso
          cases d3 with
          | true => rcases n3.2 rfl with e | e; cases e; exact e.1 c2.1
          | false =>
          obtain ⟨_, _, e3, r3⟩ := n3.1 rfl
          have hb : ((v3 : Int) != 1) = false := by rw [e3]; simp [c2.2]
          rw [hb] at n4
          cases d4 with
          | true => rcases n4.2 rfl with e | e; cases e; exact e.1 (by omega)
          | false =>
          obtain ⟨_, _, e4, r4⟩ := n4.1 rfl
          subst h
          rcases n5.2 rfl with e | e; cases e; exact e.1 (by omega)
        · rw [if_neg c4]
      · rw [if_neg c3]
    · rw [if_neg c2]
  · obtain ⟨e4, k5, e5, r5⟩ := n5.1 h
    obtain ⟨e3, k4, e6, r4⟩ := n4.1 e4
    have hv3 : v3 = 1 := by simp at e3; omega
    cases d3 with
    | true => rcases n3.2 rfl with e | e; cases e; omega
    | false =>
    obtain ⟨_, k3, e7, r3⟩ := n3.1 rfl
    subst r3
    subst r4
    refine ⟨by omega, r5, e5, ?_⟩
    rw [hr]
    unfold recG
    rw [if_pos k2, if_pos ⟨k3, by omega⟩, if_pos (by omega), if_pos (by omega), r5, e2, e6]
theorem dat_le {nm : ByteArray} {ty : Int} {r : Rc.Rec} {q : Nat} (h : datF t a nm ty la = some (r, q)) (ha : a ≤ t.size) : q ≤ t.size := by
  unfold datF at h
  split at h
  · split at h
    · have := (Prod.mk.inj (Option.some.inj h)).2; omega
    · cases h
  · split at h
    · split at h
      · have := (Prod.mk.inj (Option.some.inj h)).2; omega
      · cases h
    · split at h
      · split at h
        · split at h
          · split at h
            · cases hx : tgF t (a + 2 + 2 + 2) with
              | none => rw [hx] at h; cases h
              | some y =>
                rw [hx] at h
                have e : y.2 = q := (Prod.mk.inj (Option.some.inj h)).2
                rw [← e]; exact tgF_le hx
            · cases h
          · cases h
        · cases h
      · have := (Prod.mk.inj (Option.some.inj h)).2; omega
theorem dat_one (n6 : NumL t a 4 false v6 b6 d6) : (d6 = true → datF t a s 1 la = none) ∧ (d6 = false → datF t a s 1 la = some (⟨s, 1, la, v6, ⟨#[]⟩, 0, ⟨#[]⟩⟩, b6)) := by
  refine ⟨fun h => ?_, fun h => ?_⟩
  · rcases n6.2 h with e | e
    · cases e
    · unfold datF; rw [if_pos rfl, if_neg e.1]
  · obtain ⟨_, k, e, r⟩ := n6.1 h
    unfold datF; rw [if_pos rfl, if_pos k, e, r]
theorem dat_text (n6 : NumL t a 1 false v6 b6 d6) : (d6 = true → datF t a s 16 la = none) ∧ (d6 = false → (¬ b6 + v6 ≤ t.size → datF t a s 16 la = none) ∧ (b6 + v6 ≤ t.size → datF t a s 16 la = some (⟨s, 16, la, 0, t.extract b6 (b6 + v6), 0, ⟨#[]⟩⟩, b6 + v6))) := by
  have h0 : datF t a s 16 la = if a + 1 + rnum t a 1 ≤ t.size then some (⟨s, 16, la, 0, t.extract (a + 1) (a + 1 + rnum t a 1), 0, ⟨#[]⟩⟩, a + 1 + rnum t a 1) else none := rfl
  refine ⟨fun h => ?_, fun h => ?_⟩
  · rcases n6.2 h with e | e
    · cases e
    · rw [h0, if_neg (by omega)]
  · obtain ⟨_, k, e, r⟩ := n6.1 h
    subst r
    subst e
    exact ⟨fun h => by rw [h0, if_neg h], fun h => by rw [h0, if_pos h]⟩
theorem dat_where (n6 : NumL t a 4 false v6 b6 d6) (n7 : NumL t b6 2 ((v6 : Int) != 0) v7 b7 d7) (n8 : NamL t b7 d7 s8 b8 d8) : (d8 = true → datF t a s 33 la = none) ∧ (d8 = false → datF t a s 33 la = some (⟨s, 33, la, 0, ⟨#[]⟩, v7, s8⟩, b8)) := by
  have h0 : datF t a s 33 la = if a + 2 ≤ t.size ∧ (rnum t a 2 : Int) = 0 then
      if a + 2 + 2 ≤ t.size ∧ (rnum t (a + 2) 2 : Int) = 0 then
        if a + 2 + 2 + 2 ≤ t.size then (tgF t (a + 2 + 2 + 2)).map fun x => (⟨s, 33, la, 0, ⟨#[]⟩, rnum t (a + 2 + 2) 2, x.1⟩, x.2) else none
      else none
    else none := rfl
  have h4 := rnum_four t a
  refine ⟨fun h => ?_, fun h => ?_⟩
  · rw [h0]
    by_cases c1 : a + 2 ≤ t.size ∧ (rnum t a 2 : Int) = 0
    · rw [if_pos c1]
      by_cases c2 : a + 2 + 2 ≤ t.size ∧ (rnum t (a + 2) 2 : Int) = 0
      · rw [if_pos c2]
        by_cases c3 : a + 2 + 2 + 2 ≤ t.size
        · rw [if_pos c3]
          cases d6 with
          | true => rcases n6.2 rfl with e | e; cases e; exact absurd (by omega) e.1
          | false =>
          obtain ⟨_, _, e6, r6⟩ := n6.1 rfl
          have hb : ((v6 : Int) != 0) = false := by simp; omega
          rw [hb] at n7
          cases d7 with
          | true => rcases n7.2 rfl with e | e; cases e; exact absurd (by omega) e.1
          | false =>
          obtain ⟨_, _, e7, r7⟩ := n7.1 rfl
          rcases n8.2 h with e | e
          · cases e
          · have hb7 : b7 = a + 2 + 2 + 2 := by omega
            rw [hb7] at e
            rw [e]; rfl
        · rw [if_neg c3]
      · rw [if_neg c2]
    · rw [if_neg c1]
  · obtain ⟨e7, g7, _⟩ := n8.1 h
    obtain ⟨e6, k7, f7, r7⟩ := n7.1 e7
    have hv6 : v6 = 0 := by simp at e6; omega
    cases d6 with
    | true => rcases n6.2 rfl with e | e; cases e; omega
    | false =>
    obtain ⟨_, k6, f6, r6⟩ := n6.1 rfl
    have hb7 : b7 = a + 2 + 2 + 2 := by omega
    rw [hb7] at g7
    rw [h0, if_pos ⟨by omega, by omega⟩, if_pos ⟨by omega, by omega⟩, if_pos (by omega), g7, f7, r6]
    rfl
theorem dat_else {ty : Int} (h1 : ty ≠ 1) (h2 : ty ≠ 16) (h3 : ty ≠ 33) : datF t a s ty la = some (⟨s, ty, la, 0, ⟨#[]⟩, 0, ⟨#[]⟩⟩, a) := by
  unfold datF; rw [if_neg h1, if_neg h2, if_neg h3]

theorem rec_far {ty : Int} (hb : b5 = b1 + 2 + 2 + 4 + 2) (hv : v5 = rnum t (b1 + 2 + 2 + 4) 2) (h : recF t b = recH t b1 (datF t b5 s1 ty la)) (hle : b5 ≤ t.size) (hfar : ¬ b5 + v5 ≤ t.size) : recF t b = none := by
  rw [h]
  cases hd : datF t b5 s1 ty la with
  | none => rfl
  | some y =>
    obtain ⟨r, q⟩ := y
    have hq := dat_le hd hle
    show (if (q : Int) - ((b1 + 2 + 2 + 4 + 2 : Nat) : Int) = (rnum t (b1 + 2 + 2 + 4) 2 : Int) then _ else _) = _
    rw [if_neg (by omega)]
theorem rec_none {ty : Int} (h : recF t b = recH t b1 (datF t b5 s1 ty la)) (hd : datF t b5 s1 ty la = none) : recF t b = none := by rw [h, hd]; rfl
theorem rec_in {ty : Int} {r : Rc.Rec} {q : Nat} (hb : b5 = b1 + 2 + 2 + 4 + 2) (hv : v5 = rnum t (b1 + 2 + 2 + 4) 2) (h : recF t b = recH t b1 (datF t b5 s1 ty la)) (hd : datF t b5 s1 ty la = some (r, q)) : (((q : Int) != (b5 : Int) + (v5 : Int)) = true → recF t b = none) ∧ (((q : Int) != (b5 : Int) + (v5 : Int)) = false → recF t b = some (r, q)) := by
  have e : recF t b = if (q : Int) - ((b1 + 2 + 2 + 4 + 2 : Nat) : Int) = (rnum t (b1 + 2 + 2 + 4) 2 : Int) then some (r, q) else none := by rw [h, hd]; rfl
  refine ⟨fun hq => ?_, fun hq => ?_⟩
  · rw [e, if_neg]
    simp at hq
    omega
  · rw [e, if_pos]
    simp at hq
    omega
theorem rec_oks {r : Rc.Rec} (h1 : r.name.size ≤ 1000) (h2 : r.text.size ≤ 1000) (h3 : r.target.size ≤ 1000) : r.ok ∧ r.name.size ≤ 1000 ∧ r.target.size ≤ 1000 := ⟨by unfold Rc.Rec.ok maxLen; omega, h1, h3⟩

variable {id code : Int} {ans cut : Bool} {n v8 v9 b9 : Nat} {R : ByteArray} {d9 : Bool}
theorem q_bad (h : msgF t = msgT t id ans cut code n (tgF t 12)) (n7 : NamL t 12 false R b7 d7) (n8 : NumL t b7 2 d7 v8 b8 true) : msgF t = none := by
  rw [h]
  cases d7 with
  | true =>
    rcases n7.2 rfl with e | e
    · cases e
    · rw [e]; rfl
  | false =>
    rw [(n7.1 rfl).2.1]
    rcases n8.2 rfl with e | e
    · cases e
    · show (if b7 + 2 ≤ t.size then _ else _) = _
      rw [if_neg e.1]
theorem q_end (h : msgF t = msgT t id ans cut code n (tgF t 12)) (n7 : NamL t 12 false R b7 d7) (n8 : NumL t b7 2 d7 v8 b8 false) (n9 : NumL t b8 2 false v9 b9 d9) :
    (((v9 : Int) != 1) = true → msgF t = none) ∧ (((v9 : Int) != 1) = false → b9 ≤ t.size ∧ msgF t = msgU t id ans cut code R v8 (recsF t n b9 [])) := by
  obtain ⟨e8, k8, f8, r8⟩ := n8.1 rfl
  subst e8
  obtain ⟨_, g7, _⟩ := n7.1 rfl
  have hm : msgF t = if b7 + 2 ≤ t.size then if b7 + 2 + 2 ≤ t.size ∧ (rnum t (b7 + 2) 2 : Int) = 1 then msgU t id ans cut code R (rnum t b7 2) (recsF t n (b7 + 2 + 2) []) else none else none := by rw [h, g7]; rfl
  rw [if_pos k8] at hm
  subst r8
  refine ⟨fun e => ?_, fun e => ?_⟩
  · rw [hm, if_neg]
    intro hc
    cases d9 with
    | true => rcases n9.2 rfl with e | e; cases e; exact e.1 hc.1
    | false =>
      obtain ⟨_, _, f9, _⟩ := n9.1 rfl
      rw [f9] at e
      simp at e
      omega
  · have hv : v9 = 1 := by simp at e; omega
    cases d9 with
    | true => rcases n9.2 rfl with e | e; cases e; omega
    | false =>
      obtain ⟨_, k9, f9, r9⟩ := n9.1 rfl
      refine ⟨by omega, ?_⟩
      rw [hm, if_pos ⟨k9, by omega⟩, f8, r9]

end Go.Proofs.YtigffgjkakalfaaGreatDoor

