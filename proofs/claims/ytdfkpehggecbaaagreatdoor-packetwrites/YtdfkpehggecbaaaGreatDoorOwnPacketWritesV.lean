/- Proved: whatever packet it is handed, PacketWrites returns true, that is: Check and Write of package packet answer just what the document says, errors too (I1, I2); for every input that the row can read, no condition of ours; the row lists variables of the library (strconv, math/bits), and the card ties what they hold to the program's text. -/
import Derived.Test.YtdfkpehggecbaaaGreatDoorRows
import Derived.Test.YtdfkpehggecbaaaGreatDoorCards
import Derived.Test.YtdfkpehggecbaaaGreatDoorTie
import Derived.Test.YtdfkpehggecbaaaGreatDoorV49
import Derived.Test.YtdfkpehggecbaaaGreatDoorV52
import Derived.Test.YtdfkpehggecbaaaGreatDoorV50
import Derived.ProofKit
import Derived.OpenShut
import Derived.ShutString
import Derived.ChangeOld
import Derived.Below
import Derived.LaidMore
import Derived.Lay
import Derived.SevenTiedAt
import Derived.Stop.Joined
import Derived.SizedLaws
import Derived.Handed
namespace Go.Proofs.YtdfkpehggecbaaaGreatDoor
open Go.ChangeShapes Go.WideShapes Go.ChangeAt Go.RowKit
open Go.ChangeMaps (open_string shut_string)

theorem PacketWrites.own : ownKnob Tryz.prog.godebug = none := by kernel_rfl
theorem PacketWrites.laidOut : laidOutB Tryz.prog = true := by kernel_rfl

set_option maxRecDepth 100000 in
theorem PacketWrites.lifted (os : Os) (started : os.Started) (H : Type) (enc : TypeId × Value → H) :
    ReturnsInHanded {} Tryz.checked os 3 .any (fun w args => (Rows.packetWritesSpec.pre enc Tryz.prog Tryz.f3 Rows.packetWritesRow.domain false w args ∧ laidMetH Tryz.prog Rows.packetWritesRow.laid w) ∧ sizedMet enc Tryz.prog Tryz.f3 (OpenSpec.ofChange Rows.packetWritesSpec) false w args)
      (Rows.packetWritesSpec.post enc Tryz.prog Tryz.f3 false true false false) := by
  refine returnsInHanded_of_change_and (C := Tryz.checked) (X := fun w _ => laidMetH Tryz.prog Rows.packetWritesRow.laid w) (fun _ _ _ hh h => h.of_heap hh) PacketWrites.own started (by kernel_rfl) Tryz.func3
    (ChangeSpec.witness_shaped (enc := enc) (C := Tryz.checked) (os := os) (X := fun w _ => laidMetH Tryz.prog Rows.packetWritesRow.laid w) false (World.laidAll Tryz.prog os Rows.packetWritesRow.laid) #[.agg #[.string ⟨#[]⟩, .bool false, .slice none 0 0, .slice none 0 0, .slice none 0 0, .slice none 0 0]] 8 (World.laidAll_os _ _ _)
      (World.shaped_of_ZipB (by kernel_rfl) (by kernel_rfl)) (by kernel_rfl) (by kernel_rfl) (by kernel_rfl)
      (by rw [MakeChecks.laidMetH_plain _ _ _ (by kernel_rfl)]; exact laidMet_laidAll _ (by kernel_rfl) (by kernel_rfl))) ?_
  intro W base args ds gs before hval0 hW _ hsz hL _
  have hval : ∀ (j : Nat) t v, Tryz.f3.params[j]? = some t → args[j]? = some v → Value.okWide Tryz.prog W .any base t v := hval0
  have hW' := hW
  obtain ⟨p, q, hA0, hV, rfl, _, _⟩ := hW
  have hA : DataW.TrodAll enc Tryz.prog W 0 (fun _ => true) true Tryz.f3.params.toList args.toList ds p := hA0
  rw [Tryz.params3] at hA hval
  obtain ⟨v0, vs0, d0, ds0, p0, q0, hargs, rfl, rfl, h0, r0⟩ := trodAll_cons hA
  obtain ⟨rfl, rfl, rfl⟩ := trodAll_nil r0
  obtain rfl : args = #[v0] := by cases args; simp_all
  obtain ⟨rfl, rfl⟩ := trodVars_none hV
  have k0 := h0
  have lt0 : ∀ x ∈ p0, x.block < W.heap.size := by obtain ⟨m, hm⟩ := k0; exact DataW.trod_lt m _ _ _ hm
  have z0 : ∀ q ∈ d0.weights Tryz.prog 27, q ≤ reachBytes := fun q hq => by
    have hh := List.all_eq_true.1 hsz q (DataW.weights_mem_each (j := 0) (t := 27) (d := d0) (by rw [Tryz.params3]; rfl) rfl q hq)
    simpa using hh
  obtain ⟨l0, zm0, zs0, zg0, zw0, e0, w0, u0⟩ := open_packet (hval 0 27 v0 rfl rfl) h0 z0
  subst e0
  obtain ⟨_, _, rfl, _, _⟩ := w0.ms
  obtain ⟨_, _, rfl, _, _⟩ := w0.sv
  obtain ⟨_, _, rfl, _, _⟩ := w0.gw
  obtain ⟨_, _, rfl, _, _⟩ := w0.wh
  clear hA0 hval0
  refine (packetWrites_walk l0 _ _ _ _ _ _ _ _ _ _ _ _ W (rv_of hL) w0 u0).mono fun e W' ⟨he, bel⟩ => ?_
  subst he
  exact ⟨_, rfl, _, _, _, [], _, [], hW', trodAll_mk1 (shut_bool Tryz.underlying4 _), (trodAll_cons_mk (Below.trod PacketWrites.laidOut (by kernel_rfl) (of_decide_eq_true (by kernel_rfl)) k0 bel lt0) trodAll_mk0), rfl, bel.frame _, fun h => by cases h⟩

theorem packetWrites_holds : Rows.PacketWritesSaid :=
  OpenClaim.holds_of_wide 3 Tryz.f3 rfl rfl rfl rfl rfl rfl rfl ⟨rfl, rfl, rfl, rfl, rfl⟩ rfl rfl rfl rfl rfl (by kernel_rfl) Tryz.func3 (by kernel_rfl)
    (of_decide_eq_true (by kernel_rfl)) (by unfold Func.isWrapper; first | (rw [if_pos (by decide +kernel)]; kernel_rfl) | (rw [if_neg (by decide +kernel)]; exact ⟨rfl, rfl⟩))
    (fun os started H enc _ => PacketWrites.lifted os started H enc)

theorem packetWrites_card : Rows.PacketWritesCardSaid :=
  Claim7.holds_tied_plain_at .later [] _ _ _ _ packetWrites_holds (fun _ h => by cases h) (by kernel_rfl) (fun _ h => by cases h) packetWrites_row_tie rfl ⟨rfl, rfl⟩ (by kernel_rfl) rfl
    (fun f fn hf hfn => by
      obtain rfl : f = 3 := Option.some.inj ((show Tryz.prog.funcNamed "hearsay/hearsaylaw.PacketWrites" = some 3 by kernel_rfl).symm.trans hf) |>.symm
      obtain rfl : fn = Tryz.f3 := (Option.some.inj (Tryz.func3.symm.trans hfn)).symm
      exact ⟨by kernel_rfl, fun j t ht => by
        rw [Tryz.params3] at ht
        have hm : t ∈ [27] := by simpa using Array.mem_of_getElem? ht
        have hall : ([27].all fun u => !Tryz.prog.wantsStandIn u) = true := by kernel_rfl
        exact (show Tryz.prog.wantsStandIn t = false by simpa using List.all_eq_true.1 hall t hm)⟩)
    (by kernel_rfl)

end Go.Proofs.YtdfkpehggecbaaaGreatDoor
