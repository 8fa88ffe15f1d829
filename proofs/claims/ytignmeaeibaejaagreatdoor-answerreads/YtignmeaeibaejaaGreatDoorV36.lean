import Derived.Test.YtignmeaeibaejaaGreatDoorV24
import Derived.Test.YtignmeaeibaejaaGreatDoorV35
import Derived.Deep.DeepCutAuto
import Derived.Deep.CutBlock
namespace Go.Proofs.YtignmeaeibaejaaGreatDoor
open Go.RowKit
theorem firstE_mem0:∀ {ms:List Mem},firstE ms=0→∀ m∈ms,m.e=0
 | [],_,m,hm=>by simp at hm
 | x :: r,h,m,hm=>by
   rw [firstE] at h
   by_cases h2:x.e=0
   ·rw [if_pos h2] at h
    rcases List.mem_cons.1 hm with rfl | hm
    ·exact h2
    ·exact firstE_mem0 h m hm
   ·rw [if_neg h2] at h;exact absurd h h2
end Go.Proofs.YtignmeaeibaejaaGreatDoor
