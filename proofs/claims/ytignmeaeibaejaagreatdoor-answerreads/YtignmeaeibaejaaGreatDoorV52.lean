import Derived.Test.YtignmeaeibaejaaGreatDoorV48
import Derived.Test.YtignmeaeibaejaaGreatDoorV45
import Derived.Test.YtignmeaeibaejaaGreatDoorV50
import Derived.Test.YtignmeaeibaejaaGreatDoorV51
import Derived.Test.YtignmeaeibaejaaGreatDoorV28
import Derived.Test.YtignmeaeibaejaaGreatDoorV30
namespace Go.Proofs.YtignmeaeibaejaaGreatDoor
open Go.RowKit
theorem idf:∀ a b:Fin 256,wrap64 (wrap64 (256 * wrap64 ((a.val:Nat):Int))+wrap64 ((b.val:Nat):Int))=256 * ((a.val:Nat):Int)+((b.val:Nat):Int):=by decide +kernel
theorem id8 (a b:UInt8):wrap64 (wrap64 (256 * wrap64 ((a.toNat:Nat):Int))+wrap64 ((b.toNat:Nat):Int))=256 * ((a.toNat:Nat):Int)+((b.toNat:Nat):Int):=idf ⟨a.toNat,a.toNat_lt⟩ ⟨b.toNat,b.toNat_lt⟩
abbrev qT2:Qu:=⟨⟨#[115]⟩,⟨#[]⟩,⟨#[]⟩,⟨#[]⟩⟩
abbrev sT2:Sv.Svc:=⟨⟨#[110]⟩,⟨#[105]⟩,⟨#[115]⟩,⟨#[]⟩,9,0,true,1,false⟩
theorem begun_is2:anR qT2 1 ⟨#[99]⟩ [sT2] [] ⟨0,0,0,0,0⟩ []=⟨[⟨⟨#[115,46,115,101,114,118,105,99,101,46,109,101,115,104]⟩,1,0,9,⟨#[]⟩,0,⟨#[]⟩⟩],0,0⟩:=by kernel_rfl
set_option maxHeartbeats 3200000 in
set_option maxRecDepth 100000 in
theorem answerBegun2 (w:World):Calls Tryz.prog 8 #[] w fun e w'=>e=.returned (.bool true)∧Below w.heap.size w w':=by
 have HR:Hid (∀ (W:World) (g:Nat),W.heap[g]?=some (.cells #[.string ⟨#[110]⟩,.string ⟨#[105]⟩,.string ⟨#[115]⟩,.string ⟨#[]⟩,.int .i64 9,.int .i64 0,.bool true,.int .i64 1,.bool false] 57 (0,0))→Calls Tryz.prog 19 #[.agg #[.string ⟨#[115]⟩,.string ⟨#[]⟩,.string ⟨#[]⟩,.string ⟨#[]⟩],.int .i64 1,.string ⟨#[99]⟩,.slice (some ⟨g,0,none⟩) 1 1,.slice none 0 0,.agg #[.int .i64 0,.int .i64 0,.int .i64 0,.int .i64 0,.int .i64 0],.slice none 0 0] W fun e w'=>∃ v,e=.returned (.tuple #[v,.int .i64 0,.int .i64 0])∧Rc.Own W.heap.size w' v [⟨⟨#[115,46,115,101,114,118,105,99,101,46,109,101,115,104]⟩,1,0,9,⟨#[]⟩,0,⟨#[]⟩⟩]∧Below W.heap.size W w'):=fun W g hg=>by
  have h:=Records_any ⟨#[99]⟩ (some ⟨g,0,none⟩) none none 1 1 0 0 0 0 0 0 0 0 0 qT2 1 [sT2] [] [] W ⟨by decide,by decide,by decide,by decide⟩ (by decide) (Sv.sl_one W g 1 sT2 ⟨by decide,by decide,by decide,by decide⟩ hg) ⟨none,0,rfl,fun j=>by simp [dm],.inl rfl⟩ ⟨none,0,rfl,fun j=>by simpa using Wh.dm_ok,.inl rfl⟩
  rw [begun_is2] at h
  exact h
 go_enter Tryz.func8,Tryz.ntmps8
 go_wp2_with fail
 refine Calls.mono (HR.out _ w.heap.size (heap_alloc_new w _)) ?_
 rintro e w1 ⟨v,rfl,ho,hb⟩
 obtain ⟨g,c,rfl⟩:=Rc.own_form ho 0 (by simp)
 obtain ⟨c0,c1,c2,c3,c4,c5,c6⟩:=Rc.own_cells ho 0 (by simp)
 have HB:Hid (Below w.heap.size w w1):=((Below.refl _ _).alloc (Nat.le_refl _) _).trans (hb.mono (by simp))
 simp only [List.getD_cons_zero,Nat.zero_mul,Nat.zero_add,List.length_singleton] at c0 c1 c2 c3 c4 c5 c6 ⊢
 clear ho hb
 go_wp2_with fail
 go_ret
 exact ⟨rfl,HB.out⟩
end Go.Proofs.YtignmeaeibaejaaGreatDoor
