import Derived.Test.YtignmeaeibaejaaGreatDoorV1
import Derived.Defers
import Derived.Recover
import Derived.Laws.Pointers
import Derived.Deep.RegionHeld3
import Derived.StillTactics
import Derived.Lib.ConvBytes
import Derived.Laws.IdiomStrings
namespace Go.Proofs.YtignmeaeibaejaaGreatDoor
open Go.RowKit
set_option maxHeartbeats 400000 in
theorem need_ok (e:Int) (w:World) :
 Calls Tryz.prog 52 #[.bool true,.int .i64 e] w fun x w'=>x=.returned (.tuple #[])∧w'=w:=by
 go_enter Tryz.func52,Tryz.ntmps52
 go_wp2_with fail
 simp [bodyPost,results,Tryz.results52]
set_option maxHeartbeats 400000 in
theorem need_no (e:Int) (w:World) :
 Calls Tryz.prog 52 #[.bool false,.int .i64 e] w fun x w'=>x=.panicked [{ v:=.iface 96 (.agg #[.int .i64 e]),recovered:=false }]∧w'=w:=by
 go_enter Tryz.func52,Tryz.ntmps52
 go_wp2_with fail
 exact ⟨rfl,rfl,rfl⟩
set_option maxHeartbeats 800000 in
set_option maxRecDepth 100000 in
theorem catch_fault (g:Nat) (x e:Int) (older:List PanicEntry) (w:World) (hg:g < w.heap.size) (hc:w.cell? ⟨g,0,none⟩=some (.int .i64 x)) (hz:w.frozen? ⟨g,0,none⟩=false) :
 CallsD Tryz.prog 51 #[.pointer (some ⟨g,0,none⟩)] (.panicking ({ v:=.iface 96 (.agg #[.int .i64 e]),recovered:=false } :: older)) w fun r u' w'=>
  r=.returned (.tuple #[])∧u'=.panicking ({ v:=.iface 96 (.agg #[.int .i64 e]),recovered:=true } :: older)∧w'.cell? ⟨g,0,none⟩=some (.int .i64 e)∧Below g w w':=by
 have e0:g≠w.heap.size:=by omega
 have hta:∀ W:World,Sem.run Tryz.prog (Instr.typeAssert (.iface 96 (.agg #[.int .i64 e])) 20 96 true) W=.ok (.tuple #[.agg #[.int .i64 e],.bool true]) W:=fun _=>by kernel_rfl
 have hs1:(w.setCell ⟨g,0,none⟩ (.int .i64 1)).cell? ⟨g,0,none⟩=some (.int .i64 1):=by simp [go_sem,hc]
 have hs2:((w.setCell ⟨g,0,none⟩ (.int .i64 1)).setCell ⟨g,0,none⟩ (.int .i64 e)).cell? ⟨g,0,none⟩=some (.int .i64 e):=by simp [go_sem,hc]
 have HE:Hid (∀ o,(((w.setCell ⟨g,0,none⟩ (.int .i64 1)).setCell ⟨g,0,none⟩ (.int .i64 e)).alloc o).cell? ⟨g,0,none⟩=some (.int .i64 e)):=fun o=>by
  rw [World.cell?_alloc_past (w:=(w.setCell ⟨g,0,none⟩ (.int .i64 1)).setCell ⟨g,0,none⟩ (.int .i64 e)) o g 0 (by simpa using hg)]
  exact hs2
 have HB:Hid (∀ o,Below g w (((w.setCell ⟨g,0,none⟩ (.int .i64 1)).setCell ⟨g,0,none⟩ (.int .i64 e)).alloc o)):=fun o=>
  (((Below.refl g w).setCell (p:=⟨g,0,none⟩) (Nat.le_refl _) _).setCell (p:=⟨g,0,none⟩) (Nat.le_refl _) _).alloc (by simp;omega) _
 clear hs1 hs2
 refine callsD_of_wpS Tryz.func51 rfl fun c₀ cs hu=>?_
 apply wpS_seq
 apply wpS_region
 simp [wpOpsS,go_sem,recoverD,hu,Tryz.ntmps51,Exit.thenS,Array.replicate]
 refine wpS_of_wp ?_
 go_wp2_with fail
 have h1:=HE.out (.cells #[.int .i64 e] 96)
 have h2:=HB.out (.cells #[.int .i64 e] 96)
 cases c₀
 simp [bodyPostS,results,Tryz.results51]
 exact ⟨h1,h2⟩
theorem catch_idle (p:Addr) (w:World) :
 CallsD Tryz.prog 51 #[.pointer (some p)] .returning w fun e u' w'=>e=.returned (.tuple #[])∧u'=.returning∧w'=w:=by
 refine callsD_of_wpS Tryz.func51 rfl fun c₀ cs hu=>?_
 apply wpS_seq
 apply wpS_region
 simp [wpOpsS,go_sem,recoverD,hu,Tryz.ntmps51,Exit.thenS,Array.replicate]
 refine wpS_of_wp ?_
 go_wp2_with fail
 cases c₀
 simp_all [bodyPostS,results,Tryz.results51]
set_option maxHeartbeats 800000 in
set_option maxRecDepth 100000 in
theorem attempt_ok (f:Nat) (caps:Array Value) (w:World) (R:World→Prop) (ef:∀ args W,(callFunc f args).run Tryz.prog W=.ok (.enter f args) W)
 (hw:Calls Tryz.prog f caps (w.alloc (.cells #[.int .i64 0] 29)) fun r w'=>r=.returned (.tuple #[])∧R w'∧w'.cell? ⟨w.heap.size,0,none⟩=some (.int .i64 0)∧w'.frozen? ⟨w.heap.size,0,none⟩=false∧w.heap.size < w'.heap.size) :
 Calls Tryz.prog 20 #[.func (.func f) #[] caps] w fun r w'=>r=.returned (.int .i64 0)∧∃ w1,R w1∧w.heap.size < w1.heap.size∧w'=w1.setCell ⟨w.heap.size,0,none⟩ (.int .i64 0):=by
 have hmf:∀ (fn:Fn) (first cap:Array Value) (w:World),(Instr.makeFunc fn first cap).run Tryz.prog w=.ok (.func fn first cap) w:=fun _ _ _ _=>rfl
 have HW:Hid (Calls Tryz.prog f caps (w.alloc (.cells #[.int .i64 0] 29)) fun r w'=>r=.returned (.tuple #[])∧Hid (R w')∧w'.cell? ⟨w.heap.size,0,none⟩=some (.int .i64 0)∧w'.frozen? ⟨w.heap.size,0,none⟩=false∧w.heap.size < w'.heap.size):=hw
 clear hw
 go_enter_defers Tryz.func20,Tryz.ntmps20
 go_wp2_with fail
 refine HW.out.mono ?_
 rintro e w1 ⟨rfl,HR,h1,h2,h3⟩
 go_wp2_with fail
 refine leaves_cons (f:=51) (args:=#[.pointer (some ⟨w.heap.size,0,none⟩)]) (by simp) (by simp [go_sem]) ?_
 refine (catch_idle ⟨w.heap.size,0,none⟩ _).mono ?_
 rintro e u' w'' ⟨rfl,rfl,rfl⟩
 simp [Leaves,settle,results,Tryz.results20,go_sem,h1]
 exact ⟨w1,HR.out,h3,rfl⟩
set_option maxHeartbeats 800000 in
set_option maxRecDepth 100000 in
theorem attempt_no (f:Nat) (caps:Array Value) (e:Int) (w:World) (R:World→Prop) (ef:∀ args W,(callFunc f args).run Tryz.prog W=.ok (.enter f args) W)
 (hw:Calls Tryz.prog f caps (w.alloc (.cells #[.int .i64 0] 29)) fun r w'=>r=.panicked [{ v:=.iface 96 (.agg #[.int .i64 e]),recovered:=false }]∧R w'∧w'.cell? ⟨w.heap.size,0,none⟩=some (.int .i64 0)∧w'.frozen? ⟨w.heap.size,0,none⟩=false∧w.heap.size < w'.heap.size) :
 Calls Tryz.prog 20 #[.func (.func f) #[] caps] w fun r w'=>r=.returned (.int .i64 e)∧∃ w1,R w1∧w.heap.size < w1.heap.size∧Below w.heap.size w1 w':=by
 have hmf:∀ (fn:Fn) (first cap:Array Value) (w:World),(Instr.makeFunc fn first cap).run Tryz.prog w=.ok (.func fn first cap) w:=fun _ _ _ _=>rfl
 have HW:Hid (Calls Tryz.prog f caps (w.alloc (.cells #[.int .i64 0] 29)) fun r w'=>r=.panicked [{ v:=.iface 96 (.agg #[.int .i64 e]),recovered:=false }]∧Hid (R w')∧w'.cell? ⟨w.heap.size,0,none⟩=some (.int .i64 0)∧w'.frozen? ⟨w.heap.size,0,none⟩=false∧w.heap.size < w'.heap.size):=hw
 clear hw
 go_enter_defers Tryz.func20,Tryz.ntmps20
 go_wp2_with fail
 refine HW.out.mono ?_
 rintro r w1 ⟨rfl,HR,h1,h2,h3⟩
 refine leaves_cons (f:=51) (args:=#[.pointer (some ⟨w.heap.size,0,none⟩)]) (by simp) (by simp [go_sem]) ?_
 refine (catch_fault w.heap.size 0 e [] w1 h3 h1 h2).mono ?_
 rintro r u' w'' ⟨rfl,rfl,h4,h5⟩
 simp [Leaves,settle,results,Tryz.results20,go_sem,h4]
 exact ⟨w1,HR.out,h3,h5⟩
set_option maxHeartbeats 1600000 in
set_option maxRecDepth 100000 in
theorem take_ok (g a n:Nat) (t:ByteArray) (w:World) (c0:w.cell? ⟨g,0,none⟩=some (.string t)) (c1:w.cell? ⟨g,1,none⟩=some (.int .i64 a)) (hz:w.frozen? ⟨g,1,none⟩=false) (hs:t.size≤1000) (han:a+n≤t.size) :
 Calls Tryz.prog 92 #[.pointer (some ⟨g,0,none⟩),.int .i64 n] w fun e w'=>e=.returned (.string (t.extract a (a+n)))∧∃ m,w'=(w.setCell ⟨g,1,none⟩ (.int .i64 ((a:Int)+(n:Int)))).drew.drewN m:=by
 have h1:IntKind.i64.wrap ((t.size:Int) - (a:Int))=(t.size:Int) - (a:Int):=by rw [IntKind.wrap_i64];omega
 have h2:decide ((n:Int)≤(t.size:Int) - (a:Int))=true:=by simp;omega
 have h3:IntKind.i64.wrap ((a:Int)+(n:Int))=((a+n:Nat):Int):=by rw [IntKind.wrap_i64];omega
 have h4:IntKind.i64.wrap (((a+n:Nat):Int) - (n:Int))=(a:Int):=by rw [IntKind.wrap_i64];omega
 go_enter Tryz.func92,Tryz.ntmps92
 go_wp2_with fail
 go_region_held3 (fun w'=>w'.cell? ⟨g,0,none⟩=some (.string t)∧w'.cell? ⟨g,1,none⟩=some (.int .i64 a)) (go_keep) (first | (go_at_call 52;refine (need_ok _ _).mono ?_;rintro e w5 ⟨rfl,rfl⟩) | fail)
 go_wp2_with fail
 have hi0:(0:Int)≤(a:Int):=by omega
 have hi1:(a:Int)≤((a+n:Nat):Int):=by omega
 have hi2:((a+n:Nat):Int)≤(t.size:Int):=by omega
 have hi3:((a:Int)).toNat=a:=by omega
 have hi4:(((a+n:Nat):Int)).toNat=a+n:=by omega
 go_quiet (fail)
 go_wp2_with fail
 go_ret
 exact ⟨rfl,_,rfl⟩
set_option maxHeartbeats 1600000 in
set_option maxRecDepth 100000 in
theorem peek_ok (g a:Nat) (t:ByteArray) (w:World) (c0:w.cell? ⟨g,0,none⟩=some (.string t)) (c1:w.cell? ⟨g,1,none⟩=some (.int .i64 a)) (ha:a < t.size) :
 Calls Tryz.prog 93 #[.pointer (some ⟨g,0,none⟩)] w fun e w'=>e=.returned (.int .u8 (t[a].toNat:Int))∧∃ m,w'=w.drew.drewN m:=by
 have h2:decide ((a:Int) < (t.size:Int))=true:=by simp;omega
 have hi0:(0:Int)≤(a:Int):=by omega
 have hi1:(a:Int) < (t.size:Int):=by omega
 have hi3:((a:Int)).toNat=a:=by omega
 go_enter Tryz.func93,Tryz.ntmps93
 go_wp2_with fail
 go_region_held3 (fun w'=>w'.cell? ⟨g,0,none⟩=some (.string t)∧w'.cell? ⟨g,1,none⟩=some (.int .i64 a)) (go_keep) (first | (go_at_call 52;refine (need_ok _ _).mono ?_;rintro e w5 ⟨rfl,rfl⟩) | fail)
 go_wp2_with fail
 go_quiet (fail)
 go_wp2_with fail
 go_ret
 exact ⟨rfl,_,rfl⟩
def rnum (t:ByteArray) (a:Nat):Nat→Nat
 | 0=>0
 | k+1=>rnum t a k * 256+(t.data[a+k]?.getD 0).toNat
theorem rnum_lt (t:ByteArray) (a:Nat):∀ k,rnum t a k < 256 ^ k
 | 0=>by simp [rnum]
 | k+1=>by
   have h:=rnum_lt t a k
   have h2:=(t.data[a+k]?.getD 0).toNat_lt
   simp only [rnum,Nat.pow_succ]
   omega
theorem or_byte (x b:Nat) (hx:x < 4294967296) (hb:b < 256):bits .or .i64 ((x:Int) * 256) (wrap64 (b:Int))=((x * 256+b:Nat):Int):=by
 have h1:((x:Int) * 256)=((x * 256:Nat):Int):=by omega
 have h2:wrap64 (b:Int)=(b:Int):=by unfold wrap64;omega
 have h3:x * 256 ||| b=x * 256+b:=by
  rw [show x * 256=2 ^ 8 * x by omega,← Nat.two_pow_add_eq_or_of_lt (i:=8) hb]
 rw [h1,h2]
 show IntKind.i64.wrap (((BitVec.ofInt 64 ((x * 256:Nat):Int)) ||| (BitVec.ofInt 64 (b:Int))).toNat:Int)=_
 rw [BitVec.toNat_or,BitVec.ofInt_natCast,BitVec.ofInt_natCast,BitVec.toNat_ofNat,BitVec.toNat_ofNat,Nat.mod_eq_of_lt (by omega),Nat.mod_eq_of_lt (by omega),h3,IntKind.wrap_i64]
 omega
set_option maxRecDepth 100000 in
theorem run_bytesW (w:World) (s:ByteArray):w.drew.alloc (.cells (bytesRow s (grownCap w s.size 0 5)) 5 ((bytesRow s (grownCap w s.size 0 5)).size,(bytesRow s (grownCap w s.size 0 5)).size+1))=Lib.bytesWorld w 5 s:=by
 have h1:=Lib.run_convert_string_bytes (P:=Tryz.prog) w 9 102 5 s (u:=.string) Tryz.underlying9 Tryz.underlying102 Tryz.underlying5
 have h2:=run_bytes_of_string (P:=Tryz.prog) w 9 102 5 s Tryz.underlying9 Tryz.underlying102 Tryz.underlying5
 rw [h1] at h2
 injection h2 with _ h
 exact h.symm
set_option maxHeartbeats 1600000 in
set_option maxRecDepth 100000 in
theorem rnumber_ok (g a n:Nat) (t:ByteArray) (w:World) (c0:w.cell? ⟨g,0,none⟩=some (.string t)) (c1:w.cell? ⟨g,1,none⟩=some (.int .i64 a)) (hz:w.frozen? ⟨g,1,none⟩=false) (hs:t.size≤1000) (han:a+n≤t.size) (hn:n≤4) :
 Calls Tryz.prog 59 #[.pointer (some ⟨g,0,none⟩),.int .i64 n] w fun e w'=>e=.returned (.int .i64 (rnum t a n))∧(w.setCell ⟨g,1,none⟩ (.int .i64 ((a:Int)+(n:Int)))).Extends w':=by
 have HT:Hid (Calls Tryz.prog 92 #[.pointer (some ⟨g,0,none⟩),.int .i64 n] w fun e w'=>e=.returned (.string (t.extract a (a+n)))∧∃ m,w'=(w.setCell ⟨g,1,none⟩ (.int .i64 ((a:Int)+(n:Int)))).drew.drewN m):=take_ok g a n t w c0 c1 hz hs han
 have hsz:(t.extract a (a+n)).size=n:=by simp;omega
 have hcv:=fun w s=>Lib.run_convert_string_bytes (P:=Tryz.prog) w 9 102 5 s (u:=.string) Tryz.underlying9 Tryz.underlying102 Tryz.underlying5
 have hB:=fun w j hj=>Lib.bytesWorld_cell w 5 (t.extract a (a+n)) j hj
 go_enter Tryz.func59,Tryz.ntmps59
 go_wp2_with fail
 refine HT.out.mono ?_
 rintro e w1 ⟨rfl,m,rfl⟩
 go_wp2_with fail
 obtain ⟨W0,hW0⟩:∃ W0,W0=(w.setCell ⟨g,1,none⟩ (.int .i64 ((a:Int)+(n:Int)))).drewN (1+m):=⟨_,rfl⟩
 rw [← hW0]
 have hB':∀ j,j < n→(Lib.bytesWorld W0 5 (t.extract a (a+n))).cell? ⟨W0.heap.size,j,none⟩=some (.int .u8 ((t.extract a (a+n)).data.toList.getD j 0).toNat):=fun j hj=>hB W0 j (by omega)
 have hX:W0.Extends (Lib.bytesWorld W0 5 (t.extract a (a+n))):=by
  rw [← run_bytesW W0 (t.extract a (a+n))]
  exact (World.Extends.refl W0).drew.alloc _
 have hX0:(w.setCell ⟨g,1,none⟩ (.int .i64 ((a:Int)+(n:Int)))).Extends W0:=by
  subst hW0
  generalize 1+m=q
  exact ⟨rfl,rfl,rfl,Nat.le_refl _,fun _ _=>rfl,fun _ _=>rfl,fun _ _=>rfl⟩
 have hXX:=hX0.trans hX
 obtain ⟨W1,hW1⟩:∃ W1,W1=Lib.bytesWorld W0 5 (t.extract a (a+n)):=⟨_,rfl⟩
 have hsW:W0.heap.size=w.heap.size:=by rw [hW0];simp
 rw [hsW] at hB'
 rw [← hW1] at hB' hXX ⊢
 clear hB hcv hX hX0 hW1 hW0
 go_loop [5,13] (fun vn vi=>∃ (k:Nat) (x:Nat),vn=.int .i64 x∧vi=.int .i64 k∧k≤n∧Hid (x=rnum t a k))
  (fun _ vi=>n - (intOf vi).toNat)
 case atStart=>exact ⟨0,0,rfl,rfl,by omega,rfl⟩
 case round=>
  obtain ⟨k,x,rfl,rfl,hk,hx⟩:=hrel
  by_cases hkn:k < n
  ·have hc:decide ((k:Int) < (n:Int))=true:=by simp;omega
   have hcell:=hB' k hkn
   have hi0:(0:Int)≤(k:Int):=by omega
   have hi1:(k:Int) < (n:Int):=by omega
   have hi2:((k:Int)).toNat=k:=by omega
   have hxl:x < 4294967296:=by
    have h:=rnum_lt t a k
    have h3:(256:Nat) ^ k≤256 ^ 3:=Nat.pow_le_pow_right (by omega) (by omega)
    rw [← hx.out] at h
    omega
   have hor:=or_byte x (t.data[a+k]?.getD 0).toNat hxl (UInt8.toNat_lt _)
   have hH:Hid (x * 256+(t.data[a+k]?.getD 0).toNat=rnum t a (k+1)):=by
    show _=_
    rw [hx.out]
    rfl
   go_wp2_with fail
   refine ⟨⟨k+1,_,by simp,by simp,by omega,hH⟩,by simp [intOf];omega⟩
  ·have hc:decide ((k:Int) < (n:Int))=false:=by simp;omega
   have hkn2:k=n:=by omega
   have hH:Hid (x=rnum t a n):=by rw [← hkn2];exact hx
   go_wp2_with fail
   simp [bodyPost,results,Tryz.results59]
   exact ⟨by rw [hH.out],hXX⟩
structure IsR (g:Nat) (t:ByteArray) (a:Nat) (w:World):Prop where
 c0:w.cell? ⟨g,0,none⟩=some (.string t)
 c1:w.cell? ⟨g,1,none⟩=some (.int .i64 a)
 hz:w.frozen? ⟨g,1,none⟩=false
 hg:g < w.heap.size
theorem IsR.move {g a b:Nat} {t:ByteArray} {w w':World} (h:IsR g t a w) (hx:(w.setCell ⟨g,1,none⟩ (.int .i64 (b:Int))).Extends w'):IsR g t b w' where
 c0:=by
  refine hx.cell_of ?_
  have:=h.c0
  exact (World.cell?_setCell_other _ _ _ _ (by simp)).trans this
 c1:=hx.cell_of (World.cell?_setCell_same _ _ _ h.c1)
 hz:=by rw [hx.frozen _ (by simp;exact h.hg)];simpa using h.hz
 hg:=by have:=hx.size;simp at this;have:=h.hg;omega
set_option maxHeartbeats 1600000 in
set_option maxRecDepth 100000 in
theorem expect_ok (g a n:Nat) (t:ByteArray) (w:World) (h:IsR g t a w) (hs:t.size≤1000) (han:a+n≤t.size) (hn:n≤4) :
 Calls Tryz.prog 61 #[.pointer (some ⟨g,0,none⟩),.int .i64 n,.int .i64 (rnum t a n)] w fun e w'=>e=.returned (.tuple #[])∧(w.setCell ⟨g,1,none⟩ (.int .i64 ((a+n:Nat):Int))).Extends w':=by
 have HT:Hid (Calls Tryz.prog 59 #[.pointer (some ⟨g,0,none⟩),.int .i64 n] w fun e w'=>e=.returned (.int .i64 (rnum t a n))∧(w.setCell ⟨g,1,none⟩ (.int .i64 ((a:Int)+(n:Int)))).Extends w'):=rnumber_ok g a n t w h.c0 h.c1 h.hz hs han hn
 go_enter Tryz.func61,Tryz.ntmps61
 go_wp2_with fail
 refine HT.out.mono ?_
 rintro e w1 ⟨rfl,hx⟩
 have hX:Hid ((w.setCell ⟨g,1,none⟩ (.int .i64 ((a+n:Nat):Int))).Extends w1):=by
  rw [Int.natCast_add]
  exact hx
 clear hx
 go_wp2_with fail
 refine (need_ok _ _).mono ?_
 rintro e w5 ⟨rfl,rfl⟩
 go_wp2_with fail
 simp [bodyPost,results,Tryz.results61]
 simpa using hX.out
set_option maxHeartbeats 1600000 in
set_option maxRecDepth 100000 in
theorem counted_ok (g a:Nat) (t:ByteArray) (w:World) (h:IsR g t a w) (hs:t.size≤1000) (han:a+1+rnum t a 1≤t.size) :
 Calls Tryz.prog 96 #[.pointer (some ⟨g,0,none⟩)] w fun e w'=>e=.returned (.string (t.extract (a+1) (a+1+rnum t a 1)))∧∃ w1,(w.setCell ⟨g,1,none⟩ (.int .i64 ((a+1:Nat):Int))).Extends w1∧(w1.setCell ⟨g,1,none⟩ (.int .i64 ((a+1+rnum t a 1:Nat):Int))).Extends w':=by
 have HT:Hid (Calls Tryz.prog 59 #[.pointer (some ⟨g,0,none⟩),.int .i64 1] w fun e w'=>e=.returned (.int .i64 (rnum t a 1))∧(w.setCell ⟨g,1,none⟩ (.int .i64 ((a:Int)+((1:Nat):Int)))).Extends w'):=rnumber_ok g a 1 t w h.c0 h.c1 h.hz hs (by omega) (by omega)
 go_enter Tryz.func96,Tryz.ntmps96
 go_wp2_with fail
 refine HT.out.mono ?_
 rintro e w1 ⟨rfl,hx⟩
 have hX:Hid ((w.setCell ⟨g,1,none⟩ (.int .i64 ((a+1:Nat):Int))).Extends w1):=by
  rw [Int.natCast_add]
  exact hx
 clear hx
 have h1:=h.move hX.out
 have HT2:Hid (Calls Tryz.prog 92 #[.pointer (some ⟨g,0,none⟩),.int .i64 (rnum t a 1:Nat)] w1 fun e w'=>e=.returned (.string (t.extract (a+1) (a+1+rnum t a 1)))∧∃ m,w'=(w1.setCell ⟨g,1,none⟩ (.int .i64 (((a+1:Nat):Int)+((rnum t a 1:Nat):Int)))).drew.drewN m):=take_ok g (a+1) (rnum t a 1) t w1 h1.c0 h1.c1 h1.hz hs han
 go_wp2_with fail
 refine HT2.out.mono ?_
 rintro e w2 ⟨rfl,m,rfl⟩
 go_wp2_with fail
 simp [bodyPost,results,Tryz.results96]
 refine ⟨w1,by simpa using hX.out,?_⟩
 exact ⟨rfl,rfl,rfl,Nat.le_refl _,fun _ _=>rfl,fun _ _=>rfl,fun _ _=>rfl⟩
set_option maxHeartbeats 1600000 in
set_option maxRecDepth 100000 in
theorem small_same (s:ByteArray) (w:World) (hs:s.size≤1000) (hlow:∀ j,j < s.size→90 < (s.data.toList.getD j 0).toNat∨(s.data.toList.getD j 0).toNat < 65) :
 Calls Tryz.prog 95 #[.string s] w fun e w'=>e=.returned (.string s)∧w.Extends w':=by
 have hcv:=fun w s=>Lib.run_convert_string_bytes (P:=Tryz.prog) w 9 102 5 s (u:=.string) Tryz.underlying9 Tryz.underlying102 Tryz.underlying5
 have hB':∀ j,j < s.size→(Lib.bytesWorld w 5 s).cell? ⟨w.heap.size,j,none⟩=some (.int .u8 (s.data.toList.getD j 0).toNat):=fun j hj=>Lib.bytesWorld_cell w 5 s j hj
 have hX:w.Extends (Lib.bytesWorld w 5 s):=by
  rw [← run_bytesW w s]
  exact (World.Extends.refl w).drew.alloc _
 obtain ⟨W1,hW1⟩:∃ W1,W1=Lib.bytesWorld w 5 s:=⟨_,rfl⟩
 go_enter Tryz.func95,Tryz.ntmps95
 go_wp2_with fail
 rw [← hW1] at hB' hX ⊢
 clear hcv hW1
 have hsz2:s.data.toList.length=s.size:=by simp
 have hbk:∀ cap,(convert 102 9 (.slice (some ⟨w.heap.size,0,none⟩) s.size cap)).run Tryz.prog W1=.ok (.string s) W1:=fun cap=>by
  have h:=run_convert_bytes_back (P:=Tryz.prog) W1 102 9 5 ⟨w.heap.size,0,none⟩ cap s.data.toList Tryz.underlying102 Tryz.underlying5 Tryz.underlying9 (fun j hj=>by
   have h2:=hB' j (by omega)
   rw [List.getD_eq_getElem?_getD,List.getElem?_eq_getElem hj] at h2
   have ha:(⟨w.heap.size,0,none⟩:Addr).add j=⟨w.heap.size,j,none⟩:=by
    by_cases hj0:j=0<;>simp [Addr.add,hj0]
   rw [ha]
   simpa using h2)
  rw [hsz2] at h
  exact h
 go_loopw [10] (fun vi wr=>∃ (k:Nat),vi=.int .i64 k∧k≤s.size∧wr=W1)
  (fun vi _=>s.size - (intOf vi).toNat)
 case atStart=>exact ⟨0,rfl,by omega,rfl⟩
 case round=>
  obtain ⟨k,rfl,hk,rfl⟩:=hrel
  by_cases hkn:k < s.size
  ·have hc:decide ((k:Int) < (s.size:Int))=true:=by simp;omega
   have hcell:=hB' k hkn
   have hi0:(0:Int)≤(k:Int):=by omega
   have hi1:(k:Int) < (s.size:Int):=by omega
   have hi2:((k:Int)).toNat=k:=by omega
   have hl:=hlow k hkn
   generalize hb:(s.data.toList.getD k 0).toNat=b at hcell hl
   clear hB' hlow hbk hb
   have hnot:(decide ((65:Int)≤(b:Int)) && decide ((b:Int)≤90))=false:=by
    rcases hl with h | h<;>simp<;>omega
   by_cases h65:65≤b
   ·have hd1:decide ((65:Int)≤(b:Int))=true:=by simp;omega
    have hd2:decide ((b:Int)≤90)=false:=by simp;omega
    go_wp2_with fail
    refine ⟨⟨k+1,by simp,by omega,trivial⟩,by simp [intOf];omega⟩
   ·have hd1:decide ((65:Int)≤(b:Int))=false:=by simp;omega
    go_wp2_with fail
    refine ⟨⟨k+1,by simp,by omega,trivial⟩,by simp [intOf];omega⟩
  ·have hc:decide ((k:Int) < (s.size:Int))=false:=by simp;omega
   go_wp2_with fail
   simp [bodyPost,results,Tryz.results95]
   exact hX
end Go.Proofs.YtignmeaeibaejaaGreatDoor
