import Derived.Test.YtffdoiokmiklgaaGreatDoorX7
import Derived.Lib.QuietBelow
namespace Go.Proofs.YtffdoiokmiklgaaGreatDoor
open Go.RowKit
set_option maxHeartbeats 800000 in
set_option maxRecDepth 100000 in
theorem rises_row (ms:List Mem) (b off cap:Nat) (w:World) (hr:Row w b off ms) (hb:b < w.heap.size) (hn:ms.length≤20) :
 Calls Tryz.prog 178 #[.slice (some ⟨b,off,none⟩) ms.length cap,.func (.func 179) #[] #[]] w fun e w'=>e=.returned (.bool (risesB ms))∧Below w.heap.size w w':=by
 have HR:Hid (Row w b off ms):=hr
 clear hr
 have H4:Hid (∀ k,k+1 < ms.length→0≤cmpI (ms.getD k dm).name (ms.getD (k+1) dm).name→risesB ms=false):=fun k hk hl=>by
  rcases h:risesB ms with _ | _
  ·rfl
  ·have:=rises_getO ms h k hk;omega
 have H0:Hid ((∀ j,j+1 < ms.length→cmpI (ms.getD j dm).name (ms.getD (j+1) dm).name < 0)→risesB ms=true):=rises_allO ms
 generalize hN:ms.length=n at *
 have HN:Hid (ms.length=n):=hN
 clear hN
 generalize hC:risesB ms=res at *
 have HC:Hid (risesB ms=res):=hC
 clear hC
 go_enter Tryz.func178,Tryz.ntmps178
 go_wp2_with fail
 go_loopw [5] (fun i w'=>∃ k:Nat,(k+1≤n∨k=0)∧i=.int .i64 (k+1)∧Below w.heap.size w w'∧Hid (∀ j,j < k→cmpI (ms.getD j dm).name (ms.getD (j+1) dm).name < 0)) (fun i _=>n - (intOf i).toNat)
 case atStart=>exact ⟨0,.inr rfl,rfl,Below.refl _ _,fun j h=>absurd h (Nat.not_lt_zero _)⟩
 case round=>
  obtain ⟨q,hq,rfl,hbl,hz⟩:=hrel
  obtain ⟨hbc,hbf⟩:=bcell hbl
  have hsz:=hbl.size
  by_cases hlt:q+1 < n
  ·obtain ⟨c0,c1,c2,c3,c4⟩:=HR.out q (by rw [HN.out];omega)
   obtain ⟨d0,d1,d2,d3,d4⟩:=HR.out (q+1) (by rw [HN.out];exact hlt)
   have HK:Hid (0≤cmpI (ms.getD q dm).name (ms.getD (q+1) dm).name→res=false):=fun h=>H4.out q hlt h
   have HZ:Hid (cmpI (ms.getD q dm).name (ms.getD (q+1) dm).name < 0→∀ j,j < q+1→cmpI (ms.getD j dm).name (ms.getD (j+1) dm).name < 0):=fun h j hj=>by
    rcases Nat.lt_succ_iff_lt_or_eq.1 hj with h2 | rfl
    ·exact hz.out j h2
    ·exact h
   generalize ms.getD q dm=m1 at *
   generalize ms.getD (q+1) dm=m2 at *
   have hN:∀ d os,Calls Tryz.prog 179 #[.agg #[.string m1.name,.int .i64 m1.state,.int .i64 m1.life,.int .i64 m1.addr,.bool m1.server],.agg #[.string m2.name,.int .i64 m2.state,.int .i64 m2.life,.int .i64 m2.addr,.bool m2.server]] (Go.Sort.grow (redrawn wr d) os) fun e w''=>e=.returned (.int .i64 (cmpI m1.name m2.name))∧∃ p:Regrown,w''=Go.Sort.grow (redrawn wr p.d) p.os:=fun d os=>Calls.regrown_of (order_any m1 m2 _)
   have F0:∀ d os,(Go.Sort.grow (redrawn wr d) os).cell? ⟨b,off+q * 5,none⟩=some (.string m1.name):=cell_regrown ((hbc _ _ hb).trans c0)
   have F1:∀ d os,(Go.Sort.grow (redrawn wr d) os).cell? ⟨b,off+q * 5+1,none⟩=some (.int .i64 m1.state):=cell_regrown ((hbc _ _ hb).trans c1)
   have F2:∀ d os,(Go.Sort.grow (redrawn wr d) os).cell? ⟨b,off+q * 5+2,none⟩=some (.int .i64 m1.life):=cell_regrown ((hbc _ _ hb).trans c2)
   have F3:∀ d os,(Go.Sort.grow (redrawn wr d) os).cell? ⟨b,off+q * 5+3,none⟩=some (.int .i64 m1.addr):=cell_regrown ((hbc _ _ hb).trans c3)
   have F4:∀ d os,(Go.Sort.grow (redrawn wr d) os).cell? ⟨b,off+q * 5+4,none⟩=some (.bool m1.server):=cell_regrown ((hbc _ _ hb).trans c4)
   have G0:∀ d os,(Go.Sort.grow (redrawn wr d) os).cell? ⟨b,off+(q+1) * 5,none⟩=some (.string m2.name):=cell_regrown ((hbc _ _ hb).trans d0)
   have G1:∀ d os,(Go.Sort.grow (redrawn wr d) os).cell? ⟨b,off+(q+1) * 5+1,none⟩=some (.int .i64 m2.state):=cell_regrown ((hbc _ _ hb).trans d1)
   have G2:∀ d os,(Go.Sort.grow (redrawn wr d) os).cell? ⟨b,off+(q+1) * 5+2,none⟩=some (.int .i64 m2.life):=cell_regrown ((hbc _ _ hb).trans d2)
   have G3:∀ d os,(Go.Sort.grow (redrawn wr d) os).cell? ⟨b,off+(q+1) * 5+3,none⟩=some (.int .i64 m2.addr):=cell_regrown ((hbc _ _ hb).trans d3)
   have G4:∀ d os,(Go.Sort.grow (redrawn wr d) os).cell? ⟨b,off+(q+1) * 5+4,none⟩=some (.bool m2.server):=cell_regrown ((hbc _ _ hb).trans d4)
   clear c0 c1 c2 c3 c4 d0 d1 d2 d3 d4 hbc hbf
   generalize cmpI m1.name m2.name=r at *
   have hwq:IntKind.i64.wrap (q:Int)=(q:Int):=by rw [IntKind.wrap_i64];omega
   have hqn:q < n:=by omega
   have hq1:(q:Int)+1 < (n:Int):=by omega
   have hq0:(0:Int)≤(q:Int)+1:=by omega
   have htn:((q:Int)+1).toNat=q+1:=by omega
   by_cases hl:r < 0
   ·have hl2:¬ (0≤r):=by omega
    go_wp2_with fail
    refine wp_region_quiet_below (by kernel_rfl) (by kernel_rfl) ?_
    repeat (quiet_step (exact hN _ _))
    refine wpQuiet_nil ?_
    intro _ hw'
    obtain ⟨⟨dq,osq⟩,hw''⟩:=hw'
    subst hw''
    have HBQ:Hid (Below wr.heap.size wr (Go.Sort.grow (redrawn wr dq) osq)):=below_regrown wr dq osq
    clear hN F0 F1 F2 F3 F4 G0 G1 G2 G3 G4
    go_wp2_with fail
    go_roundw
    case rel=>exact ⟨q+1,.inl (by omega),by go_num,hbl.trans (HBQ.out.mono hsz),HZ.out hl⟩
    case measure=>simp [intOf];omega
   ·have hl2:0≤r:=by omega
    have h4:Hid (res=false):=HK.out hl2
    go_wp2_with fail
    refine wp_region_quiet_below (by kernel_rfl) (by kernel_rfl) ?_
    repeat (quiet_step (exact hN _ _))
    refine wpQuiet_nil ?_
    intro _ hw'
    obtain ⟨⟨dq,osq⟩,hw''⟩:=hw'
    subst hw''
    have HBQ:Hid (Below wr.heap.size wr (Go.Sort.grow (redrawn wr dq) osq)):=below_regrown wr dq osq
    clear hN F0 F1 F2 F3 F4 G0 G1 G2 G3 G4
    go_wp2_with fail
    go_ret
    exact ⟨ret_bool h4.out.symm,hbl.trans (HBQ.out.mono hsz)⟩
  ·have h0:Hid (res=true):=H0.out fun j hj=>hz.out j (by omega)
   go_wp2_with fail
   go_ret
   exact ⟨ret_bool h0.out.symm,hbl⟩
set_option maxHeartbeats 400000 in
theorem rises_none (a:Option Addr) (cap:Nat) (fv:Value) (w:World) :
 Calls Tryz.prog 178 #[.slice a 0 cap,fv] w fun e w'=>e=.returned (.bool true)∧w'=w:=by
 go_enter Tryz.func178,Tryz.ntmps178
 go_wp2_with fail
 go_loop [5] (fun i=>i=.int .i64 1) (fun _=>0)
 case atStart=>rfl
 case round=>
  subst hrel
  go_wp2_with fail
  go_ret
  exact ⟨rfl,rfl⟩
set_option maxHeartbeats 800000 in
theorem search_row (ms:List Mem) (b off cap:Nat) (lk:Mem) (w:World) (hr:Row w b off ms) (hb:b < w.heap.size) (hn:ms.length≤40)
 (hmono:∀ i j,i≤j→j < ms.length→cmpI (ms.getD j dm).name lk.name < 0→cmpI (ms.getD i dm).name lk.name < 0) :
 Calls Tryz.prog 268 #[.slice (some ⟨b,off,none⟩) ms.length cap,.agg #[.string lk.name,.int .i64 lk.state,.int .i64 lk.life,.int .i64 lk.addr,.bool lk.server],.func (.func 179) #[] #[]] w fun e w'=>∃ (p:Nat) (f:Bool),e=.returned (.tuple #[.int .i64 p,.bool f])∧Below w.heap.size w w' ∧
  p≤ms.length∧(∀ j,j < p→cmpI (ms.getD j dm).name lk.name < 0)∧(∀ j,p≤j→j < ms.length→0≤cmpI (ms.getD j dm).name lk.name)∧(f=true↔p < ms.length∧cmpI (ms.getD p dm).name lk.name=0):=by
 have HR:Hid (Row w b off ms):=hr
 clear hr
 have HM:Hid (∀ i j,i≤j→j < ms.length→cmpI (ms.getD j dm).name lk.name < 0→cmpI (ms.getD i dm).name lk.name < 0):=hmono
 clear hmono
 generalize hN:ms.length=n at *
 have HN:Hid (ms.length=n):=hN
 clear hN
 go_enter Tryz.func268,Tryz.ntmps268
 go_wp2_with fail
 obtain ⟨W0,hW0⟩:∃ W0,W0=w.alloc (.cells #[.string lk.name,.int .i64 lk.state,.int .i64 lk.life,.int .i64 lk.addr,.bool lk.server] 56):=⟨_,rfl⟩
 have hb0:Below w.heap.size w W0:=by rw [hW0];exact (Below.refl _ _).alloc (Nat.le_refl _) _
 have hg0:W0.heap[w.heap.size]?=some (.cells #[.string lk.name,.int .i64 lk.state,.int .i64 lk.life,.int .i64 lk.addr,.bool lk.server] 56 (0,0)):=by rw [hW0];exact heap_alloc_new w _
 have hs0:W0.heap.size=w.heap.size+1:=by rw [hW0];simp
 have HR0:Hid (Row W0 b off ms):=HR.out.later hb0 hb
 have hT:∀ o,W0.cell? ⟨w.heap.size,o,none⟩=#[.string lk.name,.int .i64 lk.state,.int .i64 lk.life,.int .i64 lk.addr,.bool lk.server][o]?:=fun o=>cellsAt hg0 o
 have HT:Hid (∀ o,W0.cell? ⟨w.heap.size,o,none⟩=#[.string lk.name,.int .i64 lk.state,.int .i64 lk.life,.int .i64 lk.addr,.bool lk.server][o]?):=hT
 have HB0:Hid (Below w.heap.size w W0):=hb0
 have HW0:Hid (W0=w.alloc (.cells #[.string lk.name,.int .i64 lk.state,.int .i64 lk.life,.int .i64 lk.addr,.bool lk.server] 56)):=hW0
 clear hT hg0 hb0 HR hW0
 have hb':b < w.heap.size+1:=by omega
 go_loopw [9,10] (fun i j w'=>∃ k l:Nat,k≤l∧l≤n∧i=.int .i64 k∧j=.int .i64 l∧Below (w.heap.size+1) W0 w'∧Hid (∀ j,j < k→cmpI (ms.getD j dm).name lk.name < 0)∧Hid (∀ j,l≤j→j < n→0≤cmpI (ms.getD j dm).name lk.name)) (fun i j _=>(intOf j).toNat - (intOf i).toNat)
 case atStart=>exact ⟨0,n,Nat.zero_le _,Nat.le_refl _,rfl,rfl,by rw [HW0.out];exact Below.refl _ _,fun j h=>absurd h (Nat.not_lt_zero _),fun j h1 h2=>by omega⟩
 case round=>
  obtain ⟨k,l,hkl,hln,rfl,rfl,hbl,hlo,hhi⟩:=hrel
  have hsz:=hbl.size
  have hbc:∀ b o,b < w.heap.size+1→wr.cell? ⟨b,o,none⟩=W0.cell? ⟨b,o,none⟩:=fun b o h=>hbl.cell (p:=⟨b,o,none⟩) h
  have G0:∀ d os,(Go.Sort.grow (redrawn wr d) os).cell? ⟨w.heap.size,0,none⟩=some (.string lk.name):=cell_regrown ((hbc _ _ (by omega)).trans (HT.out 0))
  have G1:∀ d os,(Go.Sort.grow (redrawn wr d) os).cell? ⟨w.heap.size,1,none⟩=some (.int .i64 lk.state):=cell_regrown ((hbc _ _ (by omega)).trans (HT.out 1))
  have G2:∀ d os,(Go.Sort.grow (redrawn wr d) os).cell? ⟨w.heap.size,2,none⟩=some (.int .i64 lk.life):=cell_regrown ((hbc _ _ (by omega)).trans (HT.out 2))
  have G3:∀ d os,(Go.Sort.grow (redrawn wr d) os).cell? ⟨w.heap.size,3,none⟩=some (.int .i64 lk.addr):=cell_regrown ((hbc _ _ (by omega)).trans (HT.out 3))
  have G4:∀ d os,(Go.Sort.grow (redrawn wr d) os).cell? ⟨w.heap.size,4,none⟩=some (.bool lk.server):=cell_regrown ((hbc _ _ (by omega)).trans (HT.out 4))
  by_cases hlt:k < l
  ·obtain ⟨h,hh,h1,h2⟩:∃ h:Nat,((k:Int)+(l:Int)) / 2=(h:Int)∧k≤h∧h < l:=⟨(k+l) / 2,by omega,by omega,by omega⟩
   obtain ⟨c0,c1,c2,c3,c4⟩:=HR0.out h (by rw [HN.out];omega)
   have hm1:=HM.out
   have HK:Hid (cmpI (ms.getD h dm).name lk.name < 0→∀ j,j < h+1→cmpI (ms.getD j dm).name lk.name < 0):=fun hx j hj=>hm1 j h (by omega) (by omega) hx
   have HL:Hid (0≤cmpI (ms.getD h dm).name lk.name→∀ j,h≤j→j < n→0≤cmpI (ms.getD j dm).name lk.name):=fun hx j hj hjn=>by
    apply Int.not_lt.1
    intro hq
    have:=hm1 h j hj hjn hq
    omega
   clear hm1
   have hhn:h < n:=by omega
   generalize ms.getD h dm=m at *
   have hO:∀ d os,Calls Tryz.prog 179 #[.agg #[.string m.name,.int .i64 m.state,.int .i64 m.life,.int .i64 m.addr,.bool m.server],.agg #[.string lk.name,.int .i64 lk.state,.int .i64 lk.life,.int .i64 lk.addr,.bool lk.server]] (Go.Sort.grow (redrawn wr d) os) fun e w''=>e=.returned (.int .i64 (cmpI m.name lk.name))∧∃ p:Regrown,w''=Go.Sort.grow (redrawn wr p.d) p.os:=fun d os=>Calls.regrown_of (order_any m lk _)
   have F0:∀ d os,(Go.Sort.grow (redrawn wr d) os).cell? ⟨b,off+h * 5,none⟩=some (.string m.name):=cell_regrown ((hbc _ _ hb').trans c0)
   have F1:∀ d os,(Go.Sort.grow (redrawn wr d) os).cell? ⟨b,off+h * 5+1,none⟩=some (.int .i64 m.state):=cell_regrown ((hbc _ _ hb').trans c1)
   have F2:∀ d os,(Go.Sort.grow (redrawn wr d) os).cell? ⟨b,off+h * 5+2,none⟩=some (.int .i64 m.life):=cell_regrown ((hbc _ _ hb').trans c2)
   have F3:∀ d os,(Go.Sort.grow (redrawn wr d) os).cell? ⟨b,off+h * 5+3,none⟩=some (.int .i64 m.addr):=cell_regrown ((hbc _ _ hb').trans c3)
   have F4:∀ d os,(Go.Sort.grow (redrawn wr d) os).cell? ⟨b,off+h * 5+4,none⟩=some (.bool m.server):=cell_regrown ((hbc _ _ hb').trans c4)
   clear c0 c1 c2 c3 c4 hbc
   generalize cmpI m.name lk.name=r at *
   by_cases hlt2:r < 0
   ·go_wp2_with fail
    refine wp_region_quiet_below (by kernel_rfl) (by kernel_rfl) ?_
    repeat (quiet_step (exact hO _ _))
    refine wpQuiet_nil ?_
    intro _ hw'
    obtain ⟨⟨dq,osq⟩,hw''⟩:=hw'
    subst hw''
    have HBQ:Hid (Below wr.heap.size wr (Go.Sort.grow (redrawn wr dq) osq)):=below_regrown wr dq osq
    clear hO F0 F1 F2 F3 F4 G0 G1 G2 G3 G4
    go_wp2_with fail
    exact ⟨⟨h+1,l,by omega,by omega,by go_num,rfl,hbl.trans (HBQ.out.mono (by omega)),HK.out hlt2,hhi⟩,by simp [intOf];omega⟩
   ·have hlt3:0≤r:=by omega
    go_wp2_with fail
    refine wp_region_quiet_below (by kernel_rfl) (by kernel_rfl) ?_
    repeat (quiet_step (exact hO _ _))
    refine wpQuiet_nil ?_
    intro _ hw'
    obtain ⟨⟨dq,osq⟩,hw''⟩:=hw'
    subst hw''
    have HBQ:Hid (Below wr.heap.size wr (Go.Sort.grow (redrawn wr dq) osq)):=below_regrown wr dq osq
    clear hO F0 F1 F2 F3 F4 G0 G1 G2 G3 G4
    go_wp2_with fail
    exact ⟨⟨k,h,by omega,by omega,rfl,rfl,hbl.trans (HBQ.out.mono (by omega)),hlo,HL.out hlt3⟩,by simp [intOf];omega⟩
  ·have hkl':l=k:=by omega
   subst hkl'
   by_cases hkn:l < n
   ·obtain ⟨c0,c1,c2,c3,c4⟩:=HR0.out l (by rw [HN.out];omega)
    generalize hm:ms.getD l dm=m at *
    have Hm:Hid (ms.getD l dm=m):=hm
    clear hm
    have hO:∀ d os,Calls Tryz.prog 179 #[.agg #[.string m.name,.int .i64 m.state,.int .i64 m.life,.int .i64 m.addr,.bool m.server],.agg #[.string lk.name,.int .i64 lk.state,.int .i64 lk.life,.int .i64 lk.addr,.bool lk.server]] (Go.Sort.grow (redrawn wr d) os) fun e w''=>e=.returned (.int .i64 (cmpI m.name lk.name))∧∃ p:Regrown,w''=Go.Sort.grow (redrawn wr p.d) p.os:=fun d os=>Calls.regrown_of (order_any m lk _)
    have F0:∀ d os,(Go.Sort.grow (redrawn wr d) os).cell? ⟨b,off+l * 5,none⟩=some (.string m.name):=cell_regrown ((hbc _ _ hb').trans c0)
    have F1:∀ d os,(Go.Sort.grow (redrawn wr d) os).cell? ⟨b,off+l * 5+1,none⟩=some (.int .i64 m.state):=cell_regrown ((hbc _ _ hb').trans c1)
    have F2:∀ d os,(Go.Sort.grow (redrawn wr d) os).cell? ⟨b,off+l * 5+2,none⟩=some (.int .i64 m.life):=cell_regrown ((hbc _ _ hb').trans c2)
    have F3:∀ d os,(Go.Sort.grow (redrawn wr d) os).cell? ⟨b,off+l * 5+3,none⟩=some (.int .i64 m.addr):=cell_regrown ((hbc _ _ hb').trans c3)
    have F4:∀ d os,(Go.Sort.grow (redrawn wr d) os).cell? ⟨b,off+l * 5+4,none⟩=some (.bool m.server):=cell_regrown ((hbc _ _ hb').trans c4)
    clear c0 c1 c2 c3 c4 hbc
    generalize hrr:cmpI m.name lk.name=r at *
    have Hr:Hid (cmpI m.name lk.name=r):=hrr
    clear hrr
    go_wp2_with fail
    refine wp_region_quiet_below (by kernel_rfl) (by kernel_rfl) ?_
    repeat (quiet_step (exact hO _ _))
    refine wpQuiet_nil ?_
    intro _ hw'
    obtain ⟨⟨dq,osq⟩,hw''⟩:=hw'
    subst hw''
    have HBQ:Hid (Below wr.heap.size wr (Go.Sort.grow (redrawn wr dq) osq)):=below_regrown wr dq osq
    clear hO F0 F1 F2 F3 F4 G0 G1 G2 G3 G4
    go_wp2_with fail
    go_ret2
    refine ⟨l,_,rfl,HB0.out.trans ((hbl.trans (HBQ.out.mono (by omega))).mono (by omega)),by omega,hlo.out,hhi.out,?_⟩
    rw [Hm.out,Hr.out]
    simp [hkn]
   ·clear G0 G1 G2 G3 G4
    have hkd:decide ((l:Int) < (n:Int))=false:=by simp;omega
    go_wp2_with fail
    go_quiet (fail)
    go_wp2_with fail
    go_ret2
    refine ⟨l,_,rfl,HB0.out.trans ((below_drewN hbl _).mono (by omega)),by omega,hlo.out,hhi.out,?_⟩
    simp [hkn]
set_option maxHeartbeats 800000 in
theorem search_none (a:Option Addr) (cap:Nat) (lk:Mem) (fv:Value) (w:World) :
 Calls Tryz.prog 268 #[.slice a 0 cap,.agg #[.string lk.name,.int .i64 lk.state,.int .i64 lk.life,.int .i64 lk.addr,.bool lk.server],fv] w fun e w'=>e=.returned (.tuple #[.int .i64 0,.bool false])∧Below w.heap.size w w':=by
 go_enter Tryz.func268,Tryz.ntmps268
 go_wp2_with fail
 go_loop [9,10] (fun i j=>i=.int .i64 0∧j=.int .i64 0) (fun _ _=>0)
 case atStart=>exact ⟨rfl,rfl⟩
 case round=>
  obtain ⟨rfl,rfl⟩:=hrel
  go_wp2_with fail
  go_quiet (fail)
  go_wp2_with fail
  go_ret2
  exact ⟨rfl,below_drewN ((Below.refl _ _).alloc (Nat.le_refl _) _) _⟩
theorem bsearch_any (ms:List Mem) (v:Value) (lk:Mem) (w:World) (h:Sl w v ms) (hn:ms.length≤40)
 (hmono:∀ i j,i≤j→j < ms.length→cmpI (ms.getD j dm).name lk.name < 0→cmpI (ms.getD i dm).name lk.name < 0) :
 Calls Tryz.prog 268 #[v,.agg #[.string lk.name,.int .i64 lk.state,.int .i64 lk.life,.int .i64 lk.addr,.bool lk.server],.func (.func 179) #[] #[]] w fun e w'=>∃ (p:Nat) (f:Bool),e=.returned (.tuple #[.int .i64 p,.bool f])∧Below w.heap.size w w'∧At ms lk.name p f:=by
 obtain ⟨a,cap,rfl,hs,h⟩:=h
 rcases h with rfl | ⟨b,off,rfl,hb,hr⟩
 ·refine (search_none a cap lk _ w).mono ?_
  rintro e w' ⟨rfl,hb⟩
  exact ⟨0,false,rfl,hb,⟨by simp,fun j h=>by omega,fun j h h2=>by simp at h2,by simp⟩⟩
 ·refine (search_row ms b off cap lk w hr hb hn hmono).mono ?_
  rintro e w' ⟨p,f,rfl,hbl,g1,g2,g3,g4⟩
  exact ⟨p,f,rfl,hbl,⟨g1,g2,g3,g4⟩⟩
set_option maxHeartbeats 400000 in
theorem find_any (ms:List Mem) (v:Value) (lk:Mem) (w:World) (h:Sl w v ms) (hn:ms.length≤40) (hr:Rise ms) :
 Calls Tryz.prog 237 #[v,.agg #[.string lk.name,.int .i64 lk.state,.int .i64 lk.life,.int .i64 lk.addr,.bool lk.server],.func (.func 179) #[] #[]] w fun e w'=>∃ (p:Nat) (f:Bool),e=.returned (.tuple #[.int .i64 p,.bool f])∧Below w.heap.size w w'∧At ms lk.name p f:=by
 have HC:Hid (∀ w',Below w.heap.size w w'→Calls Tryz.prog 268 #[v,.agg #[.string lk.name,.int .i64 lk.state,.int .i64 lk.life,.int .i64 lk.addr,.bool lk.server],.func (.func 179) #[] #[]] w' fun e w''=>∃ (p:Nat) (f:Bool),e=.returned (.tuple #[.int .i64 p,.bool f])∧Below w'.heap.size w' w''∧At ms lk.name p f):=
  fun w' hb=>bsearch_any ms v lk w' (h.below hb) hn (rise_mono hr lk.name)
 clear h hn hr
 go_enter Tryz.func237,Tryz.ntmps237
 go_wp2_with (go_at_call 268;refine (HC.out _ ?hb).mono ?_)
 case hb=>exact (Below.refl _ _).alloc (Nat.le_refl _) _
 rintro e w' ⟨p,f,rfl,hbl,hat⟩
 have HAT:Hid (At ms lk.name p f):=hat
 clear hat
 go_wp2_with fail
 go_ret2
 exact ⟨p,f,rfl,((Below.refl _ _).alloc (Nat.le_refl _) _).trans (hbl.mono (by simp)),HAT.out⟩
end Go.Proofs.YtffdoiokmiklgaaGreatDoor
