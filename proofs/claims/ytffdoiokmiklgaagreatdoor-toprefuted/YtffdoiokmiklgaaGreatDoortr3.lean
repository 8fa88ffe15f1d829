import Derived.Test.YtffdoiokmiklgaaGreatDoortr2
import Derived.Lib.QuietBelow
namespace Go.Proofs.YtffdoiokmiklgaaGreatDoor
namespace Sv
open Go.RowKit
set_option maxHeartbeats 800000 in
set_option maxRecDepth 100000 in
theorem rises_row (ms:List Svc) (b off cap:Nat) (w:World) (hr:Row w b off ms) (hb:b < w.heap.size) (hn:ms.length≤40) :
 Calls Tryz.prog 183 #[.slice (some ⟨b,off,none⟩) ms.length cap,.func (.func 184) #[] #[]] w fun e w'=>e=.returned (.bool (risesB ms))∧Below w.heap.size w w':=by
 have HR:Hid (Row w b off ms):=hr
 clear hr
 have H4:Hid (∀ k,k+1 < ms.length→0≤ord (ms.getD k dm) (ms.getD (k+1) dm)→risesB ms=false):=fun k hk hl=>by
  rcases h:risesB ms with _ | _
  ·rfl
  ·have:=rises_getO ms h k hk;omega
 have H0:Hid ((∀ j,j+1 < ms.length→ord (ms.getD j dm) (ms.getD (j+1) dm) < 0)→risesB ms=true):=rises_allO ms
 generalize hN:ms.length=n at *
 have HN:Hid (ms.length=n):=hN
 clear hN
 generalize hC:risesB ms=res at *
 have HC:Hid (risesB ms=res):=hC
 clear hC
 go_enter Tryz.func183,Tryz.ntmps183
 go_wp2_with fail
 go_loopw [5] (fun i w'=>∃ k:Nat,(k+1≤n∨k=0)∧i=.int .i64 (k+1)∧Below w.heap.size w w'∧Hid (∀ j,j < k→ord (ms.getD j dm) (ms.getD (j+1) dm) < 0)) (fun i _=>n - (intOf i).toNat)
 case atStart=>exact ⟨0,.inr rfl,rfl,Below.refl _ _,fun j h=>absurd h (Nat.not_lt_zero _)⟩
 case round=>
  obtain ⟨q,hq,rfl,hbl,hz⟩:=hrel
  obtain ⟨hbc,hbf⟩:=bcell hbl
  have hsz:=hbl.size
  by_cases hlt:q+1 < n
  ·obtain ⟨c0,c1,c2,c3,c4,c5,c6,c7,c8⟩:=HR.out q (by rw [HN.out];omega)
   obtain ⟨d0,d1,d2,d3,d4,d5,d6,d7,d8⟩:=HR.out (q+1) (by rw [HN.out];exact hlt)
   have HK:Hid (0≤ord (ms.getD q dm) (ms.getD (q+1) dm)→res=false):=fun h=>H4.out q hlt h
   have HZ:Hid (ord (ms.getD q dm) (ms.getD (q+1) dm) < 0→∀ j,j < q+1→ord (ms.getD j dm) (ms.getD (j+1) dm) < 0):=fun h j hj=>by
    rcases Nat.lt_succ_iff_lt_or_eq.1 hj with h2 | rfl
    ·exact hz.out j h2
    ·exact h
   generalize ms.getD q dm=m1 at *
   generalize ms.getD (q+1) dm=m2 at *
   have hN:∀ d os,Calls Tryz.prog 184 #[.agg #[.string m1.node,.string m1.idn,.string m1.name,.string m1.tag,.int .i64 m1.addr,.int .i64 m1.port,.bool m1.passing,.int .i64 m1.version,.bool m1.gone],.agg #[.string m2.node,.string m2.idn,.string m2.name,.string m2.tag,.int .i64 m2.addr,.int .i64 m2.port,.bool m2.passing,.int .i64 m2.version,.bool m2.gone]] (Go.Sort.grow (redrawn wr d) os) fun e w''=>e=.returned (.int .i64 (ord m1 m2))∧∃ p:Regrown,w''=Go.Sort.grow (redrawn wr p.d) p.os:=fun d os=>Calls.regrown_of (order_any m1 m2 _)
   have F0:∀ d os,(Go.Sort.grow (redrawn wr d) os).cell? ⟨b,off+q * 9,none⟩=some (.string m1.node):=cell_regrown ((hbc _ _ hb).trans c0)
   have F1:∀ d os,(Go.Sort.grow (redrawn wr d) os).cell? ⟨b,off+q * 9+1,none⟩=some (.string m1.idn):=cell_regrown ((hbc _ _ hb).trans c1)
   have F2:∀ d os,(Go.Sort.grow (redrawn wr d) os).cell? ⟨b,off+q * 9+2,none⟩=some (.string m1.name):=cell_regrown ((hbc _ _ hb).trans c2)
   have F3:∀ d os,(Go.Sort.grow (redrawn wr d) os).cell? ⟨b,off+q * 9+3,none⟩=some (.string m1.tag):=cell_regrown ((hbc _ _ hb).trans c3)
   have F4:∀ d os,(Go.Sort.grow (redrawn wr d) os).cell? ⟨b,off+q * 9+4,none⟩=some (.int .i64 m1.addr):=cell_regrown ((hbc _ _ hb).trans c4)
   have F5:∀ d os,(Go.Sort.grow (redrawn wr d) os).cell? ⟨b,off+q * 9+5,none⟩=some (.int .i64 m1.port):=cell_regrown ((hbc _ _ hb).trans c5)
   have F6:∀ d os,(Go.Sort.grow (redrawn wr d) os).cell? ⟨b,off+q * 9+6,none⟩=some (.bool m1.passing):=cell_regrown ((hbc _ _ hb).trans c6)
   have F7:∀ d os,(Go.Sort.grow (redrawn wr d) os).cell? ⟨b,off+q * 9+7,none⟩=some (.int .i64 m1.version):=cell_regrown ((hbc _ _ hb).trans c7)
   have F8:∀ d os,(Go.Sort.grow (redrawn wr d) os).cell? ⟨b,off+q * 9+8,none⟩=some (.bool m1.gone):=cell_regrown ((hbc _ _ hb).trans c8)
   have G0:∀ d os,(Go.Sort.grow (redrawn wr d) os).cell? ⟨b,off+(q+1) * 9,none⟩=some (.string m2.node):=cell_regrown ((hbc _ _ hb).trans d0)
   have G1:∀ d os,(Go.Sort.grow (redrawn wr d) os).cell? ⟨b,off+(q+1) * 9+1,none⟩=some (.string m2.idn):=cell_regrown ((hbc _ _ hb).trans d1)
   have G2:∀ d os,(Go.Sort.grow (redrawn wr d) os).cell? ⟨b,off+(q+1) * 9+2,none⟩=some (.string m2.name):=cell_regrown ((hbc _ _ hb).trans d2)
   have G3:∀ d os,(Go.Sort.grow (redrawn wr d) os).cell? ⟨b,off+(q+1) * 9+3,none⟩=some (.string m2.tag):=cell_regrown ((hbc _ _ hb).trans d3)
   have G4:∀ d os,(Go.Sort.grow (redrawn wr d) os).cell? ⟨b,off+(q+1) * 9+4,none⟩=some (.int .i64 m2.addr):=cell_regrown ((hbc _ _ hb).trans d4)
   have G5:∀ d os,(Go.Sort.grow (redrawn wr d) os).cell? ⟨b,off+(q+1) * 9+5,none⟩=some (.int .i64 m2.port):=cell_regrown ((hbc _ _ hb).trans d5)
   have G6:∀ d os,(Go.Sort.grow (redrawn wr d) os).cell? ⟨b,off+(q+1) * 9+6,none⟩=some (.bool m2.passing):=cell_regrown ((hbc _ _ hb).trans d6)
   have G7:∀ d os,(Go.Sort.grow (redrawn wr d) os).cell? ⟨b,off+(q+1) * 9+7,none⟩=some (.int .i64 m2.version):=cell_regrown ((hbc _ _ hb).trans d7)
   have G8:∀ d os,(Go.Sort.grow (redrawn wr d) os).cell? ⟨b,off+(q+1) * 9+8,none⟩=some (.bool m2.gone):=cell_regrown ((hbc _ _ hb).trans d8)
   clear c0 c1 c2 c3 c4 c5 c6 c7 c8 d0 d1 d2 d3 d4 d5 d6 d7 d8 hbc hbf
   generalize ord m1 m2=r at *
   have hwq:IntKind.i64.wrap (q:Int)=(q:Int):=by rw [IntKind.wrap_i64];omega
   have hqn:q < n:=by omega
   have hq1:(q:Int)+1 < (n:Int):=by omega
   have hq0:(0:Int)≤(q:Int)+1:=by omega
   have htn:((q:Int)+1).toNat=q+1:=by omega
   by_cases hl:r < 0
   ·have hl2:¬ (0≤r):=by omega
    go_wp2_with fail
    refine wp_region_quiet_below (by kernel_rfl) (by kernel_rfl) ?_
    repeat (quiet_step (exact hN _ _))
    refine wpQuiet_nil ?_
    intro _ hw'
    obtain ⟨⟨dq,osq⟩,hw''⟩:=hw'
    subst hw''
    have HBQ:Hid (Below wr.heap.size wr (Go.Sort.grow (redrawn wr dq) osq)):=below_regrown wr dq osq
    clear hN F0 F1 F2 F3 F4 F5 F6 F7 F8 G0 G1 G2 G3 G4 G5 G6 G7 G8
    go_wp2_with fail
    go_roundw
    case rel=>exact ⟨q+1,.inl (by omega),by go_num,hbl.trans (HBQ.out.mono hsz),HZ.out hl⟩
    case measure=>simp [intOf];omega
   ·have hl2:0≤r:=by omega
    have h4:Hid (res=false):=HK.out hl2
    go_wp2_with fail
    refine wp_region_quiet_below (by kernel_rfl) (by kernel_rfl) ?_
    repeat (quiet_step (exact hN _ _))
    refine wpQuiet_nil ?_
    intro _ hw'
    obtain ⟨⟨dq,osq⟩,hw''⟩:=hw'
    subst hw''
    have HBQ:Hid (Below wr.heap.size wr (Go.Sort.grow (redrawn wr dq) osq)):=below_regrown wr dq osq
    clear hN F0 F1 F2 F3 F4 F5 F6 F7 F8 G0 G1 G2 G3 G4 G5 G6 G7 G8
    go_wp2_with fail
    go_ret
    exact ⟨ret_bool h4.out.symm,hbl.trans (HBQ.out.mono hsz)⟩
  ·have h0:Hid (res=true):=H0.out fun j hj=>hz.out j (by omega)
   go_wp2_with fail
   go_ret
   exact ⟨ret_bool h0.out.symm,hbl⟩
set_option maxHeartbeats 400000 in
theorem rises_none (a:Option Addr) (cap:Nat) (fv:Value) (w:World) :
 Calls Tryz.prog 183 #[.slice a 0 cap,fv] w fun e w'=>e=.returned (.bool true)∧w'=w:=by
 go_enter Tryz.func183,Tryz.ntmps183
 go_wp2_with fail
 go_loop [5] (fun i=>i=.int .i64 1) (fun _=>0)
 case atStart=>rfl
 case round=>
  subst hrel
  go_wp2_with fail
  go_ret
  exact ⟨rfl,rfl⟩
end Sv
end Go.Proofs.YtffdoiokmiklgaaGreatDoor
