import Derived.Test.YtffdoiokmiklgaaGreatDoorW8
import Derived.Lib.QuietBelow
namespace Go.Proofs.YtffdoiokmiklgaaGreatDoor
namespace Gw
open Go.RowKit
set_option maxHeartbeats 400000 in
theorem order_any (a b:Gwy) (w:World) :
 Calls Tryz.prog 187 #[.agg #[.string a.centre,.int .i64 a.addr,.int .i64 a.version],.agg #[.string b.centre,.int .i64 b.addr,.int .i64 b.version]] w fun e w'=>e=.returned (.int .i64 (ord a b))∧Below w.heap.size w w':=by
 go_enter Tryz.func187,Tryz.ntmps187
 go_wp2_with (go_at_call 99;refine (compare_any _ _ _).mono ?_;rintro e w' ⟨rfl,rfl⟩)
 go_ret
 exact ⟨rfl,((Below.refl _ _).alloc (Nat.le_refl _) _).alloc (by simp) _⟩
set_option maxHeartbeats 800000 in
theorem newerE_any (a b:Gwy) (w:World) :
 Calls Tryz.prog 202 #[.agg #[.string a.centre,.int .i64 a.addr,.int .i64 a.version],.agg #[.string b.centre,.int .i64 b.addr,.int .i64 b.version]] w fun e w'=>e=.returned (.bool (newE a b))∧Below w.heap.size w w':=by
 have hd:∀ a b:Gwy,newE a b=if a.version=b.version then decide (b.addr < a.addr) else decide (b.version < a.version):=fun a b=>by
  simp only [newE,newC,RL.lex]
  by_cases h:a.version=b.version
  ·rw [if_pos (by omega),if_pos h];congr 1;apply propext;omega
  ·rw [if_neg (by omega),if_neg h];congr 1;apply propext;omega
 have HD:Hid (newE a b=if a.version=b.version then decide (b.addr < a.addr) else decide (b.version < a.version)):=hd a b
 clear hd
 obtain ⟨ca,aa,va⟩:=a
 obtain ⟨cb,ab,vb⟩:=b
 by_cases h1:va=vb
 ·subst h1
  go_enter Tryz.func202,Tryz.ntmps202
  go_wp2
  go_ret
  exact ⟨ret_bool (by rw [HD.out];simp),((Below.refl _ _).alloc (Nat.le_refl _) _).alloc (by simp) _⟩
 ·have h1':(va != vb)=true:=by simpa using h1
  go_enter Tryz.func202,Tryz.ntmps202
  go_wp2
  go_ret
  exact ⟨ret_bool (by rw [HD.out];simp [h1]),((Below.refl _ _).alloc (Nat.le_refl _) _).alloc (by simp) _⟩
end Gw
namespace Gw
open Go.RowKit
set_option maxHeartbeats 800000 in
set_option maxRecDepth 100000 in
theorem rises_row (ms:List Gwy) (b off cap:Nat) (w:World) (hr:Row w b off ms) (hb:b < w.heap.size) (hn:ms.length≤6) :
 Calls Tryz.prog 186 #[.slice (some ⟨b,off,none⟩) ms.length cap,.func (.func 187) #[] #[]] w fun e w'=>e=.returned (.bool (risesB ms))∧Below w.heap.size w w':=by
 have HR:Hid (Row w b off ms):=hr
 clear hr
 have H4:Hid (∀ k,k+1 < ms.length→0≤ord (ms.getD k dm) (ms.getD (k+1) dm)→risesB ms=false):=fun k hk hl=>by
  rcases h:risesB ms with _ | _
  ·rfl
  ·have:=rises_getO ms h k hk;omega
 have H0:Hid ((∀ j,j+1 < ms.length→ord (ms.getD j dm) (ms.getD (j+1) dm) < 0)→risesB ms=true):=rises_allO ms
 generalize hN:ms.length=n at *
 have HN:Hid (ms.length=n):=hN
 clear hN
 generalize hC:risesB ms=res at *
 have HC:Hid (risesB ms=res):=hC
 clear hC
 go_enter Tryz.func186,Tryz.ntmps186
 go_wp2_with fail
 go_loopw [5] (fun i w'=>∃ k:Nat,(k+1≤n∨k=0)∧i=.int .i64 (k+1)∧Below w.heap.size w w'∧Hid (∀ j,j < k→ord (ms.getD j dm) (ms.getD (j+1) dm) < 0)) (fun i _=>n - (intOf i).toNat)
 case atStart=>exact ⟨0,.inr rfl,rfl,Below.refl _ _,fun j h=>absurd h (Nat.not_lt_zero _)⟩
 case round=>
  obtain ⟨q,hq,rfl,hbl,hz⟩:=hrel
  obtain ⟨hbc,hbf⟩:=bcell hbl
  have hsz:=hbl.size
  by_cases hlt:q+1 < n
  ·obtain ⟨c0,c1,c2⟩:=HR.out q (by rw [HN.out];omega)
   obtain ⟨d0,d1,d2⟩:=HR.out (q+1) (by rw [HN.out];exact hlt)
   have HK:Hid (0≤ord (ms.getD q dm) (ms.getD (q+1) dm)→res=false):=fun h=>H4.out q hlt h
   have HZ:Hid (ord (ms.getD q dm) (ms.getD (q+1) dm) < 0→∀ j,j < q+1→ord (ms.getD j dm) (ms.getD (j+1) dm) < 0):=fun h j hj=>by
    rcases Nat.lt_succ_iff_lt_or_eq.1 hj with h2 | rfl
    ·exact hz.out j h2
    ·exact h
   generalize ms.getD q dm=m1 at *
   generalize ms.getD (q+1) dm=m2 at *
   have hN:∀ d os,Calls Tryz.prog 187 #[.agg #[.string m1.centre,.int .i64 m1.addr,.int .i64 m1.version],.agg #[.string m2.centre,.int .i64 m2.addr,.int .i64 m2.version]] (Go.Sort.grow (redrawn wr d) os) fun e w''=>e=.returned (.int .i64 (ord m1 m2))∧∃ p:Regrown,w''=Go.Sort.grow (redrawn wr p.d) p.os:=fun d os=>Calls.regrown_of (order_any m1 m2 _)
   have F0:∀ d os,(Go.Sort.grow (redrawn wr d) os).cell? ⟨b,off+q * 3,none⟩=some (.string m1.centre):=cell_regrown ((hbc _ _ hb).trans c0)
   have F1:∀ d os,(Go.Sort.grow (redrawn wr d) os).cell? ⟨b,off+q * 3+1,none⟩=some (.int .i64 m1.addr):=cell_regrown ((hbc _ _ hb).trans c1)
   have F2:∀ d os,(Go.Sort.grow (redrawn wr d) os).cell? ⟨b,off+q * 3+2,none⟩=some (.int .i64 m1.version):=cell_regrown ((hbc _ _ hb).trans c2)
   have G0:∀ d os,(Go.Sort.grow (redrawn wr d) os).cell? ⟨b,off+(q+1) * 3,none⟩=some (.string m2.centre):=cell_regrown ((hbc _ _ hb).trans d0)
   have G1:∀ d os,(Go.Sort.grow (redrawn wr d) os).cell? ⟨b,off+(q+1) * 3+1,none⟩=some (.int .i64 m2.addr):=cell_regrown ((hbc _ _ hb).trans d1)
   have G2:∀ d os,(Go.Sort.grow (redrawn wr d) os).cell? ⟨b,off+(q+1) * 3+2,none⟩=some (.int .i64 m2.version):=cell_regrown ((hbc _ _ hb).trans d2)
   clear c0 c1 c2 d0 d1 d2 hbc hbf
   generalize ord m1 m2=r at *
   have hwq:IntKind.i64.wrap (q:Int)=(q:Int):=by rw [IntKind.wrap_i64];omega
   have hqn:q < n:=by omega
   have hq1:(q:Int)+1 < (n:Int):=by omega
   have hq0:(0:Int)≤(q:Int)+1:=by omega
   have htn:((q:Int)+1).toNat=q+1:=by omega
   by_cases hl:r < 0
   ·have hl2:¬ (0≤r):=by omega
    go_wp2_with fail
    refine wp_region_quiet_below (by kernel_rfl) (by kernel_rfl) ?_
    repeat (quiet_step (exact hN _ _))
    refine wpQuiet_nil ?_
    intro _ hw'
    obtain ⟨⟨dq,osq⟩,hw''⟩:=hw'
    subst hw''
    have HBQ:Hid (Below wr.heap.size wr (Go.Sort.grow (redrawn wr dq) osq)):=below_regrown wr dq osq
    clear hN F0 F1 F2 G0 G1 G2
    go_wp2_with fail
    go_roundw
    case rel=>exact ⟨q+1,.inl (by omega),by go_num,hbl.trans (HBQ.out.mono hsz),HZ.out hl⟩
    case measure=>simp [intOf];omega
   ·have hl2:0≤r:=by omega
    have h4:Hid (res=false):=HK.out hl2
    go_wp2_with fail
    refine wp_region_quiet_below (by kernel_rfl) (by kernel_rfl) ?_
    repeat (quiet_step (exact hN _ _))
    refine wpQuiet_nil ?_
    intro _ hw'
    obtain ⟨⟨dq,osq⟩,hw''⟩:=hw'
    subst hw''
    have HBQ:Hid (Below wr.heap.size wr (Go.Sort.grow (redrawn wr dq) osq)):=below_regrown wr dq osq
    clear hN F0 F1 F2 G0 G1 G2
    go_wp2_with fail
    go_ret
    exact ⟨ret_bool h4.out.symm,hbl.trans (HBQ.out.mono hsz)⟩
  ·have h0:Hid (res=true):=H0.out fun j hj=>hz.out j (by omega)
   go_wp2_with fail
   go_ret
   exact ⟨ret_bool h0.out.symm,hbl⟩
set_option maxHeartbeats 400000 in
theorem rises_none (a:Option Addr) (cap:Nat) (fv:Value) (w:World) :
 Calls Tryz.prog 186 #[.slice a 0 cap,fv] w fun e w'=>e=.returned (.bool true)∧w'=w:=by
 go_enter Tryz.func186,Tryz.ntmps186
 go_wp2_with fail
 go_loop [5] (fun i=>i=.int .i64 1) (fun _=>0)
 case atStart=>rfl
 case round=>
  subst hrel
  go_wp2_with fail
  go_ret
  exact ⟨rfl,rfl⟩
set_option maxHeartbeats 800000 in
theorem search_row (ms:List Gwy) (b off cap:Nat) (lk:Gwy) (w:World) (hr:Row w b off ms) (hb:b < w.heap.size) (hn:ms.length≤12)
 (hmono:∀ i j,i≤j→j < ms.length→ord (ms.getD j dm) lk < 0→ord (ms.getD i dm) lk < 0) :
 Calls Tryz.prog 272 #[.slice (some ⟨b,off,none⟩) ms.length cap,.agg #[.string lk.centre,.int .i64 lk.addr,.int .i64 lk.version],.func (.func 187) #[] #[]] w fun e w'=>∃ (p:Nat) (f:Bool),e=.returned (.tuple #[.int .i64 p,.bool f])∧Below w.heap.size w w' ∧
  p≤ms.length∧(∀ j,j < p→ord (ms.getD j dm) lk < 0)∧(∀ j,p≤j→j < ms.length→0≤ord (ms.getD j dm) lk)∧(f=true↔p < ms.length∧ord (ms.getD p dm) lk=0):=by
 have HR:Hid (Row w b off ms):=hr
 clear hr
 have HM:Hid (∀ i j,i≤j→j < ms.length→ord (ms.getD j dm) lk < 0→ord (ms.getD i dm) lk < 0):=hmono
 clear hmono
 generalize hN:ms.length=n at *
 have HN:Hid (ms.length=n):=hN
 clear hN
 go_enter Tryz.func272,Tryz.ntmps272
 go_wp2_with fail
 obtain ⟨W0,hW0⟩:∃ W0,W0=w.alloc (.cells #[.string lk.centre,.int .i64 lk.addr,.int .i64 lk.version] 107):=⟨_,rfl⟩
 have hb0:Below w.heap.size w W0:=by rw [hW0];exact (Below.refl _ _).alloc (Nat.le_refl _) _
 have hg0:W0.heap[w.heap.size]?=some (.cells #[.string lk.centre,.int .i64 lk.addr,.int .i64 lk.version] 107 (0,0)):=by rw [hW0];exact heap_alloc_new w _
 have hs0:W0.heap.size=w.heap.size+1:=by rw [hW0];simp
 have HR0:Hid (Row W0 b off ms):=HR.out.later hb0 hb
 have hT:∀ o,W0.cell? ⟨w.heap.size,o,none⟩=#[.string lk.centre,.int .i64 lk.addr,.int .i64 lk.version][o]?:=fun o=>cellsAt hg0 o
 have HT:Hid (∀ o,W0.cell? ⟨w.heap.size,o,none⟩=#[.string lk.centre,.int .i64 lk.addr,.int .i64 lk.version][o]?):=hT
 have HB0:Hid (Below w.heap.size w W0):=hb0
 have HW0:Hid (W0=w.alloc (.cells #[.string lk.centre,.int .i64 lk.addr,.int .i64 lk.version] 107)):=hW0
 clear hT hg0 hb0 HR hW0
 have hb':b < w.heap.size+1:=by omega
 go_loopw [9,10] (fun i j w'=>∃ k l:Nat,k≤l∧l≤n∧i=.int .i64 k∧j=.int .i64 l∧Below (w.heap.size+1) W0 w'∧Hid (∀ j,j < k→ord (ms.getD j dm) lk < 0)∧Hid (∀ j,l≤j→j < n→0≤ord (ms.getD j dm) lk)) (fun i j _=>(intOf j).toNat - (intOf i).toNat)
 case atStart=>exact ⟨0,n,Nat.zero_le _,Nat.le_refl _,rfl,rfl,by rw [HW0.out];exact Below.refl _ _,fun j h=>absurd h (Nat.not_lt_zero _),fun j h1 h2=>by omega⟩
 case round=>
  obtain ⟨k,l,hkl,hln,rfl,rfl,hbl,hlo,hhi⟩:=hrel
  have hsz:=hbl.size
  have hbc:∀ b o,b < w.heap.size+1→wr.cell? ⟨b,o,none⟩=W0.cell? ⟨b,o,none⟩:=fun b o h=>hbl.cell (p:=⟨b,o,none⟩) h
  have G0:∀ d os,(Go.Sort.grow (redrawn wr d) os).cell? ⟨w.heap.size,0,none⟩=some (.string lk.centre):=cell_regrown ((hbc _ _ (by omega)).trans (HT.out 0))
  have G1:∀ d os,(Go.Sort.grow (redrawn wr d) os).cell? ⟨w.heap.size,1,none⟩=some (.int .i64 lk.addr):=cell_regrown ((hbc _ _ (by omega)).trans (HT.out 1))
  have G2:∀ d os,(Go.Sort.grow (redrawn wr d) os).cell? ⟨w.heap.size,2,none⟩=some (.int .i64 lk.version):=cell_regrown ((hbc _ _ (by omega)).trans (HT.out 2))
  by_cases hlt:k < l
  ·obtain ⟨h,hh,h1,h2⟩:∃ h:Nat,((k:Int)+(l:Int)) / 2=(h:Int)∧k≤h∧h < l:=⟨(k+l) / 2,by omega,by omega,by omega⟩
   obtain ⟨c0,c1,c2⟩:=HR0.out h (by rw [HN.out];omega)
   have hm1:=HM.out
   have HK:Hid (ord (ms.getD h dm) lk < 0→∀ j,j < h+1→ord (ms.getD j dm) lk < 0):=fun hx j hj=>hm1 j h (by omega) (by omega) hx
   have HL:Hid (0≤ord (ms.getD h dm) lk→∀ j,h≤j→j < n→0≤ord (ms.getD j dm) lk):=fun hx j hj hjn=>by
    apply Int.not_lt.1
    intro hq
    have:=hm1 h j hj hjn hq
    omega
   clear hm1
   have hhn:h < n:=by omega
   generalize ms.getD h dm=m at *
   have hO:∀ d os,Calls Tryz.prog 187 #[.agg #[.string m.centre,.int .i64 m.addr,.int .i64 m.version],.agg #[.string lk.centre,.int .i64 lk.addr,.int .i64 lk.version]] (Go.Sort.grow (redrawn wr d) os) fun e w''=>e=.returned (.int .i64 (ord m lk))∧∃ p:Regrown,w''=Go.Sort.grow (redrawn wr p.d) p.os:=fun d os=>Calls.regrown_of (order_any m lk _)
   have F0:∀ d os,(Go.Sort.grow (redrawn wr d) os).cell? ⟨b,off+h * 3,none⟩=some (.string m.centre):=cell_regrown ((hbc _ _ hb').trans c0)
   have F1:∀ d os,(Go.Sort.grow (redrawn wr d) os).cell? ⟨b,off+h * 3+1,none⟩=some (.int .i64 m.addr):=cell_regrown ((hbc _ _ hb').trans c1)
   have F2:∀ d os,(Go.Sort.grow (redrawn wr d) os).cell? ⟨b,off+h * 3+2,none⟩=some (.int .i64 m.version):=cell_regrown ((hbc _ _ hb').trans c2)
   clear c0 c1 c2 hbc
   generalize ord m lk=r at *
   by_cases hlt2:r < 0
   ·go_wp2_with fail
    refine wp_region_quiet_below (by kernel_rfl) (by kernel_rfl) ?_
    repeat (quiet_step (exact hO _ _))
    refine wpQuiet_nil ?_
    intro _ hw'
    obtain ⟨⟨dq,osq⟩,hw''⟩:=hw'
    subst hw''
    have HBQ:Hid (Below wr.heap.size wr (Go.Sort.grow (redrawn wr dq) osq)):=below_regrown wr dq osq
    clear hO F0 F1 F2 G0 G1 G2
    go_wp2_with fail
    exact ⟨⟨h+1,l,by omega,by omega,by go_num,rfl,hbl.trans (HBQ.out.mono (by omega)),HK.out hlt2,hhi⟩,by simp [intOf];omega⟩
   ·have hlt3:0≤r:=by omega
    go_wp2_with fail
    refine wp_region_quiet_below (by kernel_rfl) (by kernel_rfl) ?_
    repeat (quiet_step (exact hO _ _))
    refine wpQuiet_nil ?_
    intro _ hw'
    obtain ⟨⟨dq,osq⟩,hw''⟩:=hw'
    subst hw''
    have HBQ:Hid (Below wr.heap.size wr (Go.Sort.grow (redrawn wr dq) osq)):=below_regrown wr dq osq
    clear hO F0 F1 F2 G0 G1 G2
    go_wp2_with fail
    exact ⟨⟨k,h,by omega,by omega,rfl,rfl,hbl.trans (HBQ.out.mono (by omega)),hlo,HL.out hlt3⟩,by simp [intOf];omega⟩
  ·have hkl':l=k:=by omega
   subst hkl'
   by_cases hkn:l < n
   ·obtain ⟨c0,c1,c2⟩:=HR0.out l (by rw [HN.out];omega)
    generalize hm:ms.getD l dm=m at *
    have Hm:Hid (ms.getD l dm=m):=hm
    clear hm
    have hO:∀ d os,Calls Tryz.prog 187 #[.agg #[.string m.centre,.int .i64 m.addr,.int .i64 m.version],.agg #[.string lk.centre,.int .i64 lk.addr,.int .i64 lk.version]] (Go.Sort.grow (redrawn wr d) os) fun e w''=>e=.returned (.int .i64 (ord m lk))∧∃ p:Regrown,w''=Go.Sort.grow (redrawn wr p.d) p.os:=fun d os=>Calls.regrown_of (order_any m lk _)
    have F0:∀ d os,(Go.Sort.grow (redrawn wr d) os).cell? ⟨b,off+l * 3,none⟩=some (.string m.centre):=cell_regrown ((hbc _ _ hb').trans c0)
    have F1:∀ d os,(Go.Sort.grow (redrawn wr d) os).cell? ⟨b,off+l * 3+1,none⟩=some (.int .i64 m.addr):=cell_regrown ((hbc _ _ hb').trans c1)
    have F2:∀ d os,(Go.Sort.grow (redrawn wr d) os).cell? ⟨b,off+l * 3+2,none⟩=some (.int .i64 m.version):=cell_regrown ((hbc _ _ hb').trans c2)
    clear c0 c1 c2 hbc
    generalize hrr:ord m lk=r at *
    have Hr:Hid (ord m lk=r):=hrr
    clear hrr
    go_wp2_with fail
    refine wp_region_quiet_below (by kernel_rfl) (by kernel_rfl) ?_
    repeat (quiet_step (exact hO _ _))
    refine wpQuiet_nil ?_
    intro _ hw'
    obtain ⟨⟨dq,osq⟩,hw''⟩:=hw'
    subst hw''
    have HBQ:Hid (Below wr.heap.size wr (Go.Sort.grow (redrawn wr dq) osq)):=below_regrown wr dq osq
    clear hO F0 F1 F2 G0 G1 G2
    go_wp2_with fail
    go_ret2
    refine ⟨l,_,rfl,HB0.out.trans ((hbl.trans (HBQ.out.mono (by omega))).mono (by omega)),by omega,hlo.out,hhi.out,?_⟩
    rw [Hm.out,Hr.out]
    simp [hkn]
   ·clear G0 G1 G2
    have hkd:decide ((l:Int) < (n:Int))=false:=by simp;omega
    go_wp2_with fail
    go_quiet (fail)
    go_wp2_with fail
    go_ret2
    refine ⟨l,_,rfl,HB0.out.trans ((below_drewN hbl _).mono (by omega)),by omega,hlo.out,hhi.out,?_⟩
    simp [hkn]
set_option maxHeartbeats 800000 in
theorem search_none (a:Option Addr) (cap:Nat) (lk:Gwy) (fv:Value) (w:World) :
 Calls Tryz.prog 272 #[.slice a 0 cap,.agg #[.string lk.centre,.int .i64 lk.addr,.int .i64 lk.version],fv] w fun e w'=>e=.returned (.tuple #[.int .i64 0,.bool false])∧Below w.heap.size w w':=by
 go_enter Tryz.func272,Tryz.ntmps272
 go_wp2_with fail
 go_loop [9,10] (fun i j=>i=.int .i64 0∧j=.int .i64 0) (fun _ _=>0)
 case atStart=>exact ⟨rfl,rfl⟩
 case round=>
  obtain ⟨rfl,rfl⟩:=hrel
  go_wp2_with fail
  go_quiet (fail)
  go_wp2_with fail
  go_ret2
  exact ⟨rfl,below_drewN ((Below.refl _ _).alloc (Nat.le_refl _) _) _⟩
theorem bsearch_any (ms:List Gwy) (v:Value) (lk:Gwy) (w:World) (h:Sl w v ms) (hn:ms.length≤12)
 (hmono:∀ i j,i≤j→j < ms.length→ord (ms.getD j dm) lk < 0→ord (ms.getD i dm) lk < 0) :
 Calls Tryz.prog 272 #[v,.agg #[.string lk.centre,.int .i64 lk.addr,.int .i64 lk.version],.func (.func 187) #[] #[]] w fun e w'=>∃ (p:Nat) (f:Bool),e=.returned (.tuple #[.int .i64 p,.bool f])∧Below w.heap.size w w'∧At ms lk p f:=by
 obtain ⟨a,cap,rfl,hs,h⟩:=h
 rcases h with rfl | ⟨b,off,rfl,hb,hr⟩
 ·refine (search_none a cap lk _ w).mono ?_
  rintro e w' ⟨rfl,hb⟩
  exact ⟨0,false,rfl,hb,⟨by simp,fun j h=>by omega,fun j h h2=>by simp at h2,by simp⟩⟩
 ·refine (search_row ms b off cap lk w hr hb hn hmono).mono ?_
  rintro e w' ⟨p,f,rfl,hbl,g1,g2,g3,g4⟩
  exact ⟨p,f,rfl,hbl,⟨g1,g2,g3,g4⟩⟩
set_option maxHeartbeats 400000 in
theorem find_any (ms:List Gwy) (v:Value) (lk:Gwy) (w:World) (h:Sl w v ms) (hn:ms.length≤12) (hr:Rise ms) :
 Calls Tryz.prog 241 #[v,.agg #[.string lk.centre,.int .i64 lk.addr,.int .i64 lk.version],.func (.func 187) #[] #[]] w fun e w'=>∃ (p:Nat) (f:Bool),e=.returned (.tuple #[.int .i64 p,.bool f])∧Below w.heap.size w w'∧At ms lk p f:=by
 have HC:Hid (∀ w',Below w.heap.size w w'→Calls Tryz.prog 272 #[v,.agg #[.string lk.centre,.int .i64 lk.addr,.int .i64 lk.version],.func (.func 187) #[] #[]] w' fun e w''=>∃ (p:Nat) (f:Bool),e=.returned (.tuple #[.int .i64 p,.bool f])∧Below w'.heap.size w' w''∧At ms lk p f):=
  fun w' hb=>bsearch_any ms v lk w' (h.below hb) hn (rise_mono hr lk)
 clear h hn hr
 go_enter Tryz.func241,Tryz.ntmps241
 go_wp2_with (go_at_call 272;refine (HC.out _ ?hb).mono ?_)
 case hb=>exact (Below.refl _ _).alloc (Nat.le_refl _) _
 rintro e w' ⟨p,f,rfl,hbl,hat⟩
 have HAT:Hid (At ms lk p f):=hat
 clear hat
 go_wp2_with fail
 go_ret2
 exact ⟨p,f,rfl,((Below.refl _ _).alloc (Nat.le_refl _) _).trans (hbl.mono (by simp)),HAT.out⟩
end Gw
end Go.Proofs.YtffdoiokmiklgaaGreatDoor
