import Derived.Test.YtffdoiokmiklgaaGreatDoortr7
import Derived.Lib.QuietBelow
import Derived.Test.YtffdoiokmiklgaaGreatDoortr1
namespace Go.Proofs.YtffdoiokmiklgaaGreatDoor
namespace Gw
open Go.RowKit
set_option maxHeartbeats 800000 in
set_option maxRecDepth 100000 in
theorem rises_row (ms:List Gwy) (b off cap:Nat) (w:World) (hr:Row w b off ms) (hb:b < w.heap.size) (hn:ms.length≤6) :
 Calls Tryz.prog 186 #[.slice (some ⟨b,off,none⟩) ms.length cap,.func (.func 187) #[] #[]] w fun e w'=>e=.returned (.bool (risesB ms))∧Below w.heap.size w w':=by
 have HR:Hid (Row w b off ms):=hr
 clear hr
 have H4:Hid (∀ k,k+1 < ms.length→0≤ord (ms.getD k dm) (ms.getD (k+1) dm)→risesB ms=false):=fun k hk hl=>by
  rcases h:risesB ms with _ | _
  ·rfl
  ·have:=rises_getO ms h k hk;omega
 have H0:Hid ((∀ j,j+1 < ms.length→ord (ms.getD j dm) (ms.getD (j+1) dm) < 0)→risesB ms=true):=rises_allO ms
 generalize hN:ms.length=n at *
 have HN:Hid (ms.length=n):=hN
 clear hN
 generalize hC:risesB ms=res at *
 have HC:Hid (risesB ms=res):=hC
 clear hC
 go_enter Tryz.func186,Tryz.ntmps186
 go_wp2_with fail
 go_loopw [5] (fun i w'=>∃ k:Nat,(k+1≤n∨k=0)∧i=.int .i64 (k+1)∧Below w.heap.size w w'∧Hid (∀ j,j < k→ord (ms.getD j dm) (ms.getD (j+1) dm) < 0)) (fun i _=>n - (intOf i).toNat)
 case atStart=>exact ⟨0,.inr rfl,rfl,Below.refl _ _,fun j h=>absurd h (Nat.not_lt_zero _)⟩
 case round=>
  obtain ⟨q,hq,rfl,hbl,hz⟩:=hrel
  obtain ⟨hbc,hbf⟩:=bcell hbl
  have hsz:=hbl.size
  by_cases hlt:q+1 < n
  ·obtain ⟨c0,c1,c2⟩:=HR.out q (by rw [HN.out];omega)
   obtain ⟨d0,d1,d2⟩:=HR.out (q+1) (by rw [HN.out];exact hlt)
   have HK:Hid (0≤ord (ms.getD q dm) (ms.getD (q+1) dm)→res=false):=fun h=>H4.out q hlt h
   have HZ:Hid (ord (ms.getD q dm) (ms.getD (q+1) dm) < 0→∀ j,j < q+1→ord (ms.getD j dm) (ms.getD (j+1) dm) < 0):=fun h j hj=>by
    rcases Nat.lt_succ_iff_lt_or_eq.1 hj with h2 | rfl
    ·exact hz.out j h2
    ·exact h
   generalize ms.getD q dm=m1 at *
   generalize ms.getD (q+1) dm=m2 at *
   have hN:∀ d os,Calls Tryz.prog 187 #[.agg #[.string m1.centre,.int .i64 m1.addr,.int .i64 m1.version],.agg #[.string m2.centre,.int .i64 m2.addr,.int .i64 m2.version]] (Go.Sort.grow (redrawn wr d) os) fun e w''=>e=.returned (.int .i64 (ord m1 m2))∧∃ p:Regrown,w''=Go.Sort.grow (redrawn wr p.d) p.os:=fun d os=>Calls.regrown_of (order_any m1 m2 _)
   have F0:∀ d os,(Go.Sort.grow (redrawn wr d) os).cell? ⟨b,off+q * 3,none⟩=some (.string m1.centre):=cell_regrown ((hbc _ _ hb).trans c0)
   have F1:∀ d os,(Go.Sort.grow (redrawn wr d) os).cell? ⟨b,off+q * 3+1,none⟩=some (.int .i64 m1.addr):=cell_regrown ((hbc _ _ hb).trans c1)
   have F2:∀ d os,(Go.Sort.grow (redrawn wr d) os).cell? ⟨b,off+q * 3+2,none⟩=some (.int .i64 m1.version):=cell_regrown ((hbc _ _ hb).trans c2)
   have G0:∀ d os,(Go.Sort.grow (redrawn wr d) os).cell? ⟨b,off+(q+1) * 3,none⟩=some (.string m2.centre):=cell_regrown ((hbc _ _ hb).trans d0)
   have G1:∀ d os,(Go.Sort.grow (redrawn wr d) os).cell? ⟨b,off+(q+1) * 3+1,none⟩=some (.int .i64 m2.addr):=cell_regrown ((hbc _ _ hb).trans d1)
   have G2:∀ d os,(Go.Sort.grow (redrawn wr d) os).cell? ⟨b,off+(q+1) * 3+2,none⟩=some (.int .i64 m2.version):=cell_regrown ((hbc _ _ hb).trans d2)
   clear c0 c1 c2 d0 d1 d2 hbc hbf
   generalize ord m1 m2=r at *
   have hwq:IntKind.i64.wrap (q:Int)=(q:Int):=by rw [IntKind.wrap_i64];omega
   have hqn:q < n:=by omega
   have hq1:(q:Int)+1 < (n:Int):=by omega
   have hq0:(0:Int)≤(q:Int)+1:=by omega
   have htn:((q:Int)+1).toNat=q+1:=by omega
   by_cases hl:r < 0
   ·have hl2:¬ (0≤r):=by omega
    go_wp2_with fail
    refine wp_region_quiet_below (by kernel_rfl) (by kernel_rfl) ?_
    repeat (quiet_step (exact hN _ _))
    refine wpQuiet_nil ?_
    intro _ hw'
    obtain ⟨⟨dq,osq⟩,hw''⟩:=hw'
    subst hw''
    have HBQ:Hid (Below wr.heap.size wr (Go.Sort.grow (redrawn wr dq) osq)):=below_regrown wr dq osq
    clear hN F0 F1 F2 G0 G1 G2
    go_wp2_with fail
    go_roundw
    case rel=>exact ⟨q+1,.inl (by omega),by go_num,hbl.trans (HBQ.out.mono hsz),HZ.out hl⟩
    case measure=>simp [intOf];omega
   ·have hl2:0≤r:=by omega
    have h4:Hid (res=false):=HK.out hl2
    go_wp2_with fail
    refine wp_region_quiet_below (by kernel_rfl) (by kernel_rfl) ?_
    repeat (quiet_step (exact hN _ _))
    refine wpQuiet_nil ?_
    intro _ hw'
    obtain ⟨⟨dq,osq⟩,hw''⟩:=hw'
    subst hw''
    have HBQ:Hid (Below wr.heap.size wr (Go.Sort.grow (redrawn wr dq) osq)):=below_regrown wr dq osq
    clear hN F0 F1 F2 G0 G1 G2
    go_wp2_with fail
    go_ret
    exact ⟨ret_bool h4.out.symm,hbl.trans (HBQ.out.mono hsz)⟩
  ·have h0:Hid (res=true):=H0.out fun j hj=>hz.out j (by omega)
   go_wp2_with fail
   go_ret
   exact ⟨ret_bool h0.out.symm,hbl⟩
set_option maxHeartbeats 400000 in
theorem rises_none (a:Option Addr) (cap:Nat) (fv:Value) (w:World) :
 Calls Tryz.prog 186 #[.slice a 0 cap,fv] w fun e w'=>e=.returned (.bool true)∧w'=w:=by
 go_enter Tryz.func186,Tryz.ntmps186
 go_wp2_with fail
 go_loop [5] (fun i=>i=.int .i64 1) (fun _=>0)
 case atStart=>rfl
 case round=>
  subst hrel
  go_wp2_with fail
  go_ret
  exact ⟨rfl,rfl⟩
end Gw
namespace Gw
open Go.RowKit
end Gw
namespace Gw
open Go.RowKit
set_option maxHeartbeats 800000 in
theorem checkOneE_any (m:Gwy) (w:World) (hm:m.ok) :
 Calls Tryz.prog 185 #[.agg #[.string m.centre,.int .i64 m.addr,.int .i64 m.version]] w fun e w'=>e=.returned (.int .i64 m.e)∧Below w.heap.size w w':=by
 have hs:m.centre.size≤maxLen:=hm
 have hB:Hid (Below w.heap.size w (w.alloc (.cells #[.string m.centre,.int .i64 m.addr,.int .i64 m.version] 107))):=(Below.refl _ _).alloc (Nat.le_refl _) _
 clear hm
 rcases h1:labB m.centre with _ | _
 ·go_enter Tryz.func185,Tryz.ntmps185
  go_wp2_with (go_at_call 75;refine (label_any _ _ hs).mono ?_;rintro e w' ⟨rfl,rfl⟩;rw [h1])
  go_ret
  exact ⟨ret_int (by simp [Gwy.e,h1]),hB.out⟩
 ·rcases h2:within m.addr 0 4294967295 with _ | _
  ·go_enter Tryz.func185,Tryz.ntmps185
   go_wp2_with (first | (go_at_call 75;refine (label_any _ _ hs).mono ?_;rintro e w' ⟨rfl,rfl⟩;rw [h1]) | (go_at_call 39;refine (address_any _ _).mono ?_;rintro e w' ⟨rfl,rfl⟩;rw [h2]))
   go_ret
   exact ⟨ret_int (by simp [Gwy.e,h1,h2]),hB.out⟩
  ·rcases h3:within m.version 1 1000000 with _ | _
   all_goals
    go_enter Tryz.func185,Tryz.ntmps185
    go_wp2_with (first | (go_at_call 75;refine (label_any _ _ hs).mono ?_;rintro e w' ⟨rfl,rfl⟩;rw [h1]) | (go_at_call 39;refine (address_any _ _).mono ?_;rintro e w' ⟨rfl,rfl⟩;rw [h2]) | (go_at_call 76;refine (within_any _ _ _ _).mono ?_;rintro e w' ⟨rfl,rfl⟩;rw [h3]))
    go_ret
    exact ⟨ret_int (by simp [Gwy.e,h1,h2,h3]),hB.out⟩
set_option maxHeartbeats 800000 in
theorem check_row (ms:List Gwy) (b off cap:Nat) (w:World) (hr:Row w b off ms) (hb:b < w.heap.size) (hn:ms.length≤6) (hs:∀ j,(ms.getD j dm).ok) :
 Calls Tryz.prog 128 #[.slice (some ⟨b,off,none⟩) ms.length cap] w fun e w'=>e=.returned (.int .i64 (chk ms))∧Below w.heap.size w w':=by
 have HR:Hid (Row w b off ms):=hr
 have HE:Hid (∀ k,k < ms.length→(∀ j,j < k→(ms.getD j dm).e=0)→(ms.getD k dm).e≠0→chk ms=(ms.getD k dm).e):=fun k h1 h2 h3=>chk_e ms k hn h1 h2 h3
 have H4:Hid ((∀ j,j < ms.length→(ms.getD j dm).e=0)→chk ms=if risesB ms=true then 0 else 4):=fun h1=>chk_r ms hn h1
 have HSl:Hid (∀ w',Below w.heap.size w w'→Calls Tryz.prog 186 #[.slice (some ⟨b,off,none⟩) ms.length cap,.func (.func 187) #[] #[]] w' fun e w''=>e=.returned (.bool (risesB ms))∧Below w'.heap.size w' w''):=fun w' hbw=>rises_row ms b off cap w' (hr.later hbw hb) (Nat.lt_of_lt_of_le hb hbw.size) hn
 clear hr
 generalize hN:ms.length=n at *
 have HN:Hid (ms.length=n):=hN
 clear hN
 have HS:Hid (∀ j,(ms.getD j dm).ok):=hs
 clear hs
 generalize hC:chk ms=res at *
 have HC:Hid (chk ms=res):=hC
 clear hC
 generalize hRB:risesB ms=rb at *
 have HRB:Hid (risesB ms=rb):=hRB
 clear hRB
 go_enter Tryz.func128,Tryz.ntmps128
 go_wp2_with fail
 go_loopw [11] (fun i w'=>∃ k:Nat,k≤n∧i=.int .i64 k∧Below w.heap.size w w'∧Hid (∀ j,j < k→(ms.getD j dm).e=0)) (fun i _=>n - (intOf i).toNat)
 case atStart=>exact ⟨0,Nat.zero_le _,rfl,Below.refl _ _,fun j h=>absurd h (Nat.not_lt_zero _)⟩
 case round=>
  obtain ⟨k,hk,rfl,hbl,hz⟩:=hrel
  obtain ⟨hbc,hbf⟩:=bcell hbl
  have hsz:=hbl.size
  by_cases hlt:k < n
  ·obtain ⟨c0,c1,c2⟩:=HR.out k (by rw [HN.out];exact hlt)
   have HSK:Hid ((ms.getD k dm).ok):=HS.out k
   have HK:Hid ((ms.getD k dm).e≠0→res=(ms.getD k dm).e):=fun h=>HE.out k hlt hz.out h
   have HZ:Hid ((ms.getD k dm).e=0→∀ j,j < k+1→(ms.getD j dm).e=0):=fun h j hj=>by
    rcases Nat.lt_succ_iff_lt_or_eq.1 hj with h2 | rfl
    ·exact hz.out j h2
    ·exact h
   generalize ms.getD k dm=m at *
   have HO:Hid (∀ w,Calls Tryz.prog 185 #[.agg #[.string m.centre,.int .i64 m.addr,.int .i64 m.version]] w fun e w'=>e=.returned (.int .i64 m.e)∧Below w.heap.size w w'):=fun w=>checkOneE_any m w HSK.out
   generalize m.e=me at *
   rcases he:decide (me=0) with _ | _
   ·have he':(me != 0)=true:=by simpa using he
    clear he
    go_wp2_with (go_at_call 185;refine (HO.out _).mono ?_;rintro e w' ⟨rfl,hb2⟩)
    go_ret
    have hne:me≠0:=by simpa using he'
    have hres:res=me:=HK.out hne
    exact ⟨ret_int hres.symm,(hbl.alloc hsz _).trans (hb2.mono (by simp;omega))⟩
   ·have he':(me != 0)=false:=by simpa using he
    clear he
    go_wp2_with (go_at_call 185;refine (HO.out _).mono ?_;rintro e w' ⟨rfl,hb2⟩)
    go_roundw
    case rel=>
     have he0:me=0:=by simpa using he'
     exact ⟨k+1,by omega,by go_num,(hbl.alloc hsz _).trans (hb2.mono (by simp;omega)),HZ.out he0⟩
    case measure=>simp [intOf];omega
  ·have hall:Hid (∀ j,j < n→(ms.getD j dm).e=0):=fun j hj=>hz.out j (by omega)
   have HRes:Hid (res=if rb=true then 0 else 4):=H4.out hall.out
   clear hz hall H4 HE HC HRB
   cases rb
   ·go_wp2_with (go_at_call 186;refine (HSl.out _ hbl).mono ?_;rintro e w' ⟨rfl,hb2⟩)
    go_ret
    exact ⟨ret_int (by rw [HRes.out];rfl),hbl.trans (hb2.mono hsz)⟩
   ·go_wp2_with (go_at_call 186;refine (HSl.out _ hbl).mono ?_;rintro e w' ⟨rfl,hb2⟩)
    go_ret
    exact ⟨ret_int (by rw [HRes.out];rfl),hbl.trans (hb2.mono hsz)⟩
set_option maxHeartbeats 400000 in
theorem check_many (a:Option Addr) (n cap:Nat) (w:World) (hn:6 < n) :
 Calls Tryz.prog 128 #[.slice a n cap] w fun e w'=>e=.returned (.int .i64 2)∧w'=w:=by
 go_enter Tryz.func128,Tryz.ntmps128
 go_wp2_with fail
 go_ret
 exact ⟨rfl,rfl⟩
set_option maxHeartbeats 400000 in
theorem check_none (a:Option Addr) (cap:Nat) (w:World) :
 Calls Tryz.prog 128 #[.slice a 0 cap] w fun e w'=>e=.returned (.int .i64 0)∧w'=w:=by
 go_enter Tryz.func128,Tryz.ntmps128
 go_wp2_with fail
 go_loop [11] (fun i=>i=.int .i64 0) (fun _=>0)
 case atStart=>rfl
 case round=>
  subst hrel
  go_wp2_with (go_at_call 186;refine (rises_none _ _ _ _).mono ?_;rintro e w' ⟨rfl,rfl⟩)
  go_ret
  exact ⟨rfl,rfl⟩
theorem check_any (ms:List Gwy) (v:Value) (w:World) (h:Sl w v ms) :
 Calls Tryz.prog 128 #[v] w fun e w'=>e=.returned (.int .i64 (chk ms))∧Below w.heap.size w w':=by
 obtain ⟨a,cap,rfl,hs,h⟩:=h
 by_cases hn:6 < ms.length
 ·refine (check_many a ms.length cap w hn).mono ?_
  rintro e w' ⟨rfl,rfl⟩
  exact ⟨ret_int (by rw [chk,if_pos hn]),Below.refl _ _⟩
 ·rcases h with rfl | ⟨b,off,rfl,hb,hr⟩
  ·refine (check_none a cap w).mono ?_
   rintro e w' ⟨rfl,rfl⟩
   exact ⟨rfl,Below.refl _ _⟩
  ·exact check_row ms b off cap w hr hb (by omega) hs
set_option maxHeartbeats 800000 in
theorem checkAll_two (a b:List Gwy) (va vb:Value) (pb cap:Nat) (w:World) (ha:Sl w va a) (hb:Sl w vb b) (hpb:pb < w.heap.size) (hc0:w.cell? ⟨pb,0,none⟩=some va) (hc1:w.cell? ⟨pb,1,none⟩=some vb) :
 Calls Tryz.prog 200 #[.slice (some ⟨pb,0,none⟩) 2 cap] w fun e w'=>e=.returned (.int .i64 (chkTwo a b))∧Below w.heap.size w w':=by
 have HA:Hid (Sl w va a):=ha
 have HB:Hid (Sl w vb b):=hb
 clear ha hb
 go_enter Tryz.func200,Tryz.ntmps200
 go_wp2_with fail
 go_loopw [8] (fun i w'=>∃ k:Nat,k≤2∧i=.int .i64 k∧Below w.heap.size w w'∧Hid (0 < k→chk a=0)∧Hid (1 < k→chk b=0)) (fun i _=>2 - (intOf i).toNat)
 case atStart=>exact ⟨0,by omega,rfl,Below.refl _ _,fun h=>by omega,fun h=>by omega⟩
 case round=>
  obtain ⟨k,hk,rfl,hbl,hz0,hz1⟩:=hrel
  obtain ⟨hbc,hbf⟩:=bcell hbl
  have hsz:=hbl.size
  have HA':Hid (Sl wr va a):=HA.out.below hbl
  have HB':Hid (Sl wr vb b):=HB.out.below hbl
  have hcases:k=0∨k=1∨k=2:=by omega
  rcases hcases with rfl | rfl | rfl
  ·rcases he:decide (chk a=0) with _ | _
   ·have he':(chk a != 0)=true:=by simpa using he
    clear he
    go_wp2_with (go_at_call 128;refine (check_any a _ _ HA'.out).mono ?_;rintro e w' ⟨rfl,hb2⟩)
    go_ret
    exact ⟨ret_int (by have h0:chk a≠0:=(by simpa using he');rw [chkTwo,if_neg h0]),hbl.trans (hb2.mono hsz)⟩
   ·have he':(chk a != 0)=false:=by simpa using he
    clear he
    go_wp2_with (go_at_call 128;refine (check_any a _ _ HA'.out).mono ?_;rintro e w' ⟨rfl,hb2⟩)
    go_roundw
    case rel=>exact ⟨1,by omega,by go_num,hbl.trans (hb2.mono hsz),fun _=>(by simpa using he'),fun h=>by omega⟩
    case measure=>simp [intOf]
  ·have h0:Hid (chk a=0):=hz0.out (by omega)
   rcases he:decide (chk b=0) with _ | _
   ·have he':(chk b != 0)=true:=by simpa using he
    clear he
    go_wp2_with (go_at_call 128;refine (check_any b _ _ HB'.out).mono ?_;rintro e w' ⟨rfl,hb2⟩)
    go_ret
    exact ⟨ret_int (by rw [chkTwo,if_pos h0.out]),hbl.trans (hb2.mono hsz)⟩
   ·have he':(chk b != 0)=false:=by simpa using he
    clear he
    go_wp2_with (go_at_call 128;refine (check_any b _ _ HB'.out).mono ?_;rintro e w' ⟨rfl,hb2⟩)
    go_roundw
    case rel=>exact ⟨2,by omega,by go_num,hbl.trans (hb2.mono hsz),fun _=>h0.out,fun _=>(by simpa using he')⟩
    case measure=>simp [intOf]
  ·go_wp2_with fail
   go_ret
   exact ⟨ret_int (by rw [chkTwo,if_pos (hz0.out (by omega)),hz1.out (by omega)]),hbl⟩
end Gw
namespace Gw
open Go.RowKit
set_option maxHeartbeats 1600000 in
theorem rjoin_none (pa pv:Option Addr) (ca cb pb cap:Nat) (w:World) (hc0:w.cell? ⟨pb,0,none⟩=some (.slice pa 0 ca)) (hc1:w.cell? ⟨pb,1,none⟩=some (.slice pv 0 cb)) :
 Calls Tryz.prog 201 #[.func (.func 187) #[] #[],.func (.func 202) #[] #[],.slice (some ⟨pb,0,none⟩) 2 cap] w fun e w'=>e=.returned (.slice none 0 0)∧w'=w:=by
 go_enter Tryz.func201,Tryz.ntmps201
 go_wp2_with fail
 go_loopw [7,16] (fun kn i w'=>∃ k:Nat,k≤2∧i=.int .i64 k∧kn=.slice none 0 0∧w'=w) (fun _ i _=>2 - (intOf i).toNat)
 case atStart=>exact ⟨0,by omega,rfl,rfl,rfl⟩
 case round=>
  obtain ⟨k,hk,rfl,rfl,rfl⟩:=hrel
  by_cases hlt:k < 2
  ·have hc:∃ (p:Option Addr) (c:Nat),wr.cell? ⟨pb,k,none⟩=some (.slice p 0 c):=by
    rcases Nat.lt_or_ge k 1 with h | h
    ·have:k=0:=by omega
     subst this;exact ⟨_,_,hc0⟩
    ·have:k=1:=by omega
     subst this;exact ⟨_,_,hc1⟩
   obtain ⟨p,c,hc⟩:=hc
   have hk2:(k:Int) < 2:=by omega
   clear hc0 hc1
   go_wp2_with fail
   go_loopw [7,22] (fun kn j w'=>kn=.slice none 0 0∧j=.int .i64 0∧w'=wr) (fun _ _ _=>0)
   case atStart=>exact ⟨rfl,rfl,rfl⟩
   case round=>
    obtain ⟨rfl,rfl,rfl⟩:=hrel
    go_wp2_with fail
    first
    | exact ⟨⟨k+1,by omega,by go_num,by simp,by simp⟩,by simp [intOf];omega⟩
    | (go_roundw
       case rel=>exact ⟨k+1,by omega,by go_num,by simp,by simp⟩
       case measure=>simp [intOf];omega)
  ·have hd:decide ((k:Int) < 2)=false:=by simp;omega
   go_wp2_with fail
   go_ret
   exact ⟨rfl,rfl⟩
set_option maxHeartbeats 1600000 in
theorem join_none (pa pv:Option Addr) (ca cb:Nat) (w:World) :
 Calls Tryz.prog 91 #[.slice pa 0 ca,.slice pv 0 cb] w fun e w'=>e=.returned (.tuple #[.slice none 0 0,.int .i64 0])∧Below w.heap.size w w':=by
 have HJ:Hid (∀ (W:World) (pb cap:Nat),pb < W.heap.size→W.cell? ⟨pb,0,none⟩=some (.slice pa 0 ca)→W.cell? ⟨pb,1,none⟩=some (.slice pv 0 cb)→Calls Tryz.prog 138 #[.slice (some ⟨pb,0,none⟩) 2 cap] W fun e w'=>e=.returned (.tuple #[.slice none 0 0,.int .i64 0])∧Below W.heap.size W w'):=fun W pb cap hpb h0 h1=>by
  have hn:∀ (p:Option Addr) (c:Nat),Sl W (.slice p 0 c) []:=fun p c=>⟨p,c,rfl,ns_get (by simp),.inl rfl⟩
  have HC:Hid (Calls Tryz.prog 200 #[.slice (some ⟨pb,0,none⟩) 2 cap] W fun e w'=>e=.returned (.int .i64 0)∧Below W.heap.size W w'):=checkAll_two [] [] _ _ pb cap W (hn pa ca) (hn pv cb) hpb h0 h1
  have HR:Hid (∀ w1,Below W.heap.size W w1→Calls Tryz.prog 201 #[.func (.func 187) #[] #[],.func (.func 202) #[] #[],.slice (some ⟨pb,0,none⟩) 2 cap] w1 fun e w'=>e=.returned (.slice none 0 0)∧w'=w1):=fun w1 hb1=>rjoin_none pa pv ca cb pb cap w1 ((bcell hb1).1 pb 0 hpb |>.trans h0) ((bcell hb1).1 pb 1 hpb |>.trans h1)
  clear hn
  go_enter Tryz.func138,Tryz.ntmps138
  go_wp2_with fail
  refine HC.out.mono ?_
  rintro e w1 ⟨rfl,hb1⟩
  have HB1:Hid (Below W.heap.size W w1):=hb1
  have HR1:=HR.out w1 hb1
  clear hb1 HR HC
  go_wp2_with fail
  refine HR1.mono ?_
  rintro e w2 ⟨rfl,hw2⟩
  have hw3:=hw2.symm
  subst hw3
  go_wp2_with fail
  go_ret2
  exact ⟨rfl,HB1.out⟩
 go_enter Tryz.func91,Tryz.ntmps91
 go_wp2_with fail
 refine (HJ.out _ w.heap.size 2 (by simp) (cellsAt (heap_alloc_new w _) 0) (cellsAt (heap_alloc_new w _) 1)).mono ?_
 rintro e w2 ⟨rfl,hb⟩
 have HB:Hid (Below w.heap.size w w2):=((Below.refl _ _).alloc (Nat.le_refl _) _).trans (hb.mono (by simp))
 clear hb
 go_wp2_with fail
 go_ret2
 exact ⟨rfl,HB.out⟩
end Gw
end Go.Proofs.YtffdoiokmiklgaaGreatDoor
