import Derived.Test.YtffdoiokmiklgaaGreatDoortr3
import Derived.Test.YtffdoiokmiklgaaGreatDoortr1
namespace Go.Proofs.YtffdoiokmiklgaaGreatDoor
namespace Sv
open Go.RowKit
end Sv
namespace Sv
open Go.RowKit
theorem tag_any (t:ByteArray) (W:World) (g:Nat) (hs:t.size≤maxLen) (hg:W.heap[g]?=some (.cells #[.string t] 9 (0,0))) :
 Calls Tryz.prog 231 #[.slice (some ⟨g,0,none⟩) 1 1] W fun e w'=>e=.returned (.bool (tagB t))∧w'=W:=labE_any t W g hs hg
def lab3 (m:Svc):Bool:=[m.node,m.idn,m.name].all labB
theorem Svc.e_def (m:Svc):m.e=if lab3 m=true then (if tagB m.tag=true then (if within m.addr 0 4294967295=true then (if within m.port 0 65535=true then (if within m.version 1 1000000=true then 0 else 3) else 3) else 3) else 1) else 1:=by
 unfold Svc.e lab3
 simp only [List.all_cons,List.all_nil,Bool.and_true]
 cases labB m.node<;>cases labB m.idn<;>cases labB m.name<;>cases tagB m.tag<;>cases within m.addr 0 4294967295<;>cases within m.port 0 65535<;>cases within m.version 1 1000000<;>rfl
theorem labels3_any (m:Svc) (hm:m.ok) (W:World) (g:Nat) (hg:W.heap[g]?=some (.cells #[.string m.node,.string m.idn,.string m.name] 9 (0,0))) :
 Calls Tryz.prog 38 #[.slice (some ⟨g,0,none⟩) 3 3] W fun e w'=>e=.returned (.bool (lab3 m))∧w'=W:=by
 refine labels_any [m.node,m.idn,m.name] g 3 W (fun j hj=>?_) (fun j=>?_) (by simp)
 ·rw [cellsAt hg]
  have:j=0∨j=1∨j=2:=by simp at hj;omega
  rcases this with rfl | rfl | rfl<;>rfl
 ·obtain ⟨h1,h2,h3,h4⟩:=hm
  match j with
  | 0=>exact h1
  | 1=>exact h2
  | 2=>exact h3
  | _+3=>simp [List.getD]
set_option maxHeartbeats 1600000 in
theorem checkOneE_any (m:Svc) (w:World) (hm:m.ok) :
 Calls Tryz.prog 182 #[.agg #[.string m.node,.string m.idn,.string m.name,.string m.tag,.int .i64 m.addr,.int .i64 m.port,.bool m.passing,.int .i64 m.version,.bool m.gone]] w fun e w'=>e=.returned (.int .i64 m.e)∧Below w.heap.size w w':=by
 have hs:m.tag.size≤maxLen:=hm.2.2.2
 have hB:Hid (Below w.heap.size w ((w.alloc (.cells #[.string m.node,.string m.idn,.string m.name,.string m.tag,.int .i64 m.addr,.int .i64 m.port,.bool m.passing,.int .i64 m.version,.bool m.gone] 42)).alloc (.cells #[.string m.node,.string m.idn,.string m.name] 9))):=((Below.refl _ _).alloc (Nat.le_refl _) _).alloc (by simp) _
 have hg:((w.alloc (.cells #[.string m.node,.string m.idn,.string m.name,.string m.tag,.int .i64 m.addr,.int .i64 m.port,.bool m.passing,.int .i64 m.version,.bool m.gone] 42)).alloc (.cells #[.string m.node,.string m.idn,.string m.name] 9)).heap[w.heap.size+1]?=some (.cells #[.string m.node,.string m.idn,.string m.name] 9 (0,0)):=by
  have h:=heap_alloc_new (w.alloc (.cells #[.string m.node,.string m.idn,.string m.name,.string m.tag,.int .i64 m.addr,.int .i64 m.port,.bool m.passing,.int .i64 m.version,.bool m.gone] 42)) (.cells #[.string m.node,.string m.idn,.string m.name] 9)
  simpa using h
 have HL:Hid (Calls Tryz.prog 38 #[.slice (some ⟨w.heap.size+1,0,none⟩) 3 3] ((w.alloc (.cells #[.string m.node,.string m.idn,.string m.name,.string m.tag,.int .i64 m.addr,.int .i64 m.port,.bool m.passing,.int .i64 m.version,.bool m.gone] 42)).alloc (.cells #[.string m.node,.string m.idn,.string m.name] 9)) fun e w'=>e=.returned (.bool (lab3 m))∧w'=(w.alloc (.cells #[.string m.node,.string m.idn,.string m.name,.string m.tag,.int .i64 m.addr,.int .i64 m.port,.bool m.passing,.int .i64 m.version,.bool m.gone] 42)).alloc (.cells #[.string m.node,.string m.idn,.string m.name] 9)):=labels3_any m hm _ _ hg
 clear hg
 have hB3:Hid (Below w.heap.size w (((w.alloc (.cells #[.string m.node,.string m.idn,.string m.name,.string m.tag,.int .i64 m.addr,.int .i64 m.port,.bool m.passing,.int .i64 m.version,.bool m.gone] 42)).alloc (.cells #[.string m.node,.string m.idn,.string m.name] 9)).alloc (.cells #[.string m.tag] 9))):=hB.out.alloc (by simp;omega) _
 have hg3:(((w.alloc (.cells #[.string m.node,.string m.idn,.string m.name,.string m.tag,.int .i64 m.addr,.int .i64 m.port,.bool m.passing,.int .i64 m.version,.bool m.gone] 42)).alloc (.cells #[.string m.node,.string m.idn,.string m.name] 9)).alloc (.cells #[.string m.tag] 9)).heap[w.heap.size+2]?=some (.cells #[.string m.tag] 9 (0,0)):=by
  have h:=heap_alloc_new ((w.alloc (.cells #[.string m.node,.string m.idn,.string m.name,.string m.tag,.int .i64 m.addr,.int .i64 m.port,.bool m.passing,.int .i64 m.version,.bool m.gone] 42)).alloc (.cells #[.string m.node,.string m.idn,.string m.name] 9)) (.cells #[.string m.tag] 9)
  simpa using h
 have HT:Hid (Calls Tryz.prog 231 #[.slice (some ⟨w.heap.size+2,0,none⟩) 1 1] (((w.alloc (.cells #[.string m.node,.string m.idn,.string m.name,.string m.tag,.int .i64 m.addr,.int .i64 m.port,.bool m.passing,.int .i64 m.version,.bool m.gone] 42)).alloc (.cells #[.string m.node,.string m.idn,.string m.name] 9)).alloc (.cells #[.string m.tag] 9)) fun e w'=>e=.returned (.bool (tagB m.tag))∧w'=(((w.alloc (.cells #[.string m.node,.string m.idn,.string m.name,.string m.tag,.int .i64 m.addr,.int .i64 m.port,.bool m.passing,.int .i64 m.version,.bool m.gone] 42)).alloc (.cells #[.string m.node,.string m.idn,.string m.name] 9)).alloc (.cells #[.string m.tag] 9))):=tag_any m.tag _ _ hs hg3
 clear hg3
 have HD:Hid (m.e=if lab3 m=true then (if tagB m.tag=true then (if within m.addr 0 4294967295=true then (if within m.port 0 65535=true then (if within m.version 1 1000000=true then 0 else 3) else 3) else 3) else 1) else 1):=m.e_def
 clear hm
 rcases h1:lab3 m with _ | _
 ·go_enter Tryz.func182,Tryz.ntmps182
  go_wp2_with (go_at_call 38;refine HL.out.mono ?_;rintro e w' ⟨rfl,rfl⟩;rw [h1])
  go_ret
  exact ⟨ret_int (by rw [HD.out];simp [h1]),hB.out⟩
 ·rcases h2:tagB m.tag with _ | _
  ·go_enter Tryz.func182,Tryz.ntmps182
   go_wp2_with (first | (go_at_call 38;refine HL.out.mono ?_;rintro e w' ⟨rfl,rfl⟩;rw [h1]) | (go_at_call 231;refine HT.out.mono ?_;rintro e w' ⟨rfl,rfl⟩;rw [h2]))
   go_ret
   exact ⟨ret_int (by rw [HD.out];simp [h1,h2]),hB3.out⟩
  ·rcases h3:within m.addr 0 4294967295 with _ | _
   ·go_enter Tryz.func182,Tryz.ntmps182
    go_wp2_with (first | (go_at_call 38;refine HL.out.mono ?_;rintro e w' ⟨rfl,rfl⟩;rw [h1]) | (go_at_call 231;refine HT.out.mono ?_;rintro e w' ⟨rfl,rfl⟩;rw [h2]) | (go_at_call 39;refine (address_any _ _).mono ?_;rintro e w' ⟨rfl,rfl⟩;rw [h3]))
    go_ret
    exact ⟨ret_int (by rw [HD.out];simp [h1,h2,h3]),hB3.out⟩
   ·rcases h4:within m.port 0 65535 with _ | _
    ·go_enter Tryz.func182,Tryz.ntmps182
     go_wp2_with (first | (go_at_call 38;refine HL.out.mono ?_;rintro e w' ⟨rfl,rfl⟩;rw [h1]) | (go_at_call 231;refine HT.out.mono ?_;rintro e w' ⟨rfl,rfl⟩;rw [h2]) | (go_at_call 39;refine (address_any _ _).mono ?_;rintro e w' ⟨rfl,rfl⟩;rw [h3]) | (go_at_call 76;refine (within_any _ _ _ _).mono ?_;rintro e w' ⟨rfl,rfl⟩;rw [h4]))
     go_ret
     exact ⟨ret_int (by rw [HD.out];simp [h1,h2,h3,h4]),hB3.out⟩
    ·rcases h5:within m.version 1 1000000 with _ | _
     all_goals
      go_enter Tryz.func182,Tryz.ntmps182
      go_wp2_with (first | (go_at_call 38;refine HL.out.mono ?_;rintro e w' ⟨rfl,rfl⟩;rw [h1]) | (go_at_call 231;refine HT.out.mono ?_;rintro e w' ⟨rfl,rfl⟩;rw [h2]) | (go_at_call 39;refine (address_any _ _).mono ?_;rintro e w' ⟨rfl,rfl⟩;rw [h3]) | (go_at_call 76;refine (within_any _ _ _ _).mono ?_;rintro e w' ⟨rfl,rfl⟩;first | rw [h4] | rw [h5]))
      go_ret
      exact ⟨ret_int (by rw [HD.out];simp [h1,h2,h3,h4,h5]),hB3.out⟩
set_option maxHeartbeats 800000 in
theorem check_row (ms:List Svc) (b off cap:Nat) (w:World) (hr:Row w b off ms) (hb:b < w.heap.size) (hn:ms.length≤40) (hs:∀ j,(ms.getD j dm).ok) :
 Calls Tryz.prog 127 #[.slice (some ⟨b,off,none⟩) ms.length cap] w fun e w'=>e=.returned (.int .i64 (chk ms))∧Below w.heap.size w w':=by
 have HR:Hid (Row w b off ms):=hr
 have HE:Hid (∀ k,k < ms.length→(∀ j,j < k→(ms.getD j dm).e=0)→(ms.getD k dm).e≠0→chk ms=(ms.getD k dm).e):=fun k h1 h2 h3=>chk_e ms k hn h1 h2 h3
 have H4:Hid ((∀ j,j < ms.length→(ms.getD j dm).e=0)→chk ms=if risesB ms=true then 0 else 4):=fun h1=>chk_r ms hn h1
 have HSl:Hid (∀ w',Below w.heap.size w w'→Calls Tryz.prog 183 #[.slice (some ⟨b,off,none⟩) ms.length cap,.func (.func 184) #[] #[]] w' fun e w''=>e=.returned (.bool (risesB ms))∧Below w'.heap.size w' w''):=fun w' hbw=>rises_row ms b off cap w' (hr.later hbw hb) (Nat.lt_of_lt_of_le hb hbw.size) hn
 clear hr
 generalize hN:ms.length=n at *
 have HN:Hid (ms.length=n):=hN
 clear hN
 have HS:Hid (∀ j,(ms.getD j dm).ok):=hs
 clear hs
 generalize hC:chk ms=res at *
 have HC:Hid (chk ms=res):=hC
 clear hC
 generalize hRB:risesB ms=rb at *
 have HRB:Hid (risesB ms=rb):=hRB
 clear hRB
 go_enter Tryz.func127,Tryz.ntmps127
 go_wp2_with fail
 go_loopw [11] (fun i w'=>∃ k:Nat,k≤n∧i=.int .i64 k∧Below w.heap.size w w'∧Hid (∀ j,j < k→(ms.getD j dm).e=0)) (fun i _=>n - (intOf i).toNat)
 case atStart=>exact ⟨0,Nat.zero_le _,rfl,Below.refl _ _,fun j h=>absurd h (Nat.not_lt_zero _)⟩
 case round=>
  obtain ⟨k,hk,rfl,hbl,hz⟩:=hrel
  obtain ⟨hbc,hbf⟩:=bcell hbl
  have hsz:=hbl.size
  by_cases hlt:k < n
  ·obtain ⟨c0,c1,c2,c3,c4,c5,c6,c7,c8⟩:=HR.out k (by rw [HN.out];exact hlt)
   have HSK:Hid ((ms.getD k dm).ok):=HS.out k
   have HK:Hid ((ms.getD k dm).e≠0→res=(ms.getD k dm).e):=fun h=>HE.out k hlt hz.out h
   have HZ:Hid ((ms.getD k dm).e=0→∀ j,j < k+1→(ms.getD j dm).e=0):=fun h j hj=>by
    rcases Nat.lt_succ_iff_lt_or_eq.1 hj with h2 | rfl
    ·exact hz.out j h2
    ·exact h
   generalize ms.getD k dm=m at *
   have HO:Hid (∀ w,Calls Tryz.prog 182 #[.agg #[.string m.node,.string m.idn,.string m.name,.string m.tag,.int .i64 m.addr,.int .i64 m.port,.bool m.passing,.int .i64 m.version,.bool m.gone]] w fun e w'=>e=.returned (.int .i64 m.e)∧Below w.heap.size w w'):=fun w=>checkOneE_any m w HSK.out
   generalize m.e=me at *
   rcases he:decide (me=0) with _ | _
   ·have he':(me != 0)=true:=by simpa using he
    clear he
    go_wp2_with (go_at_call 182;refine (HO.out _).mono ?_;rintro e w' ⟨rfl,hb2⟩)
    go_ret
    have hne:me≠0:=by simpa using he'
    have hres:res=me:=HK.out hne
    exact ⟨ret_int hres.symm,(hbl.alloc hsz _).trans (hb2.mono (by simp;omega))⟩
   ·have he':(me != 0)=false:=by simpa using he
    clear he
    go_wp2_with (go_at_call 182;refine (HO.out _).mono ?_;rintro e w' ⟨rfl,hb2⟩)
    go_roundw
    case rel=>
     have he0:me=0:=by simpa using he'
     exact ⟨k+1,by omega,by go_num,(hbl.alloc hsz _).trans (hb2.mono (by simp;omega)),HZ.out he0⟩
    case measure=>simp [intOf];omega
  ·have hall:Hid (∀ j,j < n→(ms.getD j dm).e=0):=fun j hj=>hz.out j (by omega)
   have HRes:Hid (res=if rb=true then 0 else 4):=H4.out hall.out
   clear hz hall H4 HE HC HRB
   cases rb
   ·go_wp2_with (go_at_call 183;refine (HSl.out _ hbl).mono ?_;rintro e w' ⟨rfl,hb2⟩)
    go_ret
    exact ⟨ret_int (by rw [HRes.out];rfl),hbl.trans (hb2.mono hsz)⟩
   ·go_wp2_with (go_at_call 183;refine (HSl.out _ hbl).mono ?_;rintro e w' ⟨rfl,hb2⟩)
    go_ret
    exact ⟨ret_int (by rw [HRes.out];rfl),hbl.trans (hb2.mono hsz)⟩
set_option maxHeartbeats 400000 in
theorem check_many (a:Option Addr) (n cap:Nat) (w:World) (hn:40 < n) :
 Calls Tryz.prog 127 #[.slice a n cap] w fun e w'=>e=.returned (.int .i64 2)∧w'=w:=by
 go_enter Tryz.func127,Tryz.ntmps127
 go_wp2_with fail
 go_ret
 exact ⟨rfl,rfl⟩
set_option maxHeartbeats 400000 in
theorem check_none (a:Option Addr) (cap:Nat) (w:World) :
 Calls Tryz.prog 127 #[.slice a 0 cap] w fun e w'=>e=.returned (.int .i64 0)∧w'=w:=by
 go_enter Tryz.func127,Tryz.ntmps127
 go_wp2_with fail
 go_loop [11] (fun i=>i=.int .i64 0) (fun _=>0)
 case atStart=>rfl
 case round=>
  subst hrel
  go_wp2_with (go_at_call 183;refine (rises_none _ _ _ _).mono ?_;rintro e w' ⟨rfl,rfl⟩)
  go_ret
  exact ⟨rfl,rfl⟩
theorem check_any (ms:List Svc) (v:Value) (w:World) (h:Sl w v ms) :
 Calls Tryz.prog 127 #[v] w fun e w'=>e=.returned (.int .i64 (chk ms))∧Below w.heap.size w w':=by
 obtain ⟨a,cap,rfl,hs,h⟩:=h
 by_cases hn:40 < ms.length
 ·refine (check_many a ms.length cap w hn).mono ?_
  rintro e w' ⟨rfl,rfl⟩
  exact ⟨ret_int (by rw [chk,if_pos hn]),Below.refl _ _⟩
 ·rcases h with rfl | ⟨b,off,rfl,hb,hr⟩
  ·refine (check_none a cap w).mono ?_
   rintro e w' ⟨rfl,rfl⟩
   exact ⟨rfl,Below.refl _ _⟩
  ·exact check_row ms b off cap w hr hb (by omega) hs
set_option maxHeartbeats 800000 in
theorem checkAll_two (a b:List Svc) (va vb:Value) (pb cap:Nat) (w:World) (ha:Sl w va a) (hb:Sl w vb b) (hpb:pb < w.heap.size) (hc0:w.cell? ⟨pb,0,none⟩=some va) (hc1:w.cell? ⟨pb,1,none⟩=some vb) :
 Calls Tryz.prog 197 #[.slice (some ⟨pb,0,none⟩) 2 cap] w fun e w'=>e=.returned (.int .i64 (chkTwo a b))∧Below w.heap.size w w':=by
 have HA:Hid (Sl w va a):=ha
 have HB:Hid (Sl w vb b):=hb
 clear ha hb
 go_enter Tryz.func197,Tryz.ntmps197
 go_wp2_with fail
 go_loopw [8] (fun i w'=>∃ k:Nat,k≤2∧i=.int .i64 k∧Below w.heap.size w w'∧Hid (0 < k→chk a=0)∧Hid (1 < k→chk b=0)) (fun i _=>2 - (intOf i).toNat)
 case atStart=>exact ⟨0,by omega,rfl,Below.refl _ _,fun h=>by omega,fun h=>by omega⟩
 case round=>
  obtain ⟨k,hk,rfl,hbl,hz0,hz1⟩:=hrel
  obtain ⟨hbc,hbf⟩:=bcell hbl
  have hsz:=hbl.size
  have HA':Hid (Sl wr va a):=HA.out.below hbl
  have HB':Hid (Sl wr vb b):=HB.out.below hbl
  have hcases:k=0∨k=1∨k=2:=by omega
  rcases hcases with rfl | rfl | rfl
  ·rcases he:decide (chk a=0) with _ | _
   ·have he':(chk a != 0)=true:=by simpa using he
    clear he
    go_wp2_with (go_at_call 127;refine (check_any a _ _ HA'.out).mono ?_;rintro e w' ⟨rfl,hb2⟩)
    go_ret
    exact ⟨ret_int (by have h0:chk a≠0:=(by simpa using he');rw [chkTwo,if_neg h0]),hbl.trans (hb2.mono hsz)⟩
   ·have he':(chk a != 0)=false:=by simpa using he
    clear he
    go_wp2_with (go_at_call 127;refine (check_any a _ _ HA'.out).mono ?_;rintro e w' ⟨rfl,hb2⟩)
    go_roundw
    case rel=>exact ⟨1,by omega,by go_num,hbl.trans (hb2.mono hsz),fun _=>(by simpa using he'),fun h=>by omega⟩
    case measure=>simp [intOf]
  ·have h0:Hid (chk a=0):=hz0.out (by omega)
   rcases he:decide (chk b=0) with _ | _
   ·have he':(chk b != 0)=true:=by simpa using he
    clear he
    go_wp2_with (go_at_call 127;refine (check_any b _ _ HB'.out).mono ?_;rintro e w' ⟨rfl,hb2⟩)
    go_ret
    exact ⟨ret_int (by rw [chkTwo,if_pos h0.out]),hbl.trans (hb2.mono hsz)⟩
   ·have he':(chk b != 0)=false:=by simpa using he
    clear he
    go_wp2_with (go_at_call 127;refine (check_any b _ _ HB'.out).mono ?_;rintro e w' ⟨rfl,hb2⟩)
    go_roundw
    case rel=>exact ⟨2,by omega,by go_num,hbl.trans (hb2.mono hsz),fun _=>h0.out,fun _=>(by simpa using he')⟩
    case measure=>simp [intOf]
  ·go_wp2_with fail
   go_ret
   exact ⟨ret_int (by rw [chkTwo,if_pos (hz0.out (by omega)),hz1.out (by omega)]),hbl⟩
end Sv
end Go.Proofs.YtffdoiokmiklgaaGreatDoor
