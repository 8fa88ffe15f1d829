import Derived.Test.YtikgjgmgbfjcgaaGreatQ1
import Derived.Test.YtikgjgmgbfjcgaaGreatQ7
import Derived.Laws.StructEq
import Derived.Deep.Slices
import Derived.Lib.SmallJoins
import Derived.ProofKit
namespace Go.Proofs.YtikgjgmgbfjcgaaGreat
open Go.RowKit
set_option maxHeartbeats 800000 in
theorem labels_any (ss:List ByteArray) (b cap:Nat) (w:World) (hb:∀ j,j < ss.length→w.cell? ⟨b,j,none⟩=some (.string (ss.getD j ByteArray.empty))) (hs:∀ j,(ss.getD j ByteArray.empty).size≤maxLen) (hn:ss.length≤1000) :
 Calls Tryz.prog 41 #[.slice (some ⟨b,0,none⟩) ss.length cap] w fun e w'=>e=.returned (.bool (ss.all labB))∧w'=w:=by
 have HB:Hid (∀ j,j < ss.length→w.cell? ⟨b,j,none⟩=some (.string (ss.getD j ByteArray.empty))):=hb
 have HS:Hid (∀ j,(ss.getD j ByteArray.empty).size≤maxLen):=hs
 have H0:Hid ((∀ j,j < ss.length→labB (ss.getD j ByteArray.empty)=true)→ss.all labB=true):=fun h=>by
  rw [List.all_eq_true]
  intro x hx
  obtain ⟨j,hj,rfl⟩:=List.getElem_of_mem hx
  have:=h j hj
  simpa [List.getD,List.getElem?_eq_getElem hj] using this
 have H1:Hid (∀ j,j < ss.length→labB (ss.getD j ByteArray.empty)=false→ss.all labB=false):=fun j hj h=>by
  rw [List.all_eq_false]
  refine ⟨ss[j],List.getElem_mem hj,?_⟩
  rw [show ss.getD j ByteArray.empty=ss[j] by simp [List.getD,List.getElem?_eq_getElem hj]] at h
  simp [h]
 clear hb hs
 generalize ss.all labB=res at *
 generalize hN:ss.length=n at *
 clear hN
 go_enter Tryz.func41,Tryz.ntmps41
 go_wp2_with fail
 go_loop [7] (fun i=>∃ k:Nat,k≤n∧i=.int .i64 k∧Hid (∀ j,j < k→labB (ss.getD j ByteArray.empty)=true)) (fun i=>n - (intOf i).toNat)
 case atStart=>exact ⟨0,Nat.zero_le _,rfl,fun j h=>absurd h (Nat.not_lt_zero _)⟩
 case round=>
  obtain ⟨k,hk,rfl,hz⟩:=hrel
  by_cases hlt:k < n
  ·have hc:=HB.out k hlt
   have hsk:=HS.out k
   have HZ:Hid (labB (ss.getD k ByteArray.empty)=true→∀ j,j < k+1→labB (ss.getD j ByteArray.empty)=true):=fun h j hj=>by
    rcases Nat.lt_succ_iff_lt_or_eq.1 hj with h2 | rfl
    ·exact hz.out j h2
    ·exact h
   have HF:Hid (labB (ss.getD k ByteArray.empty)=false→res=false):=fun h=>H1.out k hlt h
   generalize ss.getD k ByteArray.empty=s at *
   rcases hl:labB s with _ | _
   ·have HR:Hid (res=false):=HF.out hl
    go_wp2_with (go_at_call 96;refine (label_any _ _ hsk).mono ?_;rintro e w' ⟨rfl,rfl⟩;rw [hl])
    go_ret
    exact ⟨ret_bool HR.out.symm,rfl⟩
   ·go_wp2_with (go_at_call 96;refine (label_any _ _ hsk).mono ?_;rintro e w' ⟨rfl,rfl⟩;rw [hl])
    go_round
    case rel=>exact ⟨k+1,by omega,by go_num,HZ.out hl⟩
    case measure=>simp [intOf];omega
  ·have HR:Hid (res=true):=H0.out fun j hj=>hz.out j (by omega)
   go_wp2_with fail
   go_ret
   exact ⟨ret_bool HR.out.symm,rfl⟩
def labE (t:ByteArray):Bool:=decide (t=ByteArray.empty) || labB t
set_option maxHeartbeats 1600000 in
theorem labelsE_any (ss:List ByteArray) (b cap:Nat) (w:World) (hb:∀ j,j < ss.length→w.cell? ⟨b,j,none⟩=some (.string (ss.getD j ByteArray.empty))) (hs:∀ j,(ss.getD j ByteArray.empty).size≤maxLen) (hn:ss.length≤1000) :
 Calls Tryz.prog 182 #[.slice (some ⟨b,0,none⟩) ss.length cap] w fun e w'=>e=.returned (.bool (ss.all labE))∧w'=w:=by
 have HB:Hid (∀ j,j < ss.length→w.cell? ⟨b,j,none⟩=some (.string (ss.getD j ByteArray.empty))):=hb
 have HS:Hid (∀ j,(ss.getD j ByteArray.empty).size≤maxLen):=hs
 have H0:Hid ((∀ j,j < ss.length→labE (ss.getD j ByteArray.empty)=true)→ss.all labE=true):=fun h=>by
  rw [List.all_eq_true]
  intro x hx
  obtain ⟨j,hj,rfl⟩:=List.getElem_of_mem hx
  have:=h j hj
  simpa [List.getD,List.getElem?_eq_getElem hj] using this
 have H1:Hid (∀ j,j < ss.length→labE (ss.getD j ByteArray.empty)=false→ss.all labE=false):=fun j hj h=>by
  rw [List.all_eq_false]
  refine ⟨ss[j],List.getElem_mem hj,?_⟩
  rw [show ss.getD j ByteArray.empty=ss[j] by simp [List.getD,List.getElem?_eq_getElem hj]] at h
  simp [h]
 clear hb hs
 generalize ss.all labE=res at *
 generalize hN:ss.length=n at *
 clear hN
 go_enter Tryz.func182,Tryz.ntmps182
 go_wp2_with fail
 go_loop [7] (fun i=>∃ k:Nat,k≤n∧i=.int .i64 k∧Hid (∀ j,j < k→labE (ss.getD j ByteArray.empty)=true)) (fun i=>n - (intOf i).toNat)
 case atStart=>exact ⟨0,Nat.zero_le _,rfl,fun j h=>absurd h (Nat.not_lt_zero _)⟩
 case round=>
  obtain ⟨k,hk,rfl,hz⟩:=hrel
  by_cases hlt:k < n
  ·have hc:=HB.out k hlt
   have hsk:=HS.out k
   have HZ:Hid (labE (ss.getD k ByteArray.empty)=true→∀ j,j < k+1→labE (ss.getD j ByteArray.empty)=true):=fun h j hj=>by
    rcases Nat.lt_succ_iff_lt_or_eq.1 hj with h2 | rfl
    ·exact hz.out j h2
    ·exact h
   have HF:Hid (labE (ss.getD k ByteArray.empty)=false→res=false):=fun h=>H1.out k hlt h
   generalize ss.getD k ByteArray.empty=s at *
   by_cases hse:s=ByteArray.empty
   ·subst hse
    have HZ2:Hid (∀ j,j < k+1→labE (ss.getD j ByteArray.empty)=true):=HZ.out (by simp [labE])
    clear HZ HF
    go_wp2_with fail
    go_round
    case rel=>exact ⟨k+1,by omega,by go_num,HZ2.out⟩
    case measure=>simp [intOf];omega
   ·have HE:Hid (labE s=labB s):=(show labE s=labB s by simp [labE,hse])
    obtain ⟨h1,h2⟩:=beq_name hse
    have h3:¬ s.toList=[]:=fun e=>h2 (by rw [e,Lib.toList_data];rfl)
    have h4:(s.toList == [])=false:=by simpa using h3
    clear hse
    rcases hl:labB s with _ | _
    ·have HR:Hid (res=false):=HF.out (by rw [HE.out,hl])
     go_wp2_with (go_at_call 96;refine (label_any _ _ hsk).mono ?_;rintro e w' ⟨rfl,rfl⟩;rw [hl])
     go_ret
     exact ⟨ret_bool HR.out.symm,rfl⟩
    ·have HZ2:Hid (∀ j,j < k+1→labE (ss.getD j ByteArray.empty)=true):=HZ.out (by rw [HE.out,hl])
     clear HZ HF
     go_wp2_with (go_at_call 96;refine (label_any _ _ hsk).mono ?_;rintro e w' ⟨rfl,rfl⟩;rw [hl])
     go_round
     case rel=>exact ⟨k+1,by omega,by go_num,HZ2.out⟩
     case measure=>simp [intOf];omega
  ·have HR:Hid (res=true):=H0.out fun j hj=>hz.out j (by omega)
   go_wp2_with fail
   go_ret
   exact ⟨ret_bool HR.out.symm,rfl⟩
theorem labE_any (t:ByteArray) (W:World) (g:Nat) (hs:t.size≤maxLen) (hg:W.heap[g]?=some (.cells #[.string t] 9 (0,0))) :
 Calls Tryz.prog 182 #[.slice (some ⟨g,0,none⟩) 1 1] W fun e w'=>e=.returned (.bool (labE t))∧w'=W:=by
 have h:=labelsE_any [t] g 1 W (fun j hj=>by
  rw [cellsAt hg]
  have:j=0:=by simp at hj;omega
  subst this;rfl) (fun j=>by
  match j with
  | 0=>exact hs
  | _+1=>simp [List.getD]) (by simp)
 simpa using h
end Go.Proofs.YtikgjgmgbfjcgaaGreat
namespace Go.Proofs.YtikgjgmgbfjcgaaGreat
namespace Sv
open Go.RowKit
theorem tag_any (t:ByteArray) (W:World) (g:Nat) (hs:t.size≤maxLen) (hg:W.heap[g]?=some (.cells #[.string t] 9 (0,0))) :
 Calls Tryz.prog 182 #[.slice (some ⟨g,0,none⟩) 1 1] W fun e w'=>e=.returned (.bool (tagB t))∧w'=W:=labE_any t W g hs hg
def lab3 (m:Svc):Bool:=[m.node,m.idn,m.name].all labB
theorem Svc.e_def (m:Svc):m.e=if lab3 m=true then (if tagB m.tag=true then (if within m.addr 0 4294967295=true then (if within m.port 0 65535=true then (if within m.version 1 1000000=true then 0 else 3) else 3) else 3) else 1) else 1:=by
 unfold Svc.e lab3
 simp only [List.all_cons,List.all_nil,Bool.and_true]
 cases labB m.node<;>cases labB m.idn<;>cases labB m.name<;>cases tagB m.tag<;>cases within m.addr 0 4294967295<;>cases within m.port 0 65535<;>cases within m.version 1 1000000<;>rfl
theorem labels3_any (m:Svc) (hm:m.ok) (W:World) (g:Nat) (hg:W.heap[g]?=some (.cells #[.string m.node,.string m.idn,.string m.name] 9 (0,0))) :
 Calls Tryz.prog 41 #[.slice (some ⟨g,0,none⟩) 3 3] W fun e w'=>e=.returned (.bool (lab3 m))∧w'=W:=by
 refine labels_any [m.node,m.idn,m.name] g 3 W (fun j hj=>?_) (fun j=>?_) (by simp)
 ·rw [cellsAt hg]
  have:j=0∨j=1∨j=2:=by simp at hj;omega
  rcases this with rfl | rfl | rfl<;>rfl
 ·obtain ⟨h1,h2,h3,h4⟩:=hm
  match j with
  | 0=>exact h1
  | 1=>exact h2
  | 2=>exact h3
  | _+3=>simp [List.getD]
set_option maxHeartbeats 1600000 in
theorem checkOneE_any (m:Svc) (w:World) (hm:m.ok) :
 Calls Tryz.prog 145 #[.agg #[.string m.node,.string m.idn,.string m.name,.string m.tag,.int .i64 m.addr,.int .i64 m.port,.bool m.passing,.int .i64 m.version,.bool m.gone]] w fun e w'=>e=.returned (.int .i64 m.e)∧Below w.heap.size w w':=by
 have hs:m.tag.size≤maxLen:=hm.2.2.2
 have hB:Hid (Below w.heap.size w ((w.alloc (.cells #[.string m.node,.string m.idn,.string m.name,.string m.tag,.int .i64 m.addr,.int .i64 m.port,.bool m.passing,.int .i64 m.version,.bool m.gone] 62)).alloc (.cells #[.string m.node,.string m.idn,.string m.name] 9))):=((Below.refl _ _).alloc (Nat.le_refl _) _).alloc (by simp) _
 have hg:((w.alloc (.cells #[.string m.node,.string m.idn,.string m.name,.string m.tag,.int .i64 m.addr,.int .i64 m.port,.bool m.passing,.int .i64 m.version,.bool m.gone] 62)).alloc (.cells #[.string m.node,.string m.idn,.string m.name] 9)).heap[w.heap.size+1]?=some (.cells #[.string m.node,.string m.idn,.string m.name] 9 (0,0)):=by
  have h:=heap_alloc_new (w.alloc (.cells #[.string m.node,.string m.idn,.string m.name,.string m.tag,.int .i64 m.addr,.int .i64 m.port,.bool m.passing,.int .i64 m.version,.bool m.gone] 62)) (.cells #[.string m.node,.string m.idn,.string m.name] 9)
  simpa using h
 have HL:Hid (Calls Tryz.prog 41 #[.slice (some ⟨w.heap.size+1,0,none⟩) 3 3] ((w.alloc (.cells #[.string m.node,.string m.idn,.string m.name,.string m.tag,.int .i64 m.addr,.int .i64 m.port,.bool m.passing,.int .i64 m.version,.bool m.gone] 62)).alloc (.cells #[.string m.node,.string m.idn,.string m.name] 9)) fun e w'=>e=.returned (.bool (lab3 m))∧w'=(w.alloc (.cells #[.string m.node,.string m.idn,.string m.name,.string m.tag,.int .i64 m.addr,.int .i64 m.port,.bool m.passing,.int .i64 m.version,.bool m.gone] 62)).alloc (.cells #[.string m.node,.string m.idn,.string m.name] 9)):=labels3_any m hm _ _ hg
 clear hg
 have hB3:Hid (Below w.heap.size w (((w.alloc (.cells #[.string m.node,.string m.idn,.string m.name,.string m.tag,.int .i64 m.addr,.int .i64 m.port,.bool m.passing,.int .i64 m.version,.bool m.gone] 62)).alloc (.cells #[.string m.node,.string m.idn,.string m.name] 9)).alloc (.cells #[.string m.tag] 9))):=hB.out.alloc (by simp;omega) _
 have hg3:(((w.alloc (.cells #[.string m.node,.string m.idn,.string m.name,.string m.tag,.int .i64 m.addr,.int .i64 m.port,.bool m.passing,.int .i64 m.version,.bool m.gone] 62)).alloc (.cells #[.string m.node,.string m.idn,.string m.name] 9)).alloc (.cells #[.string m.tag] 9)).heap[w.heap.size+2]?=some (.cells #[.string m.tag] 9 (0,0)):=by
  have h:=heap_alloc_new ((w.alloc (.cells #[.string m.node,.string m.idn,.string m.name,.string m.tag,.int .i64 m.addr,.int .i64 m.port,.bool m.passing,.int .i64 m.version,.bool m.gone] 62)).alloc (.cells #[.string m.node,.string m.idn,.string m.name] 9)) (.cells #[.string m.tag] 9)
  simpa using h
 have HT:Hid (Calls Tryz.prog 182 #[.slice (some ⟨w.heap.size+2,0,none⟩) 1 1] (((w.alloc (.cells #[.string m.node,.string m.idn,.string m.name,.string m.tag,.int .i64 m.addr,.int .i64 m.port,.bool m.passing,.int .i64 m.version,.bool m.gone] 62)).alloc (.cells #[.string m.node,.string m.idn,.string m.name] 9)).alloc (.cells #[.string m.tag] 9)) fun e w'=>e=.returned (.bool (tagB m.tag))∧w'=(((w.alloc (.cells #[.string m.node,.string m.idn,.string m.name,.string m.tag,.int .i64 m.addr,.int .i64 m.port,.bool m.passing,.int .i64 m.version,.bool m.gone] 62)).alloc (.cells #[.string m.node,.string m.idn,.string m.name] 9)).alloc (.cells #[.string m.tag] 9))):=tag_any m.tag _ _ hs hg3
 clear hg3
 have HD:Hid (m.e=if lab3 m=true then (if tagB m.tag=true then (if within m.addr 0 4294967295=true then (if within m.port 0 65535=true then (if within m.version 1 1000000=true then 0 else 3) else 3) else 3) else 1) else 1):=m.e_def
 clear hm
 rcases h1:lab3 m with _ | _
 ·go_enter Tryz.func145,Tryz.ntmps145
  go_wp2_with (go_at_call 41;refine HL.out.mono ?_;rintro e w' ⟨rfl,rfl⟩;rw [h1])
  go_ret
  exact ⟨ret_int (by rw [HD.out];simp [h1]),hB.out⟩
 ·rcases h2:tagB m.tag with _ | _
  ·go_enter Tryz.func145,Tryz.ntmps145
   go_wp2_with (first | (go_at_call 41;refine HL.out.mono ?_;rintro e w' ⟨rfl,rfl⟩;rw [h1]) | (go_at_call 182;refine HT.out.mono ?_;rintro e w' ⟨rfl,rfl⟩;rw [h2]))
   go_ret
   exact ⟨ret_int (by rw [HD.out];simp [h1,h2]),hB3.out⟩
  ·rcases h3:within m.addr 0 4294967295 with _ | _
   ·go_enter Tryz.func145,Tryz.ntmps145
    go_wp2_with (first | (go_at_call 41;refine HL.out.mono ?_;rintro e w' ⟨rfl,rfl⟩;rw [h1]) | (go_at_call 182;refine HT.out.mono ?_;rintro e w' ⟨rfl,rfl⟩;rw [h2]) | (go_at_call 42;refine (address_any _ _).mono ?_;rintro e w' ⟨rfl,rfl⟩;rw [h3]))
    go_ret
    exact ⟨ret_int (by rw [HD.out];simp [h1,h2,h3]),hB3.out⟩
   ·rcases h4:within m.port 0 65535 with _ | _
    ·go_enter Tryz.func145,Tryz.ntmps145
     go_wp2_with (first | (go_at_call 41;refine HL.out.mono ?_;rintro e w' ⟨rfl,rfl⟩;rw [h1]) | (go_at_call 182;refine HT.out.mono ?_;rintro e w' ⟨rfl,rfl⟩;rw [h2]) | (go_at_call 42;refine (address_any _ _).mono ?_;rintro e w' ⟨rfl,rfl⟩;rw [h3]) | (go_at_call 97;refine (within_any _ _ _ _).mono ?_;rintro e w' ⟨rfl,rfl⟩;rw [h4]))
     go_ret
     exact ⟨ret_int (by rw [HD.out];simp [h1,h2,h3,h4]),hB3.out⟩
    ·rcases h5:within m.version 1 1000000 with _ | _
     all_goals
      go_enter Tryz.func145,Tryz.ntmps145
      go_wp2_with (first | (go_at_call 41;refine HL.out.mono ?_;rintro e w' ⟨rfl,rfl⟩;rw [h1]) | (go_at_call 182;refine HT.out.mono ?_;rintro e w' ⟨rfl,rfl⟩;rw [h2]) | (go_at_call 42;refine (address_any _ _).mono ?_;rintro e w' ⟨rfl,rfl⟩;rw [h3]) | (go_at_call 97;refine (within_any _ _ _ _).mono ?_;rintro e w' ⟨rfl,rfl⟩;first | rw [h4] | rw [h5]))
      go_ret
      exact ⟨ret_int (by rw [HD.out];simp [h1,h2,h3,h4,h5]),hB3.out⟩
set_option maxHeartbeats 800000 in
theorem check_row (ms:List Svc) (b off cap:Nat) (w:World) (hr:Row w b off ms) (hb:b < w.heap.size) (hn:ms.length≤40) (hs:∀ j,(ms.getD j dm).ok) :
 Calls Tryz.prog 100 #[.slice (some ⟨b,off,none⟩) ms.length cap] w fun e w'=>e=.returned (.int .i64 (chk ms))∧Below w.heap.size w w':=by
 have HR:Hid (Row w b off ms):=hr
 have HE:Hid (∀ k,k < ms.length→(∀ j,j < k→(ms.getD j dm).e=0)→(ms.getD k dm).e≠0→chk ms=(ms.getD k dm).e):=fun k h1 h2 h3=>chk_e ms k hn h1 h2 h3
 have H4:Hid ((∀ j,j < ms.length→(ms.getD j dm).e=0)→chk ms=if risesB ms=true then 0 else 4):=fun h1=>chk_r ms hn h1
 have HSl:Hid (∀ w',Below w.heap.size w w'→Calls Tryz.prog 146 #[.slice (some ⟨b,off,none⟩) ms.length cap,.func (.func 147) #[] #[]] w' fun e w''=>e=.returned (.bool (risesB ms))∧Below w'.heap.size w' w''):=fun w' hbw=>rises_row ms b off cap w' (hr.later hbw hb) (Nat.lt_of_lt_of_le hb hbw.size) hn
 clear hr
 generalize hN:ms.length=n at *
 have HN:Hid (ms.length=n):=hN
 clear hN
 have HS:Hid (∀ j,(ms.getD j dm).ok):=hs
 clear hs
 generalize hC:chk ms=res at *
 have HC:Hid (chk ms=res):=hC
 clear hC
 generalize hRB:risesB ms=rb at *
 have HRB:Hid (risesB ms=rb):=hRB
 clear hRB
 go_enter Tryz.func100,Tryz.ntmps100
 go_wp2_with fail
 go_loopw [11] (fun i w'=>∃ k:Nat,k≤n∧i=.int .i64 k∧Below w.heap.size w w'∧Hid (∀ j,j < k→(ms.getD j dm).e=0)) (fun i _=>n - (intOf i).toNat)
 case atStart=>exact ⟨0,Nat.zero_le _,rfl,Below.refl _ _,fun j h=>absurd h (Nat.not_lt_zero _)⟩
 case round=>
  obtain ⟨k,hk,rfl,hbl,hz⟩:=hrel
  obtain ⟨hbc,hbf⟩:=bcell hbl
  have hsz:=hbl.size
  by_cases hlt:k < n
  ·obtain ⟨c0,c1,c2,c3,c4,c5,c6,c7,c8⟩:=HR.out k (by rw [HN.out];exact hlt)
   have HSK:Hid ((ms.getD k dm).ok):=HS.out k
   have HK:Hid ((ms.getD k dm).e≠0→res=(ms.getD k dm).e):=fun h=>HE.out k hlt hz.out h
   have HZ:Hid ((ms.getD k dm).e=0→∀ j,j < k+1→(ms.getD j dm).e=0):=fun h j hj=>by
    rcases Nat.lt_succ_iff_lt_or_eq.1 hj with h2 | rfl
    ·exact hz.out j h2
    ·exact h
   generalize ms.getD k dm=m at *
   have HO:Hid (∀ w,Calls Tryz.prog 145 #[.agg #[.string m.node,.string m.idn,.string m.name,.string m.tag,.int .i64 m.addr,.int .i64 m.port,.bool m.passing,.int .i64 m.version,.bool m.gone]] w fun e w'=>e=.returned (.int .i64 m.e)∧Below w.heap.size w w'):=fun w=>checkOneE_any m w HSK.out
   generalize m.e=me at *
   rcases he:decide (me=0) with _ | _
   ·have he':(me != 0)=true:=by simpa using he
    clear he
    go_wp2_with (go_at_call 145;refine (HO.out _).mono ?_;rintro e w' ⟨rfl,hb2⟩)
    go_ret
    have hne:me≠0:=by simpa using he'
    have hres:res=me:=HK.out hne
    exact ⟨ret_int hres.symm,(hbl.alloc hsz _).trans (hb2.mono (by simp;omega))⟩
   ·have he':(me != 0)=false:=by simpa using he
    clear he
    go_wp2_with (go_at_call 145;refine (HO.out _).mono ?_;rintro e w' ⟨rfl,hb2⟩)
    go_roundw
    case rel=>
     have he0:me=0:=by simpa using he'
     exact ⟨k+1,by omega,by go_num,(hbl.alloc hsz _).trans (hb2.mono (by simp;omega)),HZ.out he0⟩
    case measure=>simp [intOf];omega
  ·have hall:Hid (∀ j,j < n→(ms.getD j dm).e=0):=fun j hj=>hz.out j (by omega)
   have HRes:Hid (res=if rb=true then 0 else 4):=H4.out hall.out
   clear hz hall H4 HE HC HRB
   cases rb
   ·go_wp2_with (go_at_call 146;refine (HSl.out _ hbl).mono ?_;rintro e w' ⟨rfl,hb2⟩)
    go_ret
    exact ⟨ret_int (by rw [HRes.out];rfl),hbl.trans (hb2.mono hsz)⟩
   ·go_wp2_with (go_at_call 146;refine (HSl.out _ hbl).mono ?_;rintro e w' ⟨rfl,hb2⟩)
    go_ret
    exact ⟨ret_int (by rw [HRes.out];rfl),hbl.trans (hb2.mono hsz)⟩
set_option maxHeartbeats 400000 in
theorem check_many (a:Option Addr) (n cap:Nat) (w:World) (hn:40 < n) :
 Calls Tryz.prog 100 #[.slice a n cap] w fun e w'=>e=.returned (.int .i64 2)∧w'=w:=by
 go_enter Tryz.func100,Tryz.ntmps100
 go_wp2_with fail
 go_ret
 exact ⟨rfl,rfl⟩
set_option maxHeartbeats 400000 in
theorem check_none (a:Option Addr) (cap:Nat) (w:World) :
 Calls Tryz.prog 100 #[.slice a 0 cap] w fun e w'=>e=.returned (.int .i64 0)∧w'=w:=by
 go_enter Tryz.func100,Tryz.ntmps100
 go_wp2_with fail
 go_loop [11] (fun i=>i=.int .i64 0) (fun _=>0)
 case atStart=>rfl
 case round=>
  subst hrel
  go_wp2_with (go_at_call 146;refine (rises_none _ _ _ _).mono ?_;rintro e w' ⟨rfl,rfl⟩)
  go_ret
  exact ⟨rfl,rfl⟩
theorem check_any (ms:List Svc) (v:Value) (w:World) (h:Sl w v ms) :
 Calls Tryz.prog 100 #[v] w fun e w'=>e=.returned (.int .i64 (chk ms))∧Below w.heap.size w w':=by
 obtain ⟨a,cap,rfl,hs,h⟩:=h
 by_cases hn:40 < ms.length
 ·refine (check_many a ms.length cap w hn).mono ?_
  rintro e w' ⟨rfl,rfl⟩
  exact ⟨ret_int (by rw [chk,if_pos hn]),Below.refl _ _⟩
 ·rcases h with rfl | ⟨b,off,rfl,hb,hr⟩
  ·refine (check_none a cap w).mono ?_
   rintro e w' ⟨rfl,rfl⟩
   exact ⟨rfl,Below.refl _ _⟩
  ·exact check_row ms b off cap w hr hb (by omega) hs
set_option maxHeartbeats 800000 in
theorem checkAll_two (a b:List Svc) (va vb:Value) (pb cap:Nat) (w:World) (ha:Sl w va a) (hb:Sl w vb b) (hpb:pb < w.heap.size) (hc0:w.cell? ⟨pb,0,none⟩=some va) (hc1:w.cell? ⟨pb,1,none⟩=some vb) :
 Calls Tryz.prog 208 #[.slice (some ⟨pb,0,none⟩) 2 cap] w fun e w'=>e=.returned (.int .i64 (chkTwo a b))∧Below w.heap.size w w':=by
 have HA:Hid (Sl w va a):=ha
 have HB:Hid (Sl w vb b):=hb
 clear ha hb
 go_enter Tryz.func208,Tryz.ntmps208
 go_wp2_with fail
 go_loopw [8] (fun i w'=>∃ k:Nat,k≤2∧i=.int .i64 k∧Below w.heap.size w w'∧Hid (0 < k→chk a=0)∧Hid (1 < k→chk b=0)) (fun i _=>2 - (intOf i).toNat)
 case atStart=>exact ⟨0,by omega,rfl,Below.refl _ _,fun h=>by omega,fun h=>by omega⟩
 case round=>
  obtain ⟨k,hk,rfl,hbl,hz0,hz1⟩:=hrel
  obtain ⟨hbc,hbf⟩:=bcell hbl
  have hsz:=hbl.size
  have HA':Hid (Sl wr va a):=HA.out.below hbl
  have HB':Hid (Sl wr vb b):=HB.out.below hbl
  have hcases:k=0∨k=1∨k=2:=by omega
  rcases hcases with rfl | rfl | rfl
  ·rcases he:decide (chk a=0) with _ | _
   ·have he':(chk a != 0)=true:=by simpa using he
    clear he
    go_wp2_with (go_at_call 100;refine (check_any a _ _ HA'.out).mono ?_;rintro e w' ⟨rfl,hb2⟩)
    go_ret
    exact ⟨ret_int (by have h0:chk a≠0:=(by simpa using he');rw [chkTwo,if_neg h0]),hbl.trans (hb2.mono hsz)⟩
   ·have he':(chk a != 0)=false:=by simpa using he
    clear he
    go_wp2_with (go_at_call 100;refine (check_any a _ _ HA'.out).mono ?_;rintro e w' ⟨rfl,hb2⟩)
    go_roundw
    case rel=>exact ⟨1,by omega,by go_num,hbl.trans (hb2.mono hsz),fun _=>(by simpa using he'),fun h=>by omega⟩
    case measure=>simp [intOf]
  ·have h0:Hid (chk a=0):=hz0.out (by omega)
   rcases he:decide (chk b=0) with _ | _
   ·have he':(chk b != 0)=true:=by simpa using he
    clear he
    go_wp2_with (go_at_call 100;refine (check_any b _ _ HB'.out).mono ?_;rintro e w' ⟨rfl,hb2⟩)
    go_ret
    exact ⟨ret_int (by rw [chkTwo,if_pos h0.out]),hbl.trans (hb2.mono hsz)⟩
   ·have he':(chk b != 0)=false:=by simpa using he
    clear he
    go_wp2_with (go_at_call 100;refine (check_any b _ _ HB'.out).mono ?_;rintro e w' ⟨rfl,hb2⟩)
    go_roundw
    case rel=>exact ⟨2,by omega,by go_num,hbl.trans (hb2.mono hsz),fun _=>h0.out,fun _=>(by simpa using he')⟩
    case measure=>simp [intOf]
  ·go_wp2_with fail
   go_ret
   exact ⟨ret_int (by rw [chkTwo,if_pos (hz0.out (by omega)),hz1.out (by omega)]),hbl⟩
set_option maxHeartbeats 400000 in
theorem join_bad (a b:List Svc) (va vb:Value) (pb cap:Nat) (w:World) (ha:Sl w va a) (hb:Sl w vb b) (hpb:pb < w.heap.size) (hc0:w.cell? ⟨pb,0,none⟩=some va) (hc1:w.cell? ⟨pb,1,none⟩=some vb) (hne:chkTwo a b≠0) :
 Calls Tryz.prog 167 #[.slice (some ⟨pb,0,none⟩) 2 cap] w fun e w'=>e=.returned (.tuple #[.slice none 0 0,.int .i64 (joinE a b)])∧Below w.heap.size w w':=by
 have he:(chkTwo a b != 0)=true:=by simpa using hne
 have HE:Hid (joinE a b=chkTwo a b):=if_neg hne
 have hcon:=checkAll_two a b va vb pb cap w ha hb hpb hc0 hc1
 have HC:Hid (Calls Tryz.prog 208 #[.slice (some ⟨pb,0,none⟩) 2 cap] w fun e w'=>e=.returned (.int .i64 (chkTwo a b))∧Below w.heap.size w w'):=hcon
 clear hcon ha hb hne
 go_enter Tryz.func167,Tryz.ntmps167
 go_wp2_with (go_at_call 208;refine HC.out.mono ?_;rintro e w' ⟨rfl,hb2⟩)
 go_ret2
 exact ⟨by rw [HE.out];rfl,hb2⟩
set_option maxHeartbeats 1600000 in
set_option maxRecDepth 100000 in
theorem join_good (a b:List Svc) (va vb:Value) (pb cap:Nat) (w:World) (ha:Sl w va a) (hb:Sl w vb b) (hpb:pb < w.heap.size) (hc0:w.cell? ⟨pb,0,none⟩=some va) (hc1:w.cell? ⟨pb,1,none⟩=some vb) (h0:chkTwo a b=0) :
 Calls Tryz.prog 167 #[.slice (some ⟨pb,0,none⟩) 2 cap] w fun e w'=>∃ v',e=.returned (.tuple #[v',.int .i64 (joinE a b)])∧Below w.heap.size w w' ∧
  (40 < (joinL a b).length→v'=.slice none 0 0)∧((joinL a b).length≤40→Own w.heap.size w' v' (joinL a b)):=by
 have he:(chkTwo a b != 0)=false:=by simpa using h0
 have hca:chk a=0:=by unfold chkTwo at h0;split at h0<;>assumption
 have hcb:chk b=0:=by unfold chkTwo at h0;rw [if_pos hca] at h0;exact h0
 have za:=chk_zero hca
 have zb:=chk_zero hcb
 have HE:Hid (joinE a b=if 40 < (joinL a b).length then 2 else 0):=if_pos h0
 have HC:Hid (Calls Tryz.prog 208 #[.slice (some ⟨pb,0,none⟩) 2 cap] w fun e w'=>e=.returned (.int .i64 (chkTwo a b))∧Below w.heap.size w w'):=checkAll_two a b va vb pb cap w ha hb hpb hc0 hc1
 have HJ:Hid (∀ w1,Below w.heap.size w w1→Calls Tryz.prog 209 #[.func (.func 147) #[] #[],.func (.func 210) #[] #[],.slice (some ⟨pb,0,none⟩) 2 cap] w1 fun e w'=>∃ v',e=.returned v'∧Own w1.heap.size w' v' (joinL a b)∧Below w1.heap.size w1 w'):=fun w1 hb1=>
  rjoin_two a b va vb pb cap w1 (ha.below hb1) (hb.below hb1) (Nat.lt_of_lt_of_le hpb hb1.size) ((bcell hb1).1 pb 0 hpb |>.trans hc0) ((bcell hb1).1 pb 1 hpb |>.trans hc1) za.1 zb.1 za.2.1
 have hl40:(joinL a b).length≤80:=by have h1:=joinL_len b a;have h2:=za.1;have h3:=zb.1;omega
 clear h0 hca hcb za zb ha hb hc0 hc1
 generalize joinL a b=jl at *
 generalize hgn:jl.length=n at *
 have HGN:Hid (jl.length=n):=hgn
 clear hgn
 go_enter Tryz.func167,Tryz.ntmps167
 go_wp2_with (go_at_call 208;refine HC.out.mono ?_;rintro e w1 ⟨rfl,hb1⟩)
 refine (HJ.out w1 hb1).mono ?_
 rintro e w2 ⟨v',rfl,ho,hb2⟩
 have hform:∃ p c,v'=.slice p n c:=by
  have hn:=HGN.out
  rcases ho.2 with ⟨h,h0⟩ | ⟨g,c,cur,h,_⟩
  ·exact ⟨none,0,by rw [h];congr 1;omega⟩
  ·exact ⟨_,c,by rw [h,hn]⟩
 obtain ⟨p,c,rfl⟩:=hform
 have HBx:Hid (Below w.heap.size w w2):=hb1.trans (hb2.mono hb1.size)
 have HO3:Hid (Own w.heap.size w2 (.slice p n c) jl):=ho.mono hb1.size
 clear ho hb1 hb2 HC HJ
 by_cases hlt:40 < n
 ·go_wp2_with fail
  go_ret2
  refine ⟨_,by rw [HE.out,if_pos hlt];rfl,HBx.out,fun _=>rfl,fun h=>by omega⟩
 ·go_wp2_with fail
  go_ret2
  refine ⟨.slice p n c,by rw [HE.out,if_neg hlt];rfl,HBx.out,fun h=>by omega,fun _=>HO3.out⟩
end Sv
namespace Sv
open Go.RowKit
theorem join_any (a b:List Svc) (va vb:Value) (pb cap:Nat) (w:World) (ha:Sl w va a) (hb:Sl w vb b) (hpb:pb < w.heap.size) (hc0:w.cell? ⟨pb,0,none⟩=some va) (hc1:w.cell? ⟨pb,1,none⟩=some vb) :
 Calls Tryz.prog 167 #[.slice (some ⟨pb,0,none⟩) 2 cap] w fun e w'=>∃ v',e=.returned (.tuple #[v',.int .i64 (joinE a b)])∧Below w.heap.size w w' ∧
  (joinE a b≠0→v'=.slice none 0 0)∧(joinE a b=0→Own w.heap.size w' v' (joinL a b)):=by
 by_cases h0:chkTwo a b=0
 ·refine (join_good a b va vb pb cap w ha hb hpb hc0 hc1 h0).mono ?_
  rintro e w' ⟨v',rfl,h1,h2,h3⟩
  have hE:joinE a b=if 40 < (joinL a b).length then 2 else 0:=if_pos h0
  refine ⟨v',rfl,h1,fun hne=>h2 ?_,fun hz=>h3 ?_⟩
  ·rw [hE] at hne;split at hne
   ·assumption
   ·exact absurd rfl hne
  ·rw [hE] at hz;split at hz
   ·cases hz
   ·omega
 ·refine (join_bad a b va vb pb cap w ha hb hpb hc0 hc1 h0).mono ?_
  rintro e w' ⟨rfl,h1⟩
  have hE:joinE a b=chkTwo a b:=if_neg h0
  exact ⟨_,rfl,h1,fun _=>rfl,fun hz=>absurd (hE▸hz) h0⟩
set_option maxHeartbeats 800000 in
theorem join2_any (a b:List Svc) (va vb:Value) (w:World) (ha:Sl w va a) (hb:Sl w vb b) :
 Calls Tryz.prog 123 #[va,vb] w fun e w'=>∃ v',e=.returned (.tuple #[v',.int .i64 (joinE a b)])∧Below w.heap.size w w' ∧
  (joinE a b≠0→v'=.slice none 0 0)∧(joinE a b=0→Own w.heap.size w' v' (joinL a b)):=by
 have HA:=ha
 have HB:=hb
 obtain ⟨pa,ca,rfl,_,_⟩:=ha
 obtain ⟨pv,cb,rfl,_,_⟩:=hb
 have hb0:Below w.heap.size w (w.alloc (.cells #[.slice pa a.length ca,.slice pv b.length cb] 24)):=(Below.refl _ _).alloc (Nat.le_refl _) _
 have HA':Hid (Sl (w.alloc (.cells #[.slice pa a.length ca,.slice pv b.length cb] 24)) (.slice pa a.length ca) a):=HA.below hb0
 have HB':Hid (Sl (w.alloc (.cells #[.slice pa a.length ca,.slice pv b.length cb] 24)) (.slice pv b.length cb) b):=HB.below hb0
 clear HA HB
 generalize a.length=na at *
 generalize b.length=nb at *
 go_enter Tryz.func123,Tryz.ntmps123
 go_wp2_with fail
 refine (join_any a b (.slice pa na ca) (.slice pv nb cb) w.heap.size 2 _ HA'.out HB'.out (by simp) (cellsAt (heap_alloc_new w _) 0) (cellsAt (heap_alloc_new w _) 1)).mono ?_
 rintro e w2 ⟨v',rfl,h1,h2,h3⟩
 have H2:Hid (joinE a b≠0→v'=.slice none 0 0):=h2
 have H3:Hid (joinE a b=0→Own (w.alloc (.cells #[.slice pa na ca,.slice pv nb cb] 24)).heap.size w2 v' (joinL a b)):=h3
 clear h2 h3
 go_wp2_with fail
 go_ret2
 exact ⟨v',rfl,hb0.trans (h1.mono (by simp)),H2.out,fun h=>(H3.out h).mono (by simp)⟩
theorem joinE_good {a b:List Svc} (h:chk a=0) (h2:chk b=0):joinE a b=if 40 < (joinL a b).length then 2 else 0:=by
 have:chkTwo a b=0:=(if_pos h).trans h2
 rw [joinE,if_pos this]
def sameM (x y:Svc):Bool:=x.node.toList == y.node.toList && (x.idn.toList == y.idn.toList && (x.name.toList == y.name.toList && (x.tag.toList == y.tag.toList && (x.addr == y.addr && (x.port == y.port && (x.passing == y.passing && (x.version == y.version && (x.gone == y.gone))))))))
theorem sameM_iff (x y:Svc):sameM x y=true↔x=y:=by
 obtain ⟨x_node,x_idn,x_name,x_tag,x_addr,x_port,x_passing,x_version,x_gone⟩:=x
 obtain ⟨y_node,y_idn,y_name,y_tag,y_addr,y_port,y_passing,y_version,y_gone⟩:=y
 simp only [sameM,Bool.and_eq_true,beq_iff_eq,Svc.mk.injEq,Lib.toList_data]
 constructor
 ·rintro ⟨h0,h1,h2,h3,h4,h5,h6,h7,h8⟩;exact ⟨ba_ext h0,ba_ext h1,ba_ext h2,ba_ext h3,h4,h5,h6,h7,h8⟩
 ·rintro ⟨h0,h1,h2,h3,h4,h5,h6,h7,h8⟩;exact ⟨by rw [h0],by rw [h1],by rw [h2],by rw [h3],h4,h5,h6,h7,h8⟩
theorem eqInE (m1 m2:Svc) (w:World):(Op.equalIn 10000 62 (.agg #[.string m1.node,.string m1.idn,.string m1.name,.string m1.tag,.int .i64 m1.addr,.int .i64 m1.port,.bool m1.passing,.int .i64 m1.version,.bool m1.gone]) (.agg #[.string m2.node,.string m2.idn,.string m2.name,.string m2.tag,.int .i64 m2.addr,.int .i64 m2.port,.bool m2.passing,.int .i64 m2.version,.bool m2.gone])).run Tryz.prog w=.ok (sameM m1 m2) w:=by
 have u3:=Tryz.underlying3
 have u9:=Tryz.underlying9
 have a3:=Tryz.isAgg3
 have z3:=Tryz.sizeOf3
 have a9:=Tryz.isAgg9
 have z9:=Tryz.sizeOf9
 have u4:=Tryz.underlying4
 have a4:=Tryz.isAgg4
 have z4:=Tryz.sizeOf4
 have hS:Tryz.prog.underlying 62=some (.struct (Tryz.prog.fieldsOf 62)):=by kernel_rfl
 have hp:Tryz.prog.stoodInHeld 62=false:=by kernel_rfl
 rw [show (10000:Nat)=9999+1 from rfl,run_equalIn_agg w 9999 62 _ _ hS hp]
 simp only [Program.fieldsOf,Tryz.underlying62]
 go_simp
 unfold sameM
 by_cases h0:m1.node.toList=m2.node.toList
 case neg=>simp [h0]
 by_cases h1:m1.idn.toList=m2.idn.toList
 case neg=>simp [h0,h1]
 by_cases h2:m1.name.toList=m2.name.toList
 case neg=>simp [h0,h1,h2]
 by_cases h3:m1.tag.toList=m2.tag.toList
 case neg=>simp [h0,h1,h2,h3]
 by_cases h4:m1.addr=m2.addr
 case neg=>simp [h0,h1,h2,h3,h4]
 by_cases h5:m1.port=m2.port
 case neg=>simp [h0,h1,h2,h3,h4,h5]
 by_cases h6:m1.passing=m2.passing
 case neg=>simp [h0,h1,h2,h3,h4,h5,h6]
 by_cases h7:m1.version=m2.version
 case neg=>simp [h0,h1,h2,h3,h4,h5,h6,h7]
 by_cases h8:m1.gone=m2.gone
 case neg=>simp [h0,h1,h2,h3,h4,h5,h6,h7,h8]
 simp [h0,h1,h2,h3,h4,h5,h6,h7,h8]
theorem neqE (m1 m2:Svc) (w:World):Sem.run Tryz.prog (binOp .neq 62 (.agg #[.string m1.node,.string m1.idn,.string m1.name,.string m1.tag,.int .i64 m1.addr,.int .i64 m1.port,.bool m1.passing,.int .i64 m1.version,.bool m1.gone]) (.agg #[.string m2.node,.string m2.idn,.string m2.name,.string m2.tag,.int .i64 m2.addr,.int .i64 m2.port,.bool m2.passing,.int .i64 m2.version,.bool m2.gone])) w=.ok (.bool (!sameM m1 m2)) w:=by
 rw [run_neq_struct,eqInE]
 rfl
set_option maxHeartbeats 800000 in
theorem same_any (a b:List Svc) (va vb:Value) (w:World) (ha:Sl w va a) (hb:Sl w vb b) (hsm:a.length≤1000) :
 Calls Tryz.prog 63 #[va,vb] w fun e w'=>∃ r:Bool,e=.returned (.bool r)∧(r=true↔a=b)∧Below w.heap.size w w':=by
 obtain ⟨pa,ca,rfl,_,ha⟩:=ha
 obtain ⟨pv,cb,rfl,_,hb⟩:=hb
 by_cases hl:a.length=b.length
 ·have HA:Hid (a=[]∨∃ b off,pa=some ⟨b,off,none⟩∧b < w.heap.size∧Row w b off a):=ha
  have HB:Hid (b=[]∨∃ b_1 off,pv=some ⟨b_1,off,none⟩∧b_1 < w.heap.size∧Row w b_1 off b):=hb
  have HL:Hid (a.length=b.length):=hl
  clear ha hb
  rw [← hl]
  clear hl
  generalize hna:a.length=n at *
  have HN:Hid (a.length=n):=hna
  clear hna
  have hg28:Tryz.prog.eqGuardType Tryz.prog.depth 62=false:=by kernel_rfl
  go_enter Tryz.func63,Tryz.ntmps63
  go_wp2_with fail
  go_loopw [5] (fun i w'=>∃ k:Nat,k≤n∧i=.int .i64 k∧Below w.heap.size w w'∧Hid (∀ j,j < k→a.getD j dm=b.getD j dm)) (fun i _=>n - (intOf i).toNat)
  case atStart=>exact ⟨0,Nat.zero_le _,rfl,Below.refl _ _,fun j h=>absurd h (Nat.not_lt_zero _)⟩
  case round=>
   obtain ⟨k,hk,rfl,hbl,hz⟩:=hrel
   obtain ⟨hbc,hbf⟩:=bcell hbl
   have hsz:=hbl.size
   by_cases hlt:k < n
   ·obtain ⟨b1,o1,hp1,hl1,hr1⟩:∃ b off,pa=some ⟨b,off,none⟩∧b < w.heap.size∧Row w b off a:=by
     rcases HA.out with h | h
     ·have:=HN.out;rw [h] at this;simp at this;omega
     ·exact h
    obtain ⟨b2,o2,hp2,hl2,hr2⟩:∃ b_1 off,pv=some ⟨b_1,off,none⟩∧b_1 < w.heap.size∧Row w b_1 off b:=by
     rcases HB.out with h | h
     ·have h2:=HN.out;have h3:=HL.out;rw [h] at h3;simp at h3;omega
     ·exact h
    subst hp1
    subst hp2
    obtain ⟨c0,c1,c2,c3,c4,c5,c6,c7,c8⟩:=hr1 k (by rw [HN.out];exact hlt)
    obtain ⟨d0,d1,d2,d3,d4,d5,d6,d7,d8⟩:=hr2 k (by have h2:=HN.out;have h3:=HL.out;omega)
    clear hr1 hr2
    have HF:Hid (a.getD k dm≠b.getD k dm→a≠b):=fun h e=>h (by rw [e])
    have HZ:Hid (a.getD k dm=b.getD k dm→∀ j,j < k+1→a.getD j dm=b.getD j dm):=fun h j hj=>by
     rcases Nat.lt_succ_iff_lt_or_eq.1 hj with h2 | rfl
     ·exact hz.out j h2
     ·exact h
    have hneq:=neqE (a.getD k dm) (b.getD k dm)
    generalize a.getD k dm=m1 at *
    generalize b.getD k dm=m2 at *
    rcases hs:sameM m1 m2 with _ | _
    ·rw [hs] at hneq
     have hne:Hid (a≠b):=HF.out (fun e=>by rw [← sameM_iff,hs] at e;cases e)
     go_wp2_with fail
     go_quiet (fail)
     go_wp2_with fail
     go_ret
     exact ⟨false,rfl,⟨fun h=>(by cases h),fun h=>absurd h hne.out⟩,below_drewN hbl _⟩
    ·rw [hs] at hneq
     have heq:Hid (m1=m2):=(sameM_iff m1 m2).1 hs
     go_wp2_with fail
     go_quiet (fail)
     go_wp2_with fail
     go_roundw
     case rel=>exact ⟨k+1,by omega,by go_num,below_drewN hbl _,HZ.out heq.out⟩
     case measure=>simp [intOf];omega
   ·have hfin:Hid (a=b):=by
     apply List.ext_getElem (HN.out.trans HL.out)
     intro j h1 h2
     have:=hz.out j (by have:=HN.out;omega)
     simpa [List.getD,List.getElem?_eq_getElem h1,List.getElem?_eq_getElem h2] using this
    go_wp2_with fail
    go_ret
    exact ⟨true,rfl,⟨fun _=>hfin.out,fun _=>rfl⟩,hbl⟩
 ·have hne:((a.length:Int) != (b.length:Int))=true:=by rw [bne_iff_ne];omega
  have HF:Hid (a≠b):=fun e=>hl (by rw [e])
  clear ha hb
  go_enter Tryz.func63,Tryz.ntmps63
  go_wp2_with fail
  go_ret
  exact ⟨false,rfl,⟨fun h=>(by cases h),fun h=>absurd h HF.out⟩,Below.refl _ _⟩
section
open Go.ChangeShapes Go.WideShapes Go.ChangeAt
variable {H:Type} {enc:TypeId × Value→H} {w:World} {base:Nat} {spare:Nat→Bool} {held:Bool}
end
end Sv
namespace Sv
open Go.RowKit
end Sv
end Go.Proofs.YtikgjgmgbfjcgaaGreat
