import Derived.Test.YtffdoiokmiklgaaGreatDoorX32
namespace Go.Proofs.YtffdoiokmiklgaaGreatDoor
namespace Sv
open Go.RowKit
theorem e_if (m:Svc):m.e=if labB m.node=true then (if labB m.idn=true then (if labB m.name=true then (if tagB m.tag=true then (if within m.addr 0 4294967295=true then (if within m.port 0 65535=true then (if within m.version 1 1000000=true then 0 else 3) else 3) else 3) else 1) else 1) else 1) else 1:=by
 unfold Svc.e
 cases labB m.node<;>cases labB m.idn<;>cases labB m.name<;>cases tagB m.tag<;>cases within m.addr 0 4294967295<;>cases within m.port 0 65535<;>cases within m.version 1 1000000<;>rfl
set_option maxHeartbeats 3200000 in
theorem refOne_any (m:Svc) (w:World) (hm:m.ok) :
 Calls Tryz.prog 80 #[.agg #[.string m.node,.string m.idn,.string m.name,.string m.tag,.int .i64 m.addr,.int .i64 m.port,.bool m.passing,.int .i64 m.version,.bool m.gone]] w fun e w'=>e=.returned (.int .i64 m.e)∧Below w.heap.size w w':=by
 obtain ⟨hs1,hs2,hs3,hs4⟩:=hm
 have hB:Hid (Below w.heap.size w (w.alloc (.cells #[.string m.node,.string m.idn,.string m.name,.string m.tag,.int .i64 m.addr,.int .i64 m.port,.bool m.passing,.int .i64 m.version,.bool m.gone] 42))):=(Below.refl _ _).alloc (Nat.le_refl _) _
 have HD:Hid (m.e=_):=e_if m
 have hsA:Hid (∀ s:ByteArray,(s=m.node∨s=m.idn∨s=m.name∨s=m.tag)→s.size≤maxLen):=by rintro s (rfl | rfl | rfl | rfl)<;>assumption
 clear hs1 hs2 hs3 hs4
 rcases h1:labB m.node with _ | _
 ·go_enter Tryz.func80,Tryz.ntmps80
  go_wp2_with (go_at_call 41;refine (isLabel_any _ _ (hsA.out _ (by simp))).mono ?_;rintro e w' ⟨rfl,rfl⟩;first | rw [h1])
  go_ret
  exact ⟨ret_int (by rw [HD.out];simp [h1]),hB.out⟩
 ·rcases h2:labB m.idn with _ | _
  ·go_enter Tryz.func80,Tryz.ntmps80
   go_wp2_with (go_at_call 41;refine (isLabel_any _ _ (hsA.out _ (by simp))).mono ?_;rintro e w' ⟨rfl,rfl⟩;first | rw [h1] | rw [h2])
   go_ret
   exact ⟨ret_int (by rw [HD.out];simp [h1,h2]),hB.out⟩
  ·rcases h3:labB m.name with _ | _
   ·go_enter Tryz.func80,Tryz.ntmps80
    go_wp2_with (go_at_call 41;refine (isLabel_any _ _ (hsA.out _ (by simp))).mono ?_;rintro e w' ⟨rfl,rfl⟩;first | rw [h1] | rw [h2] | rw [h3])
    go_ret
    exact ⟨ret_int (by rw [HD.out];simp [h1,h2,h3]),hB.out⟩
   ·by_cases ht:m.tag=ByteArray.empty
    ·have ht1:m.tag.toList=[]:=by rw [ht,Lib.toList_data];rfl
     have ht2:(m.tag.toList == [])=true:=by rw [ht1];rfl
     have htt:tagB m.tag=true:=by simp [tagB,ht]
     clear ht
     rcases h5:within m.addr 0 4294967295 with _ | _
     ·go_enter Tryz.func80,Tryz.ntmps80
      go_wp2_with (first | (go_at_call 41;refine (isLabel_any _ _ (hsA.out _ (by simp))).mono ?_;rintro e w' ⟨rfl,rfl⟩;first | rw [h1] | rw [h2] | rw [h3]) | (go_at_call 82;refine (isAddress_any _ _).mono ?_;rintro e w' ⟨rfl,rfl⟩;rw [h5]))
      go_ret
      exact ⟨ret_int (by rw [HD.out];simp [h1,h2,h3,htt,h5]),hB.out⟩
     ·rcases h6:within m.port 0 65535 with _ | _
      ·go_enter Tryz.func80,Tryz.ntmps80
       go_wp2_with (first | (go_at_call 41;refine (isLabel_any _ _ (hsA.out _ (by simp))).mono ?_;rintro e w' ⟨rfl,rfl⟩;first | rw [h1] | rw [h2] | rw [h3]) | (go_at_call 82;refine (isAddress_any _ _).mono ?_;rintro e w' ⟨rfl,rfl⟩;rw [h5]) | (go_at_call 22;refine (between_any _ _ _ _).mono ?_;rintro e w' ⟨rfl,rfl⟩;first | rw [h6]))
       go_ret
       exact ⟨ret_int (by rw [HD.out];simp [h1,h2,h3,htt,h5,h6]),hB.out⟩
      ·rcases h7:within m.version 1 1000000 with _ | _
       ·go_enter Tryz.func80,Tryz.ntmps80
        go_wp2_with (first | (go_at_call 41;refine (isLabel_any _ _ (hsA.out _ (by simp))).mono ?_;rintro e w' ⟨rfl,rfl⟩;first | rw [h1] | rw [h2] | rw [h3]) | (go_at_call 82;refine (isAddress_any _ _).mono ?_;rintro e w' ⟨rfl,rfl⟩;rw [h5]) | (go_at_call 22;refine (between_any _ _ _ _).mono ?_;rintro e w' ⟨rfl,rfl⟩;first | rw [h6] | rw [h7]))
        go_ret
        exact ⟨ret_int (by rw [HD.out];simp [h1,h2,h3,htt,h5,h6,h7]),hB.out⟩
       ·go_enter Tryz.func80,Tryz.ntmps80
        go_wp2_with (first | (go_at_call 41;refine (isLabel_any _ _ (hsA.out _ (by simp))).mono ?_;rintro e w' ⟨rfl,rfl⟩;first | rw [h1] | rw [h2] | rw [h3]) | (go_at_call 82;refine (isAddress_any _ _).mono ?_;rintro e w' ⟨rfl,rfl⟩;rw [h5]) | (go_at_call 22;refine (between_any _ _ _ _).mono ?_;rintro e w' ⟨rfl,rfl⟩;first | rw [h6] | rw [h7]))
        go_ret
        exact ⟨ret_int (by rw [HD.out];simp [h1,h2,h3,htt,h5,h6,h7]),hB.out⟩
    ·have ht1:¬ m.tag.toList=[]:=fun e=>(beq_name ht).2 (by rw [e,Lib.toList_data];rfl)
     have ht2:(m.tag.toList == [])=false:=by simpa using ht1
     have HTT:Hid (tagB m.tag=labB m.tag):=(show tagB m.tag=labB m.tag by simp [tagB,ht])
     clear ht
     rcases h4:labB m.tag with _ | _
     ·have htt:tagB m.tag=false:=HTT.out.trans h4
      go_enter Tryz.func80,Tryz.ntmps80
      go_wp2_with (go_at_call 41;refine (isLabel_any _ _ (hsA.out _ (by simp))).mono ?_;rintro e w' ⟨rfl,rfl⟩;first | rw [h1] | rw [h2] | rw [h3] | rw [h4])
      go_ret
      exact ⟨ret_int (by rw [HD.out];simp [h1,h2,h3,htt]),hB.out⟩
     ·have htt:tagB m.tag=true:=HTT.out.trans h4
      rcases h5:within m.addr 0 4294967295 with _ | _
      ·go_enter Tryz.func80,Tryz.ntmps80
       go_wp2_with (first | (go_at_call 41;refine (isLabel_any _ _ (hsA.out _ (by simp))).mono ?_;rintro e w' ⟨rfl,rfl⟩;first | rw [h1] | rw [h2] | rw [h3] | rw [h4]) | (go_at_call 82;refine (isAddress_any _ _).mono ?_;rintro e w' ⟨rfl,rfl⟩;rw [h5]))
       go_ret
       exact ⟨ret_int (by rw [HD.out];simp [h1,h2,h3,htt,h5]),hB.out⟩
      ·rcases h6:within m.port 0 65535 with _ | _
       ·go_enter Tryz.func80,Tryz.ntmps80
        go_wp2_with (first | (go_at_call 41;refine (isLabel_any _ _ (hsA.out _ (by simp))).mono ?_;rintro e w' ⟨rfl,rfl⟩;first | rw [h1] | rw [h2] | rw [h3] | rw [h4]) | (go_at_call 82;refine (isAddress_any _ _).mono ?_;rintro e w' ⟨rfl,rfl⟩;rw [h5]) | (go_at_call 22;refine (between_any _ _ _ _).mono ?_;rintro e w' ⟨rfl,rfl⟩;first | rw [h6]))
        go_ret
        exact ⟨ret_int (by rw [HD.out];simp [h1,h2,h3,htt,h5,h6]),hB.out⟩
       ·rcases h7:within m.version 1 1000000 with _ | _
        ·go_enter Tryz.func80,Tryz.ntmps80
         go_wp2_with (first | (go_at_call 41;refine (isLabel_any _ _ (hsA.out _ (by simp))).mono ?_;rintro e w' ⟨rfl,rfl⟩;first | rw [h1] | rw [h2] | rw [h3] | rw [h4]) | (go_at_call 82;refine (isAddress_any _ _).mono ?_;rintro e w' ⟨rfl,rfl⟩;rw [h5]) | (go_at_call 22;refine (between_any _ _ _ _).mono ?_;rintro e w' ⟨rfl,rfl⟩;first | rw [h6] | rw [h7]))
         go_ret
         exact ⟨ret_int (by rw [HD.out];simp [h1,h2,h3,htt,h5,h6,h7]),hB.out⟩
        ·go_enter Tryz.func80,Tryz.ntmps80
         go_wp2_with (first | (go_at_call 41;refine (isLabel_any _ _ (hsA.out _ (by simp))).mono ?_;rintro e w' ⟨rfl,rfl⟩;first | rw [h1] | rw [h2] | rw [h3] | rw [h4]) | (go_at_call 82;refine (isAddress_any _ _).mono ?_;rintro e w' ⟨rfl,rfl⟩;rw [h5]) | (go_at_call 22;refine (between_any _ _ _ _).mono ?_;rintro e w' ⟨rfl,rfl⟩;first | rw [h6] | rw [h7]))
         go_ret
         exact ⟨ret_int (by rw [HD.out];simp [h1,h2,h3,htt,h5,h6,h7]),hB.out⟩
end Sv
namespace Sv
open Go.RowKit
theorem ord_lt (a b:Svc):decide (ord a b < 0)=(less a.node b.node || (a.node.toList == b.node.toList && less a.idn b.idn)):=by
 have hd:ord a b=if cmpI a.node b.node=0 then cmpI a.idn b.idn else cmpI a.node b.node:=rfl
 rw [hd]
 by_cases he:a.node=b.node
 ·have h0:cmpI a.node b.node=0:=(cmpI_eq _ _).2 he
  rw [if_pos h0,he,less_irrefl,Bool.eq_iff_iff,decide_eq_true_eq,cmpI_lt]
  simp
 ·have h0:¬ cmpI a.node b.node=0:=fun h=>he ((cmpI_eq _ _).1 h)
  rw [if_neg h0,(beq_name he).1,Bool.false_and,Bool.or_false,Bool.eq_iff_iff,decide_eq_true_eq,cmpI_lt]
set_option maxHeartbeats 1600000 in
theorem ahead_any (a b:Svc) (w:World) :
 Calls Tryz.prog 81 #[.agg #[.string a.node,.string a.idn,.string a.name,.string a.tag,.int .i64 a.addr,.int .i64 a.port,.bool a.passing,.int .i64 a.version,.bool a.gone],.agg #[.string b.node,.string b.idn,.string b.name,.string b.tag,.int .i64 b.addr,.int .i64 b.port,.bool b.passing,.int .i64 b.version,.bool b.gone]] w fun e w'=>e=.returned (.bool (decide (ord a b < 0)))∧Below w.heap.size w w':=by
 have hB:Hid (Below w.heap.size w ((w.alloc (.cells #[.string a.node,.string a.idn,.string a.name,.string a.tag,.int .i64 a.addr,.int .i64 a.port,.bool a.passing,.int .i64 a.version,.bool a.gone] 42)).alloc (.cells #[.string b.node,.string b.idn,.string b.name,.string b.tag,.int .i64 b.addr,.int .i64 b.port,.bool b.passing,.int .i64 b.version,.bool b.gone] 42))):=((Below.refl _ _).alloc (Nat.le_refl _) _).alloc (by simp) _
 have HD:Hid (decide (ord a b < 0)=(less a.node b.node || (a.node.toList == b.node.toList && less a.idn b.idn))):=ord_lt a b
 generalize decide (ord a b < 0)=res at *
 rcases h1:Op.bytesLess a.node.toList b.node.toList with _ | _
 ·rcases h2:(a.node.toList == b.node.toList) with _ | _
  ·have h3:¬ a.node.toList=b.node.toList:=by simpa using h2
   have HR:Hid (res=false):=(show res=false by rw [HD.out,h2];simp [less,h1])
   go_enter Tryz.func81,Tryz.ntmps81
   go_wp2
   go_ret
   exact ⟨ret_bool HR.out.symm,hB.out⟩
  ·have h3:a.node.toList=b.node.toList:=by simpa using h2
   have HR:Hid (res=Op.bytesLess a.idn.toList b.idn.toList):=(show res=_ by rw [HD.out,h2];simp [less,h1])
   rw [h3] at h1
   go_enter Tryz.func81,Tryz.ntmps81
   go_wp2
   go_ret
   exact ⟨ret_bool HR.out.symm,hB.out⟩
 ·have HR:Hid (res=true):=(show res=true by rw [HD.out];simp [less,h1])
  go_enter Tryz.func81,Tryz.ntmps81
  go_wp2
  go_ret
  exact ⟨ret_bool HR.out.symm,hB.out⟩
set_option maxHeartbeats 1600000 in
set_option maxRecDepth 100000 in
theorem refCheck_row (ms:List Svc) (b off cap:Nat) (w:World) (hr:Row w b off ms) (hb:b < w.heap.size) (hn:ms.length≤40) (hs:∀ j,(ms.getD j dm).ok) :
 Calls Tryz.prog 44 #[.slice (some ⟨b,off,none⟩) ms.length cap] w fun e w'=>e=.returned (.int .i64 (chk ms))∧Below w.heap.size w w':=by
 have HR:Hid (Row w b off ms):=hr
 clear hr
 have HE:Hid (∀ k,k < ms.length→(∀ j,j < k→(ms.getD j dm).e=0)→(ms.getD k dm).e≠0→chk ms=(ms.getD k dm).e):=fun k h1 h2 h3=>chk_e ms k hn h1 h2 h3
 have H4:Hid ((∀ j,j < ms.length→(ms.getD j dm).e=0)→∀ k,k+1 < ms.length→0≤ord (ms.getD k dm) (ms.getD (k+1) dm)→chk ms=4):=fun h1 k h2 h3=>chk_4 ms k hn h1 h2 (by omega)
 have H0:Hid ((∀ j,j < ms.length→(ms.getD j dm).e=0)→(∀ j,j+1 < ms.length→ord (ms.getD j dm) (ms.getD (j+1) dm) < 0)→chk ms=0):=fun h1 h2=>chk_0 ms hn h1 h2
 generalize hN:ms.length=n at *
 have HN:Hid (ms.length=n):=hN
 clear hN
 have HS:Hid (∀ j,(ms.getD j dm).ok):=hs
 clear hs
 generalize hC:chk ms=res at *
 clear hC
 go_enter Tryz.func44,Tryz.ntmps44
 go_wp2_with fail
 go_loopw [3] (fun i w'=>∃ k:Nat,k≤n∧i=.int .i64 k∧Below w.heap.size w w'∧Hid (∀ j,j < k→(ms.getD j dm).e=0)) (fun i _=>n - (intOf i).toNat)
 case atStart=>exact ⟨0,Nat.zero_le _,rfl,Below.refl _ _,fun j h=>absurd h (Nat.not_lt_zero _)⟩
 case round=>
  obtain ⟨k,hk,rfl,hbl,hz⟩:=hrel
  obtain ⟨hbc,hbf⟩:=bcell hbl
  have hsz:=hbl.size
  by_cases hlt:k < n
  ·obtain ⟨c0,c1,c2,c3,c4,c5,c6,c7,c8⟩:=HR.out k (by rw [HN.out];exact hlt)
   have HSK:Hid ((ms.getD k dm).ok):=HS.out k
   have HK:Hid ((ms.getD k dm).e≠0→res=(ms.getD k dm).e):=fun h=>HE.out k hlt hz.out h
   have HZ:Hid ((ms.getD k dm).e=0→∀ j,j < k+1→(ms.getD j dm).e=0):=fun h j hj=>by
    rcases Nat.lt_succ_iff_lt_or_eq.1 hj with h2 | rfl
    ·exact hz.out j h2
    ·exact h
   generalize ms.getD k dm=m at *
   have HO:Hid (∀ w,Calls Tryz.prog 80 #[.agg #[.string m.node,.string m.idn,.string m.name,.string m.tag,.int .i64 m.addr,.int .i64 m.port,.bool m.passing,.int .i64 m.version,.bool m.gone]] w fun e w'=>e=.returned (.int .i64 m.e)∧Below w.heap.size w w'):=fun w=>refOne_any m w HSK.out
   generalize m.e=me at *
   rcases he:decide (me=0) with _ | _
   ·have he':(me != 0)=true:=by simpa using he
    clear he
    go_wp2_with (go_at_call 80;refine (HO.out _).mono ?_;rintro e w' ⟨rfl,hb2⟩)
    go_ret
    have hne:me≠0:=by simpa using he'
    have hres:res=me:=HK.out hne
    exact ⟨ret_int hres.symm,hbl.trans (hb2.mono hsz)⟩
   ·have he':(me != 0)=false:=by simpa using he
    clear he
    go_wp2_with (go_at_call 80;refine (HO.out _).mono ?_;rintro e w' ⟨rfl,hb2⟩)
    go_roundw
    case rel=>
     have he0:me=0:=by simpa using he'
     exact ⟨k+1,by omega,by go_num,hbl.trans (hb2.mono hsz),HZ.out he0⟩
    case measure=>simp [intOf];omega
  ·have hall:Hid (∀ j,j < n→(ms.getD j dm).e=0):=fun j hj=>hz.out j (by omega)
   clear hz
   go_wp2_with fail
   go_loopw [5] (fun i w'=>∃ k:Nat,(k+1≤n∨k=0)∧i=.int .i64 (k+1)∧Below w.heap.size w w'∧Hid (∀ j,j < k→ord (ms.getD j dm) (ms.getD (j+1) dm) < 0)) (fun i _=>n - (intOf i).toNat)
   case atStart=>exact ⟨0,.inr rfl,rfl,hbl,fun j h=>absurd h (Nat.not_lt_zero _)⟩
   case round=>
    clear hbc hbf hsz hbl
    obtain ⟨q,hq,rfl,hbl,hz⟩:=hrel
    obtain ⟨hbc,hbf⟩:=bcell hbl
    have hsz:=hbl.size
    by_cases hlt:q+1 < n
    ·obtain ⟨c0,c1,c2,c3,c4,c5,c6,c7,c8⟩:=HR.out q (by rw [HN.out];omega)
     obtain ⟨d0,d1,d2,d3,d4,d5,d6,d7,d8⟩:=HR.out (q+1) (by rw [HN.out];exact hlt)
     have HK:Hid (0≤ord (ms.getD q dm) (ms.getD (q+1) dm)→res=4):=fun h=>H4.out hall.out q hlt h
     have HZ:Hid (ord (ms.getD q dm) (ms.getD (q+1) dm) < 0→∀ j,j < q+1→ord (ms.getD j dm) (ms.getD (j+1) dm) < 0):=fun h j hj=>by
      rcases Nat.lt_succ_iff_lt_or_eq.1 hj with h2 | rfl
      ·exact hz.out j h2
      ·exact h
     generalize ms.getD q dm=m1 at *
     generalize ms.getD (q+1) dm=m2 at *
     have hN:∀ d os,Calls Tryz.prog 81 #[.agg #[.string m1.node,.string m1.idn,.string m1.name,.string m1.tag,.int .i64 m1.addr,.int .i64 m1.port,.bool m1.passing,.int .i64 m1.version,.bool m1.gone],.agg #[.string m2.node,.string m2.idn,.string m2.name,.string m2.tag,.int .i64 m2.addr,.int .i64 m2.port,.bool m2.passing,.int .i64 m2.version,.bool m2.gone]] (Go.Sort.grow (redrawn wr d) os) fun e w''=>e=.returned (.bool (decide (ord m1 m2 < 0)))∧∃ p:Regrown,w''=Go.Sort.grow (redrawn wr p.d) p.os:=fun d os=>Calls.regrown_of (ahead_any m1 m2 _)
     have F0:∀ d os,(Go.Sort.grow (redrawn wr d) os).cell? ⟨b,off+q * 9,none⟩=some (.string m1.node):=cell_regrown ((hbc _ _ hb).trans c0)
     have F1:∀ d os,(Go.Sort.grow (redrawn wr d) os).cell? ⟨b,off+q * 9+1,none⟩=some (.string m1.idn):=cell_regrown ((hbc _ _ hb).trans c1)
     have F2:∀ d os,(Go.Sort.grow (redrawn wr d) os).cell? ⟨b,off+q * 9+2,none⟩=some (.string m1.name):=cell_regrown ((hbc _ _ hb).trans c2)
     have F3:∀ d os,(Go.Sort.grow (redrawn wr d) os).cell? ⟨b,off+q * 9+3,none⟩=some (.string m1.tag):=cell_regrown ((hbc _ _ hb).trans c3)
     have F4:∀ d os,(Go.Sort.grow (redrawn wr d) os).cell? ⟨b,off+q * 9+4,none⟩=some (.int .i64 m1.addr):=cell_regrown ((hbc _ _ hb).trans c4)
     have F5:∀ d os,(Go.Sort.grow (redrawn wr d) os).cell? ⟨b,off+q * 9+5,none⟩=some (.int .i64 m1.port):=cell_regrown ((hbc _ _ hb).trans c5)
     have F6:∀ d os,(Go.Sort.grow (redrawn wr d) os).cell? ⟨b,off+q * 9+6,none⟩=some (.bool m1.passing):=cell_regrown ((hbc _ _ hb).trans c6)
     have F7:∀ d os,(Go.Sort.grow (redrawn wr d) os).cell? ⟨b,off+q * 9+7,none⟩=some (.int .i64 m1.version):=cell_regrown ((hbc _ _ hb).trans c7)
     have F8:∀ d os,(Go.Sort.grow (redrawn wr d) os).cell? ⟨b,off+q * 9+8,none⟩=some (.bool m1.gone):=cell_regrown ((hbc _ _ hb).trans c8)
     have G0:∀ d os,(Go.Sort.grow (redrawn wr d) os).cell? ⟨b,off+(q+1) * 9,none⟩=some (.string m2.node):=cell_regrown ((hbc _ _ hb).trans d0)
     have G1:∀ d os,(Go.Sort.grow (redrawn wr d) os).cell? ⟨b,off+(q+1) * 9+1,none⟩=some (.string m2.idn):=cell_regrown ((hbc _ _ hb).trans d1)
     have G2:∀ d os,(Go.Sort.grow (redrawn wr d) os).cell? ⟨b,off+(q+1) * 9+2,none⟩=some (.string m2.name):=cell_regrown ((hbc _ _ hb).trans d2)
     have G3:∀ d os,(Go.Sort.grow (redrawn wr d) os).cell? ⟨b,off+(q+1) * 9+3,none⟩=some (.string m2.tag):=cell_regrown ((hbc _ _ hb).trans d3)
     have G4:∀ d os,(Go.Sort.grow (redrawn wr d) os).cell? ⟨b,off+(q+1) * 9+4,none⟩=some (.int .i64 m2.addr):=cell_regrown ((hbc _ _ hb).trans d4)
     have G5:∀ d os,(Go.Sort.grow (redrawn wr d) os).cell? ⟨b,off+(q+1) * 9+5,none⟩=some (.int .i64 m2.port):=cell_regrown ((hbc _ _ hb).trans d5)
     have G6:∀ d os,(Go.Sort.grow (redrawn wr d) os).cell? ⟨b,off+(q+1) * 9+6,none⟩=some (.bool m2.passing):=cell_regrown ((hbc _ _ hb).trans d6)
     have G7:∀ d os,(Go.Sort.grow (redrawn wr d) os).cell? ⟨b,off+(q+1) * 9+7,none⟩=some (.int .i64 m2.version):=cell_regrown ((hbc _ _ hb).trans d7)
     have G8:∀ d os,(Go.Sort.grow (redrawn wr d) os).cell? ⟨b,off+(q+1) * 9+8,none⟩=some (.bool m2.gone):=cell_regrown ((hbc _ _ hb).trans d8)
     clear c0 c1 c2 c3 c4 c5 c6 c7 c8 d0 d1 d2 d3 d4 d5 d6 d7 d8 hbc hbf
     have hwq:IntKind.i64.wrap (q:Int)=(q:Int):=by rw [IntKind.wrap_i64];omega
     have hqn:q < n:=by omega
     have hq1:(q:Int)+1 < (n:Int):=by omega
     have hq0:(0:Int)≤(q:Int)+1:=by omega
     have htn:((q:Int)+1).toNat=q+1:=by omega
     rcases hl:decide (ord m1 m2 < 0) with _ | _
     ·have h4:Hid (res=4):=HK.out (by simpa using hl)
      rw [hl] at hN
      clear hl
      go_wp2_with fail
      refine wp_region_quiet_below (by kernel_rfl) (by kernel_rfl) ?_
      repeat (quiet_step (exact hN _ _))
      refine wpQuiet_nil ?_
      intro _ hw'
      obtain ⟨⟨dq,osq⟩,hw''⟩:=hw'
      subst hw''
      have HBQ:Hid (Below wr.heap.size wr (Go.Sort.grow (redrawn wr dq) osq)):=below_regrown wr dq osq
      clear hN F0 F1 F2 F3 F4 F5 F6 F7 F8 G0 G1 G2 G3 G4 G5 G6 G7 G8
      go_wp2_with fail
      go_ret
      exact ⟨ret_int h4.out.symm,hbl.trans (HBQ.out.mono hsz)⟩
     ·have HL:Hid (ord m1 m2 < 0):=(show ord m1 m2 < 0 by simpa using hl)
      rw [hl] at hN
      clear hl
      go_wp2_with fail
      refine wp_region_quiet_below (by kernel_rfl) (by kernel_rfl) ?_
      repeat (quiet_step (exact hN _ _))
      refine wpQuiet_nil ?_
      intro _ hw'
      obtain ⟨⟨dq,osq⟩,hw''⟩:=hw'
      subst hw''
      have HBQ:Hid (Below wr.heap.size wr (Go.Sort.grow (redrawn wr dq) osq)):=below_regrown wr dq osq
      clear hN F0 F1 F2 F3 F4 F5 F6 F7 F8 G0 G1 G2 G3 G4 G5 G6 G7 G8
      go_wp2_with fail
      go_roundw
      case rel=>exact ⟨q+1,.inl (by omega),by go_num,hbl.trans (HBQ.out.mono hsz),HZ.out HL.out⟩
      case measure=>simp [intOf];omega
    ·have h0:Hid (res=0):=H0.out hall.out fun j hj=>hz.out j (by omega)
     go_wp2_with fail
     go_ret
     exact ⟨ret_int h0.out.symm,hbl⟩
set_option maxHeartbeats 400000 in
theorem refCheck_many (a:Option Addr) (n cap:Nat) (w:World) (hn:40 < n) :
 Calls Tryz.prog 44 #[.slice a n cap] w fun e w'=>e=.returned (.int .i64 2)∧w'=w:=by
 go_enter Tryz.func44,Tryz.ntmps44
 go_wp2_with fail
 go_ret
 exact ⟨rfl,rfl⟩
set_option maxHeartbeats 400000 in
theorem refCheck_none (a:Option Addr) (cap:Nat) (w:World) :
 Calls Tryz.prog 44 #[.slice a 0 cap] w fun e w'=>e=.returned (.int .i64 0)∧w'=w:=by
 go_enter Tryz.func44,Tryz.ntmps44
 go_wp2_with fail
 go_loop [3] (fun i=>i=.int .i64 0) (fun _=>0)
 case atStart=>rfl
 case round=>
  subst hrel
  go_wp2_with fail
  go_loop [5] (fun i=>i=.int .i64 1) (fun _=>0)
  case atStart=>rfl
  case round=>
   subst hrel
   go_wp2_with fail
   go_ret
   exact ⟨rfl,rfl⟩
theorem refCheck_any (ms:List Svc) (v:Value) (w:World) (h:Sl w v ms) :
 Calls Tryz.prog 44 #[v] w fun e w'=>e=.returned (.int .i64 (chk ms))∧Below w.heap.size w w':=by
 obtain ⟨a,cap,rfl,hs,h⟩:=h
 by_cases hn:40 < ms.length
 ·refine (refCheck_many a ms.length cap w hn).mono ?_
  rintro e w' ⟨rfl,rfl⟩
  exact ⟨ret_int (by rw [chk,if_pos hn]),Below.refl _ _⟩
 ·rcases h with rfl | ⟨b,off,rfl,hb,hr⟩
  ·refine (refCheck_none a cap w).mono ?_
   rintro e w' ⟨rfl,rfl⟩
   exact ⟨rfl,Below.refl _ _⟩
  ·exact refCheck_row ms b off cap w hr hb (by omega) hs
end Sv
end Go.Proofs.YtffdoiokmiklgaaGreatDoor
