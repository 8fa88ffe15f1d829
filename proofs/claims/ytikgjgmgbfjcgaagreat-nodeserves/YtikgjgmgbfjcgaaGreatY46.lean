import Derived.Test.YtikgjgmgbfjcgaaGreatY42
import Derived.Test.YtikgjgmgbfjcgaaGreatY33
namespace Go.Proofs.YtikgjgmgbfjcgaaGreat
namespace Sv
open Go.RowKit
theorem ord_lt (a b:Svc):decide (ord a b < 0)=(less a.node b.node || (a.node.toList == b.node.toList && less a.idn b.idn)):=by
 have hd:ord a b=if cmpI a.node b.node=0 then cmpI a.idn b.idn else cmpI a.node b.node:=rfl
 rw [hd]
 by_cases he:a.node=b.node
 ·have h0:cmpI a.node b.node=0:=(cmpI_eq _ _).2 he
  rw [if_pos h0,he,less_irrefl,Bool.eq_iff_iff,decide_eq_true_eq,cmpI_lt]
  simp
 ·have h0:¬ cmpI a.node b.node=0:=fun h=>he ((cmpI_eq _ _).1 h)
  rw [if_neg h0,(beq_name he).1,Bool.false_and,Bool.or_false,Bool.eq_iff_iff,decide_eq_true_eq,cmpI_lt]
set_option maxHeartbeats 1600000 in
theorem ahead_any (a b:Svc) (w:World) :
 Calls Tryz.prog 109 #[.agg #[.string a.node,.string a.idn,.string a.name,.string a.tag,.int .i64 a.addr,.int .i64 a.port,.bool a.passing,.int .i64 a.version,.bool a.gone],.agg #[.string b.node,.string b.idn,.string b.name,.string b.tag,.int .i64 b.addr,.int .i64 b.port,.bool b.passing,.int .i64 b.version,.bool b.gone]] w fun e w'=>e=.returned (.bool (decide (ord a b < 0)))∧Below w.heap.size w w':=by
 have hB:Hid (Below w.heap.size w ((w.alloc (.cells #[.string a.node,.string a.idn,.string a.name,.string a.tag,.int .i64 a.addr,.int .i64 a.port,.bool a.passing,.int .i64 a.version,.bool a.gone] 62)).alloc (.cells #[.string b.node,.string b.idn,.string b.name,.string b.tag,.int .i64 b.addr,.int .i64 b.port,.bool b.passing,.int .i64 b.version,.bool b.gone] 62))):=((Below.refl _ _).alloc (Nat.le_refl _) _).alloc (by simp) _
 have HD:Hid (decide (ord a b < 0)=(less a.node b.node || (a.node.toList == b.node.toList && less a.idn b.idn))):=ord_lt a b
 generalize decide (ord a b < 0)=res at *
 rcases h1:Op.bytesLess a.node.toList b.node.toList with _ | _
 ·rcases h2:(a.node.toList == b.node.toList) with _ | _
  ·have h3:¬ a.node.toList=b.node.toList:=by simpa using h2
   have HR:Hid (res=false):=(show res=false by rw [HD.out,h2];simp [less,h1])
   go_enter Tryz.func109,Tryz.ntmps109
   go_wp2
   go_ret
   exact ⟨ret_bool HR.out.symm,hB.out⟩
  ·have h3:a.node.toList=b.node.toList:=by simpa using h2
   have HR:Hid (res=Op.bytesLess a.idn.toList b.idn.toList):=(show res=_ by rw [HD.out,h2];simp [less,h1])
   rw [h3] at h1
   go_enter Tryz.func109,Tryz.ntmps109
   go_wp2
   go_ret
   exact ⟨ret_bool HR.out.symm,hB.out⟩
 ·have HR:Hid (res=true):=(show res=true by rw [HD.out];simp [less,h1])
  go_enter Tryz.func109,Tryz.ntmps109
  go_wp2
  go_ret
  exact ⟨ret_bool HR.out.symm,hB.out⟩
set_option maxHeartbeats 1600000 in
set_option maxRecDepth 100000 in
theorem refCheck_row (ms:List Svc) (b off cap:Nat) (w:World) (hr:Row w b off ms) (hb:b < w.heap.size) (hn:ms.length≤40) (hs:∀ j,(ms.getD j dm).ok) :
 Calls Tryz.prog 48 #[.slice (some ⟨b,off,none⟩) ms.length cap] w fun e w'=>e=.returned (.int .i64 (chk ms))∧Below w.heap.size w w':=by
 have HR:Hid (Row w b off ms):=hr
 clear hr
 have HE:Hid (∀ k,k < ms.length→(∀ j,j < k→(ms.getD j dm).e=0)→(ms.getD k dm).e≠0→chk ms=(ms.getD k dm).e):=fun k h1 h2 h3=>chk_e ms k hn h1 h2 h3
 have H4:Hid ((∀ j,j < ms.length→(ms.getD j dm).e=0)→∀ k,k+1 < ms.length→0≤ord (ms.getD k dm) (ms.getD (k+1) dm)→chk ms=4):=fun h1 k h2 h3=>chk_4 ms k hn h1 h2 (by omega)
 have H0:Hid ((∀ j,j < ms.length→(ms.getD j dm).e=0)→(∀ j,j+1 < ms.length→ord (ms.getD j dm) (ms.getD (j+1) dm) < 0)→chk ms=0):=fun h1 h2=>chk_0 ms hn h1 h2
 generalize hN:ms.length=n at *
 have HN:Hid (ms.length=n):=hN
 clear hN
 have HS:Hid (∀ j,(ms.getD j dm).ok):=hs
 clear hs
 generalize hC:chk ms=res at *
 clear hC
 go_enter Tryz.func48,Tryz.ntmps48
 go_wp2_with fail
 go_loopw [3] (fun i w'=>∃ k:Nat,k≤n∧i=.int .i64 k∧Below w.heap.size w w'∧Hid (∀ j,j < k→(ms.getD j dm).e=0)) (fun i _=>n - (intOf i).toNat)
 case atStart=>exact ⟨0,Nat.zero_le _,rfl,Below.refl _ _,fun j h=>absurd h (Nat.not_lt_zero _)⟩
 case round=>
  obtain ⟨k,hk,rfl,hbl,hz⟩:=hrel
  obtain ⟨hbc,hbf⟩:=bcell hbl
  have hsz:=hbl.size
  by_cases hlt:k < n
  ·obtain ⟨c0,c1,c2,c3,c4,c5,c6,c7,c8⟩:=HR.out k (by rw [HN.out];exact hlt)
   have HSK:Hid ((ms.getD k dm).ok):=HS.out k
   have HK:Hid ((ms.getD k dm).e≠0→res=(ms.getD k dm).e):=fun h=>HE.out k hlt hz.out h
   have HZ:Hid ((ms.getD k dm).e=0→∀ j,j < k+1→(ms.getD j dm).e=0):=fun h j hj=>by
    rcases Nat.lt_succ_iff_lt_or_eq.1 hj with h2 | rfl
    ·exact hz.out j h2
    ·exact h
   generalize ms.getD k dm=m at *
   have HO:Hid (∀ w,Calls Tryz.prog 108 #[.agg #[.string m.node,.string m.idn,.string m.name,.string m.tag,.int .i64 m.addr,.int .i64 m.port,.bool m.passing,.int .i64 m.version,.bool m.gone]] w fun e w'=>e=.returned (.int .i64 m.e)∧Below w.heap.size w w'):=fun w=>refOne_any m w HSK.out
   generalize m.e=me at *
   rcases he:decide (me=0) with _ | _
   ·have he':(me != 0)=true:=by simpa using he
    clear he
    go_wp2_with (go_at_call 108;refine (HO.out _).mono ?_;rintro e w' ⟨rfl,hb2⟩)
    go_ret
    have hne:me≠0:=by simpa using he'
    have hres:res=me:=HK.out hne
    exact ⟨ret_int hres.symm,hbl.trans (hb2.mono hsz)⟩
   ·have he':(me != 0)=false:=by simpa using he
    clear he
    go_wp2_with (go_at_call 108;refine (HO.out _).mono ?_;rintro e w' ⟨rfl,hb2⟩)
    go_roundw
    case rel=>
     have he0:me=0:=by simpa using he'
     exact ⟨k+1,by omega,by go_num,hbl.trans (hb2.mono hsz),HZ.out he0⟩
    case measure=>simp [intOf];omega
  ·have hall:Hid (∀ j,j < n→(ms.getD j dm).e=0):=fun j hj=>hz.out j (by omega)
   clear hz
   go_wp2_with fail
   go_loopw [5] (fun i w'=>∃ k:Nat,(k+1≤n∨k=0)∧i=.int .i64 (k+1)∧Below w.heap.size w w'∧Hid (∀ j,j < k→ord (ms.getD j dm) (ms.getD (j+1) dm) < 0)) (fun i _=>n - (intOf i).toNat)
   case atStart=>exact ⟨0,.inr rfl,rfl,hbl,fun j h=>absurd h (Nat.not_lt_zero _)⟩
   case round=>
    clear hbc hbf hsz hbl
    obtain ⟨q,hq,rfl,hbl,hz⟩:=hrel
    obtain ⟨hbc,hbf⟩:=bcell hbl
    have hsz:=hbl.size
    by_cases hlt:q+1 < n
    ·obtain ⟨c0,c1,c2,c3,c4,c5,c6,c7,c8⟩:=HR.out q (by rw [HN.out];omega)
     obtain ⟨d0,d1,d2,d3,d4,d5,d6,d7,d8⟩:=HR.out (q+1) (by rw [HN.out];exact hlt)
     have HK:Hid (0≤ord (ms.getD q dm) (ms.getD (q+1) dm)→res=4):=fun h=>H4.out hall.out q hlt h
     have HZ:Hid (ord (ms.getD q dm) (ms.getD (q+1) dm) < 0→∀ j,j < q+1→ord (ms.getD j dm) (ms.getD (j+1) dm) < 0):=fun h j hj=>by
      rcases Nat.lt_succ_iff_lt_or_eq.1 hj with h2 | rfl
      ·exact hz.out j h2
      ·exact h
     generalize ms.getD q dm=m1 at *
     generalize ms.getD (q+1) dm=m2 at *
     have hN:∀ d os,Calls Tryz.prog 109 #[.agg #[.string m1.node,.string m1.idn,.string m1.name,.string m1.tag,.int .i64 m1.addr,.int .i64 m1.port,.bool m1.passing,.int .i64 m1.version,.bool m1.gone],.agg #[.string m2.node,.string m2.idn,.string m2.name,.string m2.tag,.int .i64 m2.addr,.int .i64 m2.port,.bool m2.passing,.int .i64 m2.version,.bool m2.gone]] (Go.Sort.grow (redrawn wr d) os) fun e w''=>e=.returned (.bool (decide (ord m1 m2 < 0)))∧∃ p:Regrown,w''=Go.Sort.grow (redrawn wr p.d) p.os:=fun d os=>Calls.regrown_of (ahead_any m1 m2 _)
     have F0:∀ d os,(Go.Sort.grow (redrawn wr d) os).cell? ⟨b,off+q * 9,none⟩=some (.string m1.node):=cell_regrown ((hbc _ _ hb).trans c0)
     have F1:∀ d os,(Go.Sort.grow (redrawn wr d) os).cell? ⟨b,off+q * 9+1,none⟩=some (.string m1.idn):=cell_regrown ((hbc _ _ hb).trans c1)
     have F2:∀ d os,(Go.Sort.grow (redrawn wr d) os).cell? ⟨b,off+q * 9+2,none⟩=some (.string m1.name):=cell_regrown ((hbc _ _ hb).trans c2)
     have F3:∀ d os,(Go.Sort.grow (redrawn wr d) os).cell? ⟨b,off+q * 9+3,none⟩=some (.string m1.tag):=cell_regrown ((hbc _ _ hb).trans c3)
     have F4:∀ d os,(Go.Sort.grow (redrawn wr d) os).cell? ⟨b,off+q * 9+4,none⟩=some (.int .i64 m1.addr):=cell_regrown ((hbc _ _ hb).trans c4)
     have F5:∀ d os,(Go.Sort.grow (redrawn wr d) os).cell? ⟨b,off+q * 9+5,none⟩=some (.int .i64 m1.port):=cell_regrown ((hbc _ _ hb).trans c5)
     have F6:∀ d os,(Go.Sort.grow (redrawn wr d) os).cell? ⟨b,off+q * 9+6,none⟩=some (.bool m1.passing):=cell_regrown ((hbc _ _ hb).trans c6)
     have F7:∀ d os,(Go.Sort.grow (redrawn wr d) os).cell? ⟨b,off+q * 9+7,none⟩=some (.int .i64 m1.version):=cell_regrown ((hbc _ _ hb).trans c7)
     have F8:∀ d os,(Go.Sort.grow (redrawn wr d) os).cell? ⟨b,off+q * 9+8,none⟩=some (.bool m1.gone):=cell_regrown ((hbc _ _ hb).trans c8)
     have G0:∀ d os,(Go.Sort.grow (redrawn wr d) os).cell? ⟨b,off+(q+1) * 9,none⟩=some (.string m2.node):=cell_regrown ((hbc _ _ hb).trans d0)
     have G1:∀ d os,(Go.Sort.grow (redrawn wr d) os).cell? ⟨b,off+(q+1) * 9+1,none⟩=some (.string m2.idn):=cell_regrown ((hbc _ _ hb).trans d1)
     have G2:∀ d os,(Go.Sort.grow (redrawn wr d) os).cell? ⟨b,off+(q+1) * 9+2,none⟩=some (.string m2.name):=cell_regrown ((hbc _ _ hb).trans d2)
     have G3:∀ d os,(Go.Sort.grow (redrawn wr d) os).cell? ⟨b,off+(q+1) * 9+3,none⟩=some (.string m2.tag):=cell_regrown ((hbc _ _ hb).trans d3)
     have G4:∀ d os,(Go.Sort.grow (redrawn wr d) os).cell? ⟨b,off+(q+1) * 9+4,none⟩=some (.int .i64 m2.addr):=cell_regrown ((hbc _ _ hb).trans d4)
     have G5:∀ d os,(Go.Sort.grow (redrawn wr d) os).cell? ⟨b,off+(q+1) * 9+5,none⟩=some (.int .i64 m2.port):=cell_regrown ((hbc _ _ hb).trans d5)
     have G6:∀ d os,(Go.Sort.grow (redrawn wr d) os).cell? ⟨b,off+(q+1) * 9+6,none⟩=some (.bool m2.passing):=cell_regrown ((hbc _ _ hb).trans d6)
     have G7:∀ d os,(Go.Sort.grow (redrawn wr d) os).cell? ⟨b,off+(q+1) * 9+7,none⟩=some (.int .i64 m2.version):=cell_regrown ((hbc _ _ hb).trans d7)
     have G8:∀ d os,(Go.Sort.grow (redrawn wr d) os).cell? ⟨b,off+(q+1) * 9+8,none⟩=some (.bool m2.gone):=cell_regrown ((hbc _ _ hb).trans d8)
     clear c0 c1 c2 c3 c4 c5 c6 c7 c8 d0 d1 d2 d3 d4 d5 d6 d7 d8 hbc hbf
     have hwq:IntKind.i64.wrap (q:Int)=(q:Int):=by rw [IntKind.wrap_i64];omega
     have hqn:q < n:=by omega
     have hq1:(q:Int)+1 < (n:Int):=by omega
     have hq0:(0:Int)≤(q:Int)+1:=by omega
     have htn:((q:Int)+1).toNat=q+1:=by omega
     rcases hl:decide (ord m1 m2 < 0) with _ | _
     ·have h4:Hid (res=4):=HK.out (by simpa using hl)
      rw [hl] at hN
      clear hl
      go_wp2_with fail
      refine wp_region_quiet_below (by kernel_rfl) (by kernel_rfl) ?_
      repeat (quiet_step (exact hN _ _))
      refine wpQuiet_nil ?_
      intro _ hw'
      obtain ⟨⟨dq,osq⟩,hw''⟩:=hw'
      subst hw''
      have HBQ:Hid (Below wr.heap.size wr (Go.Sort.grow (redrawn wr dq) osq)):=below_regrown wr dq osq
      clear hN F0 F1 F2 F3 F4 F5 F6 F7 F8 G0 G1 G2 G3 G4 G5 G6 G7 G8
      go_wp2_with fail
      go_ret
      exact ⟨ret_int h4.out.symm,hbl.trans (HBQ.out.mono hsz)⟩
     ·have HL:Hid (ord m1 m2 < 0):=(show ord m1 m2 < 0 by simpa using hl)
      rw [hl] at hN
      clear hl
      go_wp2_with fail
      refine wp_region_quiet_below (by kernel_rfl) (by kernel_rfl) ?_
      repeat (quiet_step (exact hN _ _))
      refine wpQuiet_nil ?_
      intro _ hw'
      obtain ⟨⟨dq,osq⟩,hw''⟩:=hw'
      subst hw''
      have HBQ:Hid (Below wr.heap.size wr (Go.Sort.grow (redrawn wr dq) osq)):=below_regrown wr dq osq
      clear hN F0 F1 F2 F3 F4 F5 F6 F7 F8 G0 G1 G2 G3 G4 G5 G6 G7 G8
      go_wp2_with fail
      go_roundw
      case rel=>exact ⟨q+1,.inl (by omega),by go_num,hbl.trans (HBQ.out.mono hsz),HZ.out HL.out⟩
      case measure=>simp [intOf];omega
    ·have h0:Hid (res=0):=H0.out hall.out fun j hj=>hz.out j (by omega)
     go_wp2_with fail
     go_ret
     exact ⟨ret_int h0.out.symm,hbl⟩
set_option maxHeartbeats 400000 in
theorem refCheck_many (a:Option Addr) (n cap:Nat) (w:World) (hn:40 < n) :
 Calls Tryz.prog 48 #[.slice a n cap] w fun e w'=>e=.returned (.int .i64 2)∧w'=w:=by
 go_enter Tryz.func48,Tryz.ntmps48
 go_wp2_with fail
 go_ret
 exact ⟨rfl,rfl⟩
set_option maxHeartbeats 400000 in
theorem refCheck_none (a:Option Addr) (cap:Nat) (w:World) :
 Calls Tryz.prog 48 #[.slice a 0 cap] w fun e w'=>e=.returned (.int .i64 0)∧w'=w:=by
 go_enter Tryz.func48,Tryz.ntmps48
 go_wp2_with fail
 go_loop [3] (fun i=>i=.int .i64 0) (fun _=>0)
 case atStart=>rfl
 case round=>
  subst hrel
  go_wp2_with fail
  go_loop [5] (fun i=>i=.int .i64 1) (fun _=>0)
  case atStart=>rfl
  case round=>
   subst hrel
   go_wp2_with fail
   go_ret
   exact ⟨rfl,rfl⟩
theorem refCheck_any (ms:List Svc) (v:Value) (w:World) (h:Sl w v ms) :
 Calls Tryz.prog 48 #[v] w fun e w'=>e=.returned (.int .i64 (chk ms))∧Below w.heap.size w w':=by
 obtain ⟨a,cap,rfl,hs,h⟩:=h
 by_cases hn:40 < ms.length
 ·refine (refCheck_many a ms.length cap w hn).mono ?_
  rintro e w' ⟨rfl,rfl⟩
  exact ⟨ret_int (by rw [chk,if_pos hn]),Below.refl _ _⟩
 ·rcases h with rfl | ⟨b,off,rfl,hb,hr⟩
  ·refine (refCheck_none a cap w).mono ?_
   rintro e w' ⟨rfl,rfl⟩
   exact ⟨rfl,Below.refl _ _⟩
  ·exact refCheck_row ms b off cap w hr hb (by omega) hs
end Sv
namespace Sv
open Go.RowKit
theorem ord_ne {a b:Svc} (h:ord a b≠0):((a.node.toList == b.node.toList)=false∧¬ a.node.toList=b.node.toList)∨((a.node.toList == b.node.toList)=true∧a.node.toList=b.node.toList∧(a.idn.toList == b.idn.toList)=false∧¬ a.idn.toList=b.idn.toList):=by
 by_cases h1:a.node=b.node
 ·right
  have h2:a.idn≠b.idn:=fun e=>h (by
   show (if cmpI a.node b.node=0 then cmpI a.idn b.idn else cmpI a.node b.node)=0
   rw [if_pos ((cmpI_eq _ _).2 h1)];exact (cmpI_eq _ _).2 e)
  have h3:a.node.toList=b.node.toList:=by rw [h1]
  exact ⟨by rw [h3];simp,h3,(beq_name h2).1,(beq_name h2).2⟩
 ·exact .inl (beq_name h1)
theorem ord_eq {a b:Svc} (h:ord a b=0):(a.node.toList == b.node.toList)=true∧a.node.toList=b.node.toList∧(a.idn.toList == b.idn.toList)=true∧a.idn.toList=b.idn.toList:=by
 obtain ⟨h1,h2⟩:=RL.lex_zero h
 have e1:a.node=b.node:=(cmpI_eq _ _).1 h1
 have e2:a.idn=b.idn:=(cmpI_eq _ _).1 h2
 rw [e1,e2]
 simp
set_option maxHeartbeats 12800000 in
set_option maxRecDepth 100000 in
theorem refPut_any (ms:List Svc) (v:Value) (m:Svc) (w:World) (hv:Sl w v ms) (hn:ms.length≤1000) (hr:Rise ms) (p:Nat) (f:Bool) (hat:At ms m p f) :
 Calls Tryz.prog 128 #[v,.agg #[.string m.node,.string m.idn,.string m.name,.string m.tag,.int .i64 m.addr,.int .i64 m.port,.bool m.passing,.int .i64 m.version,.bool m.gone]] w fun e w'=>∃ v',e=.returned v'∧Own (w.heap.size+1) w' v' (RL.put ms m p f)∧Below w.heap.size w w':=by
 obtain ⟨i0,hi0,hz0,hzs,hzb⟩:=info_parts Tryz.info62
 have hb0:Below w.heap.size w (w.alloc (.cells #[.string m.node,.string m.idn,.string m.name,.string m.tag,.int .i64 m.addr,.int .i64 m.port,.bool m.passing,.int .i64 m.version,.bool m.gone] 62)):=(Below.refl _ _).alloc (Nat.le_refl _) _
 have HR:Hid (Rise ms):=hr
 have HAT:Hid (At ms m p f):=hat
 have hpn:=hat.le
 obtain ⟨pa,ca,rfl,_,ha⟩:=hv
 have HA0:Hid (ms=[]∨∃ b off,pa=some ⟨b,off,none⟩∧b < w.heap.size∧Row w b off ms):=ha
 clear ha hat hr
 generalize hna:ms.length=n at *
 have HN:Hid (ms.length=n):=hna
 clear hna
 obtain ⟨q,hq⟩:∃ q,q=if f=true then p+1 else p:=⟨_,rfl⟩
 have HQ:Hid (q=if f=true then p+1 else p):=hq
 have hqp:q≤p+1:=by rw [hq];split<;>omega
 clear hq
 have HPUT:Hid (p < n→RL.outL ms m p q n=RL.put ms m p f):=fun h=>by rw [HQ.out,← HN.out];exact RL.put_out (by rw [HN.out];exact h)
 have HLAST:Hid (p=n→f=false∧RL.outL ms m p q n++[m]=RL.put ms m p f):=fun h=>by
  have hf:f=false:=by
   cases f
   ·rfl
   ·have:=(HAT.out.is.1 rfl).1;have:=HN.out;omega
  subst hf
  exact ⟨rfl,by rw [← HN.out];exact RL.put_last (by rw [HN.out];exact h)⟩
 go_enter Tryz.func128,Tryz.ntmps128
 go_wp2_with fail
 obtain ⟨W1,hW1⟩:∃ W1,W1=w.alloc (.cells #[.string m.node,.string m.idn,.string m.name,.string m.tag,.int .i64 m.addr,.int .i64 m.port,.bool m.passing,.int .i64 m.version,.bool m.gone] 62):=⟨_,rfl⟩
 have hs1:W1.heap.size=w.heap.size+1:=by rw [hW1];simp
 have hg1:W1.heap[w.heap.size]?=some (.cells #[.string m.node,.string m.idn,.string m.name,.string m.tag,.int .i64 m.addr,.int .i64 m.port,.bool m.passing,.int .i64 m.version,.bool m.gone] 62 (0,0)):=by rw [hW1];exact heap_alloc_new w _
 have d0:W1.cell? ⟨w.heap.size,0,none⟩=some (.string m.node):=cellsAt hg1 0
 have d1:W1.cell? ⟨w.heap.size,1,none⟩=some (.string m.idn):=cellsAt hg1 1
 have d2:W1.cell? ⟨w.heap.size,2,none⟩=some (.string m.name):=cellsAt hg1 2
 have d3:W1.cell? ⟨w.heap.size,3,none⟩=some (.string m.tag):=cellsAt hg1 3
 have d4:W1.cell? ⟨w.heap.size,4,none⟩=some (.int .i64 m.addr):=cellsAt hg1 4
 have d5:W1.cell? ⟨w.heap.size,5,none⟩=some (.int .i64 m.port):=cellsAt hg1 5
 have d6:W1.cell? ⟨w.heap.size,6,none⟩=some (.bool m.passing):=cellsAt hg1 6
 have d7:W1.cell? ⟨w.heap.size,7,none⟩=some (.int .i64 m.version):=cellsAt hg1 7
 have d8:W1.cell? ⟨w.heap.size,8,none⟩=some (.bool m.gone):=cellsAt hg1 8
 have hb01:Hid (Below w.heap.size w W1):=by rw [hW1];exact hb0
 have HW1:Hid (W1=w.alloc (.cells #[.string m.node,.string m.idn,.string m.name,.string m.tag,.int .i64 m.addr,.int .i64 m.port,.bool m.passing,.int .i64 m.version,.bool m.gone] 62)):=hW1
 have HA:Hid (ms=[]∨∃ b off,pa=some ⟨b,off,none⟩∧b < w.heap.size+1∧Row W1 b off ms):=by
  rcases HA0.out with h | ⟨b,off,h1,h2,h3⟩
  ·exact .inl h
  ·exact .inr ⟨b,off,h1,by omega,h3.later hb01.out h2⟩
 clear hW1 hg1 hb0 HA0
 have hw1:w.heap.size < w.heap.size+1:=by omega
 go_loopw [5,6,7] (fun kn b i w'=>∃ (k:Nat) (bb:Bool),k≤n∧i=.int .i64 k∧b=.bool bb∧Hid (bb=true↔p < k)∧Below (w.heap.size+1) W1 w'∧Hid (Own (w.heap.size+1) w' kn (RL.outL ms m p q k))) (fun _ _ i _=>n - (intOf i).toNat)
 case atStart=>exact ⟨0,false,Nat.zero_le _,rfl,rfl,⟨fun h=>(by cases h),fun h=>(by omega)⟩,by rw [HW1.out];exact Below.refl _ _,own_nil _ _⟩
 case round=>
  obtain ⟨k,bb,hk,rfl,rfl,hbb,hbl,HO⟩:=hrel
  have hbc:∀ b o,b < w.heap.size+1→wr.cell? ⟨b,o,none⟩=W1.cell? ⟨b,o,none⟩:=fun b o h=>hbl.cell (p:=⟨b,o,none⟩) h
  have hsz:=hbl.size
  have hlen:=RL.outL_len (ms:=ms) (m:=m) (p:=p) (q:=q) (k:=k)
  have hlen2:(RL.outL ms m p q k).length≤2001:=by have:=HN.out;omega
  clear hlen
  by_cases hlt:k < n
  ·obtain ⟨b1,o1,hp1,hl1,hr1⟩:∃ b off,pa=some ⟨b,off,none⟩∧b < w.heap.size+1∧Row W1 b off ms:=by
    rcases HA.out with h | h
    ·have:=HN.out;rw [h] at this;simp at this;omega
    ·exact h
   subst hp1
   obtain ⟨c0,c1,c2,c3,c4,c5,c6,c7,c8⟩:=hr1 k (by rw [HN.out];exact hlt)
   clear hr1
   have hkl:k < ms.length:=by rw [HN.out];exact hlt
   have HLO:Hid (k < p→RL.outL ms m p q (k+1)=RL.outL ms m p q k++[ms.getD k dm]∧ord (ms.getD k dm) m < 0):=fun h=>⟨RL.outL_lo dm h hkl,HAT.out.lo k h⟩
   have HHI:Hid (p < k→RL.outL ms m p q (k+1)=RL.outL ms m p q k++[ms.getD k dm]∧0 < ord (ms.getD k dm) m):=fun h=>⟨RL.outL_hi dm h (by omega) hkl,RL.at_hi_ne ord dm keyed HAT.out HR.out k h hkl⟩
   have HEQ:Hid (k=p→f=true→RL.outL ms m p q (k+1)=RL.outL ms m p q k++[m]∧ord (ms.getD k dm) m=0):=fun h hf=>by
    have hq:q=p+1:=HQ.out.trans (if_pos hf)
    rw [hq,h]
    exact ⟨RL.outL_eq,(HAT.out.is.1 hf).2⟩
   have HNE:Hid (k=p→f=false→RL.outL ms m p q (k+1)=(RL.outL ms m p q k++[m])++[ms.getD k dm]∧0 < ord (ms.getD k dm) m):=fun h hf=>by
    have hq:q=p:=HQ.out.trans (if_neg (by rw [hf];exact Bool.false_ne_true))
    rw [hq,h]
    refine ⟨RL.outL_ne dm (by omega),?_⟩
    have h1:=HAT.out.hi p (Nat.le_refl _) (by omega)
    have h2:¬ ord (ms.getD p dm) m=0:=fun e=>by have:=HAT.out.is.2 ⟨by omega,e⟩;rw [hf] at this;cases this
    omega
   generalize ms.getD k dm=mk at *
   rcases Nat.lt_trichotomy k p with hkp | hkp | hkp
   ·have hbf:bb=false:=by
     cases bb
     ·rfl
     ·have:=hbb.out.1 rfl;omega
    subst hbf
    obtain ⟨hO,hls⟩:=HLO.out hkp
    have HOL:Hid (RL.outL ms m p q (k+1)=RL.outL ms m p q k++[mk]):=hO
    have hne:=ord_ne (by omega:ord mk m≠0)
    have HDO:Hid (decide (ord mk m < 0)=true):=decide_eq_true hls
    clear hO hls HLO HHI HEQ HNE hbb
    generalize RL.outL ms m p q k=L at *
    rcases hne with ⟨hne1,hne2⟩ | ⟨he1,he2,hne1,hne2⟩
    all_goals
     have hN:∀ d os,Calls Tryz.prog 109 #[.agg #[.string mk.node,.string mk.idn,.string mk.name,.string mk.tag,.int .i64 mk.addr,.int .i64 mk.port,.bool mk.passing,.int .i64 mk.version,.bool mk.gone],.agg #[.string m.node,.string m.idn,.string m.name,.string m.tag,.int .i64 m.addr,.int .i64 m.port,.bool m.passing,.int .i64 m.version,.bool m.gone]] (Go.Sort.grow (redrawn wr d) os) fun e w''=>e=.returned (.bool true)∧∃ p:Regrown,w''=Go.Sort.grow (redrawn wr p.d) p.os:=fun d os=>Calls.regrown_of ((ahead_any mk m _).mono (by rintro e w' ⟨rfl,h⟩;exact ⟨by rw [HDO.out],h⟩))
     have F0:∀ d os,(Go.Sort.grow (redrawn wr d) os).cell? ⟨b1,o1+k * 9,none⟩=some (.string mk.node):=cell_regrown ((hbc _ _ hl1).trans c0)
     have F1:∀ d os,(Go.Sort.grow (redrawn wr d) os).cell? ⟨b1,o1+k * 9+1,none⟩=some (.string mk.idn):=cell_regrown ((hbc _ _ hl1).trans c1)
     have F2:∀ d os,(Go.Sort.grow (redrawn wr d) os).cell? ⟨b1,o1+k * 9+2,none⟩=some (.string mk.name):=cell_regrown ((hbc _ _ hl1).trans c2)
     have F3:∀ d os,(Go.Sort.grow (redrawn wr d) os).cell? ⟨b1,o1+k * 9+3,none⟩=some (.string mk.tag):=cell_regrown ((hbc _ _ hl1).trans c3)
     have F4:∀ d os,(Go.Sort.grow (redrawn wr d) os).cell? ⟨b1,o1+k * 9+4,none⟩=some (.int .i64 mk.addr):=cell_regrown ((hbc _ _ hl1).trans c4)
     have F5:∀ d os,(Go.Sort.grow (redrawn wr d) os).cell? ⟨b1,o1+k * 9+5,none⟩=some (.int .i64 mk.port):=cell_regrown ((hbc _ _ hl1).trans c5)
     have F6:∀ d os,(Go.Sort.grow (redrawn wr d) os).cell? ⟨b1,o1+k * 9+6,none⟩=some (.bool mk.passing):=cell_regrown ((hbc _ _ hl1).trans c6)
     have F7:∀ d os,(Go.Sort.grow (redrawn wr d) os).cell? ⟨b1,o1+k * 9+7,none⟩=some (.int .i64 mk.version):=cell_regrown ((hbc _ _ hl1).trans c7)
     have F8:∀ d os,(Go.Sort.grow (redrawn wr d) os).cell? ⟨b1,o1+k * 9+8,none⟩=some (.bool mk.gone):=cell_regrown ((hbc _ _ hl1).trans c8)
     have G0:∀ d os,(Go.Sort.grow (redrawn wr d) os).cell? ⟨w.heap.size,0,none⟩=some (.string m.node):=cell_regrown ((hbc _ _ hw1).trans d0)
     have G1:∀ d os,(Go.Sort.grow (redrawn wr d) os).cell? ⟨w.heap.size,1,none⟩=some (.string m.idn):=cell_regrown ((hbc _ _ hw1).trans d1)
     have G2:∀ d os,(Go.Sort.grow (redrawn wr d) os).cell? ⟨w.heap.size,2,none⟩=some (.string m.name):=cell_regrown ((hbc _ _ hw1).trans d2)
     have G3:∀ d os,(Go.Sort.grow (redrawn wr d) os).cell? ⟨w.heap.size,3,none⟩=some (.string m.tag):=cell_regrown ((hbc _ _ hw1).trans d3)
     have G4:∀ d os,(Go.Sort.grow (redrawn wr d) os).cell? ⟨w.heap.size,4,none⟩=some (.int .i64 m.addr):=cell_regrown ((hbc _ _ hw1).trans d4)
     have G5:∀ d os,(Go.Sort.grow (redrawn wr d) os).cell? ⟨w.heap.size,5,none⟩=some (.int .i64 m.port):=cell_regrown ((hbc _ _ hw1).trans d5)
     have G6:∀ d os,(Go.Sort.grow (redrawn wr d) os).cell? ⟨w.heap.size,6,none⟩=some (.bool m.passing):=cell_regrown ((hbc _ _ hw1).trans d6)
     have G7:∀ d os,(Go.Sort.grow (redrawn wr d) os).cell? ⟨w.heap.size,7,none⟩=some (.int .i64 m.version):=cell_regrown ((hbc _ _ hw1).trans d7)
     have G8:∀ d os,(Go.Sort.grow (redrawn wr d) os).cell? ⟨w.heap.size,8,none⟩=some (.bool m.gone):=cell_regrown ((hbc _ _ hw1).trans d8)
     go_wp2_with fail
     refine wp_region_quiet_below (by kernel_rfl) (by kernel_rfl) ?_
     repeat (quiet_step (exact hN _ _))
     refine wpQuiet_nil ?_
     intro _ hw'
     obtain ⟨⟨dq,osq⟩,hw''⟩:=hw'
     subst hw''
     have HBQ:Hid (Below wr.heap.size wr (Go.Sort.grow (redrawn wr dq) osq)):=below_regrown wr dq osq
     clear hN F0 F1 F2 F3 F4 F5 F6 F7 F8 G0 G1 G2 G3 G4 G5 G6 G7 G8
     generalize Go.Sort.grow (redrawn wr dq) osq=wq at *
     have hblq:Below (w.heap.size+1) W1 wq:=hbl.trans (HBQ.out.mono (by omega))
     have HOq:Hid (Own (w.heap.size+1) wq u5 L):=HO.out.below HBQ.out
     have hbcq:∀ b o,b < w.heap.size+1→wq.cell? ⟨b,o,none⟩=W1.cell? ⟨b,o,none⟩:=fun b o h=>hblq.cell (p:=⟨b,o,none⟩) h
     have hszq:=hblq.size
     clear hbl hbc hsz HO HBQ
     go_wp2_with fail
     go_quiet (fail)
     go_wp2_with (at_builtin;refine wpList_append_own _ rfl _ _ 24 rfl (w.heap.size+1) 62 i0 _ 9 104 Tryz.underlying24 hi0 hz0 hzs hzb rfl (by omega) _ (L).length (fl (L)) rfl ?hown ⟨wq.heap.size,0,none⟩ 1 1 (mk).cs rfl rfl ?hnews (cs_one _) ?h63 ?hbytes ?hbase ?_)
     case hown=>(refine HOq.out.below ?_;repeat (first | exact Below.refl _ _ | refine below_drewN ?_ _ | refine Below.alloc ?_ (by simp) _ | refine Below.drew ?_))
     case hnews=>(intro j u hj;rw [Addr.add_lit];exact (cellsAt (heap_alloc_new wq (.cells #[.string mk.node,.string mk.idn,.string mk.name,.string mk.tag,.int .i64 mk.addr,.int .i64 mk.port,.bool mk.passing,.int .i64 mk.version,.bool mk.gone] 62)) (0+j)).trans (by simpa [Svc.cs] using hj))
     case h63=>(unfold maxLen;omega)
     case hbytes=>omega
     case hbase=>(simp;omega)
     intro v' w2 r1 r2 r3
     have HBX:Hid (Below (w.heap.size+1) W1 w2):=by
      have h0:Below (w.heap.size+1) W1 (wq.alloc (.cells #[.string mk.node,.string mk.idn,.string mk.name,.string mk.tag,.int .i64 mk.addr,.int .i64 mk.port,.bool mk.passing,.int .i64 mk.version,.bool mk.gone] 62)):=hblq.alloc (by omega) _
      exact h0.trans ((Below.refl _ _).grown (w:=wq.alloc (.cells #[.string mk.node,.string mk.idn,.string mk.name,.string mk.tag,.int .i64 mk.addr,.int .i64 mk.port,.bool mk.passing,.int .i64 mk.version,.bool mk.gone] 62)) ⟨r2.os,r2.tape,r2.output,r2.size,r2.block⟩ (by simp;omega) (fun j hj=>(HOq.out.lt j hj).1))
     have HOX:Hid (Own (w.heap.size+1) w2 v' (L++[mk])):=own_snoc (by first | exact r1 | (rw [List.length_append];exact r1))
     clear r1 r2 r3
     go_wp2_with fail
     exact ⟨⟨k+1,false,by omega,by go_num,rfl,⟨fun h=>(by cases h),fun h=>(by omega)⟩,HBX.out,(by rw [HOL.out];exact HOX.out)⟩,by simp [intOf];omega⟩
   ·have hbf:bb=false:=by
     cases bb
     ·rfl
     ·have:=hbb.out.1 rfl;omega
    subst hbf
    have hkp1:p≤k:=by omega
    have hkp2:k≤p:=by omega
    have HKP:Hid (k=p):=hkp
    clear hkp
    cases f
    ·obtain ⟨hO,hls⟩:=HNE.out HKP.out rfl
     have HOL:Hid (RL.outL ms m p q (k+1)=(RL.outL ms m p q k++[m])++[mk]):=hO
     have hne:=ord_ne (by omega:ord mk m≠0)
     have HDO:Hid (decide (ord mk m < 0)=false):=decide_eq_false (by omega)
     clear hO hls HLO HHI HEQ HNE hbb
     generalize RL.outL ms m p q k=L at *
     rcases hne with ⟨hne1,hne2⟩ | ⟨he1,he2,hne1,hne2⟩
     all_goals
      have hN:∀ d os,Calls Tryz.prog 109 #[.agg #[.string mk.node,.string mk.idn,.string mk.name,.string mk.tag,.int .i64 mk.addr,.int .i64 mk.port,.bool mk.passing,.int .i64 mk.version,.bool mk.gone],.agg #[.string m.node,.string m.idn,.string m.name,.string m.tag,.int .i64 m.addr,.int .i64 m.port,.bool m.passing,.int .i64 m.version,.bool m.gone]] (Go.Sort.grow (redrawn wr d) os) fun e w''=>e=.returned (.bool false)∧∃ p:Regrown,w''=Go.Sort.grow (redrawn wr p.d) p.os:=fun d os=>Calls.regrown_of ((ahead_any mk m _).mono (by rintro e w' ⟨rfl,h⟩;exact ⟨by rw [HDO.out],h⟩))
      have F0:∀ d os,(Go.Sort.grow (redrawn wr d) os).cell? ⟨b1,o1+k * 9,none⟩=some (.string mk.node):=cell_regrown ((hbc _ _ hl1).trans c0)
      have F1:∀ d os,(Go.Sort.grow (redrawn wr d) os).cell? ⟨b1,o1+k * 9+1,none⟩=some (.string mk.idn):=cell_regrown ((hbc _ _ hl1).trans c1)
      have F2:∀ d os,(Go.Sort.grow (redrawn wr d) os).cell? ⟨b1,o1+k * 9+2,none⟩=some (.string mk.name):=cell_regrown ((hbc _ _ hl1).trans c2)
      have F3:∀ d os,(Go.Sort.grow (redrawn wr d) os).cell? ⟨b1,o1+k * 9+3,none⟩=some (.string mk.tag):=cell_regrown ((hbc _ _ hl1).trans c3)
      have F4:∀ d os,(Go.Sort.grow (redrawn wr d) os).cell? ⟨b1,o1+k * 9+4,none⟩=some (.int .i64 mk.addr):=cell_regrown ((hbc _ _ hl1).trans c4)
      have F5:∀ d os,(Go.Sort.grow (redrawn wr d) os).cell? ⟨b1,o1+k * 9+5,none⟩=some (.int .i64 mk.port):=cell_regrown ((hbc _ _ hl1).trans c5)
      have F6:∀ d os,(Go.Sort.grow (redrawn wr d) os).cell? ⟨b1,o1+k * 9+6,none⟩=some (.bool mk.passing):=cell_regrown ((hbc _ _ hl1).trans c6)
      have F7:∀ d os,(Go.Sort.grow (redrawn wr d) os).cell? ⟨b1,o1+k * 9+7,none⟩=some (.int .i64 mk.version):=cell_regrown ((hbc _ _ hl1).trans c7)
      have F8:∀ d os,(Go.Sort.grow (redrawn wr d) os).cell? ⟨b1,o1+k * 9+8,none⟩=some (.bool mk.gone):=cell_regrown ((hbc _ _ hl1).trans c8)
      have G0:∀ d os,(Go.Sort.grow (redrawn wr d) os).cell? ⟨w.heap.size,0,none⟩=some (.string m.node):=cell_regrown ((hbc _ _ hw1).trans d0)
      have G1:∀ d os,(Go.Sort.grow (redrawn wr d) os).cell? ⟨w.heap.size,1,none⟩=some (.string m.idn):=cell_regrown ((hbc _ _ hw1).trans d1)
      have G2:∀ d os,(Go.Sort.grow (redrawn wr d) os).cell? ⟨w.heap.size,2,none⟩=some (.string m.name):=cell_regrown ((hbc _ _ hw1).trans d2)
      have G3:∀ d os,(Go.Sort.grow (redrawn wr d) os).cell? ⟨w.heap.size,3,none⟩=some (.string m.tag):=cell_regrown ((hbc _ _ hw1).trans d3)
      have G4:∀ d os,(Go.Sort.grow (redrawn wr d) os).cell? ⟨w.heap.size,4,none⟩=some (.int .i64 m.addr):=cell_regrown ((hbc _ _ hw1).trans d4)
      have G5:∀ d os,(Go.Sort.grow (redrawn wr d) os).cell? ⟨w.heap.size,5,none⟩=some (.int .i64 m.port):=cell_regrown ((hbc _ _ hw1).trans d5)
      have G6:∀ d os,(Go.Sort.grow (redrawn wr d) os).cell? ⟨w.heap.size,6,none⟩=some (.bool m.passing):=cell_regrown ((hbc _ _ hw1).trans d6)
      have G7:∀ d os,(Go.Sort.grow (redrawn wr d) os).cell? ⟨w.heap.size,7,none⟩=some (.int .i64 m.version):=cell_regrown ((hbc _ _ hw1).trans d7)
      have G8:∀ d os,(Go.Sort.grow (redrawn wr d) os).cell? ⟨w.heap.size,8,none⟩=some (.bool m.gone):=cell_regrown ((hbc _ _ hw1).trans d8)
      go_wp2_with fail
      refine wp_region_quiet_below (by kernel_rfl) (by kernel_rfl) ?_
      repeat (quiet_step (exact hN _ _))
      refine wpQuiet_nil ?_
      intro _ hw'
      obtain ⟨⟨dq,osq⟩,hw''⟩:=hw'
      subst hw''
      have HBQ:Hid (Below wr.heap.size wr (Go.Sort.grow (redrawn wr dq) osq)):=below_regrown wr dq osq
      clear hN F0 F1 F2 F3 F4 F5 F6 F7 F8 G0 G1 G2 G3 G4 G5 G6 G7 G8
      generalize Go.Sort.grow (redrawn wr dq) osq=wq at *
      have hblq:Below (w.heap.size+1) W1 wq:=hbl.trans (HBQ.out.mono (by omega))
      have HOq:Hid (Own (w.heap.size+1) wq u5 L):=HO.out.below HBQ.out
      have hbcq:∀ b o,b < w.heap.size+1→wq.cell? ⟨b,o,none⟩=W1.cell? ⟨b,o,none⟩:=fun b o h=>hblq.cell (p:=⟨b,o,none⟩) h
      have hszq:=hblq.size
      clear hbl hbc hsz HO HBQ
      go_wp2_with (at_builtin;refine wpList_append_own _ rfl _ _ 24 rfl (w.heap.size+1) 62 i0 _ 9 104 Tryz.underlying24 hi0 hz0 hzs hzb rfl (by omega) _ (L).length (fl (L)) rfl ?hown ⟨wq.heap.size,0,none⟩ 1 1 (m).cs rfl rfl ?hnews (cs_one _) ?h63 ?hbytes ?hbase ?_)
      case hown=>(refine HOq.out.below ?_;repeat (first | exact Below.refl _ _ | refine below_drewN ?_ _ | refine Below.alloc ?_ (by simp) _ | refine Below.drew ?_))
      case hnews=>(intro j u hj;rw [Addr.add_lit];exact (cellsAt (heap_alloc_new wq (.cells #[.string m.node,.string m.idn,.string m.name,.string m.tag,.int .i64 m.addr,.int .i64 m.port,.bool m.passing,.int .i64 m.version,.bool m.gone] 62)) (0+j)).trans (by simpa [Svc.cs] using hj))
      case h63=>(unfold maxLen;omega)
      case hbytes=>omega
      case hbase=>(simp;omega)
      intro v' w2 r1 r2 r3
      have HBX:Hid (Below (w.heap.size+1) W1 w2):=by
       have h0:Below (w.heap.size+1) W1 (wq.alloc (.cells #[.string m.node,.string m.idn,.string m.name,.string m.tag,.int .i64 m.addr,.int .i64 m.port,.bool m.passing,.int .i64 m.version,.bool m.gone] 62)):=hblq.alloc (by omega) _
       exact h0.trans ((Below.refl _ _).grown (w:=wq.alloc (.cells #[.string m.node,.string m.idn,.string m.name,.string m.tag,.int .i64 m.addr,.int .i64 m.port,.bool m.passing,.int .i64 m.version,.bool m.gone] 62)) ⟨r2.os,r2.tape,r2.output,r2.size,r2.block⟩ (by simp;omega) (fun j hj=>(HOq.out.lt j hj).1))
      have HOX:Hid (Own (w.heap.size+1) w2 v' (L++[m])):=own_snoc (by first | exact r1 | (rw [List.length_append];exact r1))
      clear r1 r2 r3
      have hbl2:=HBX.out
      have hbc2:∀ b o,b < w.heap.size+1→w2.cell? ⟨b,o,none⟩=W1.cell? ⟨b,o,none⟩:=fun b o h=>hbl2.cell (p:=⟨b,o,none⟩) h
      have hsz2:=hbl2.size
      clear hblq hbcq hszq HOq
      have hl2:(L++[m]).length≤2002:=by simp;omega
      go_wp2_with fail
      go_quiet (fail)
      go_wp2_with (at_builtin;refine wpList_append_own _ rfl _ _ 24 rfl (w.heap.size+1) 62 i0 _ 9 104 Tryz.underlying24 hi0 hz0 hzs hzb rfl (by omega) _ (L++[m]).length (fl (L++[m])) rfl ?hown ⟨w2.heap.size,0,none⟩ 1 1 (mk).cs rfl rfl ?hnews (cs_one _) ?h63 ?hbytes ?hbase ?_)
      case hown=>(refine HOX.out.below ?_;repeat (first | exact Below.refl _ _ | refine below_drewN ?_ _ | refine Below.alloc ?_ (by simp) _ | refine Below.drew ?_))
      case hnews=>(intro j u hj;rw [Addr.add_lit];exact (cellsAt (heap_alloc_new w2 (.cells #[.string mk.node,.string mk.idn,.string mk.name,.string mk.tag,.int .i64 mk.addr,.int .i64 mk.port,.bool mk.passing,.int .i64 mk.version,.bool mk.gone] 62)) (0+j)).trans (by simpa [Svc.cs] using hj))
      case h63=>(unfold maxLen;omega)
      case hbytes=>omega
      case hbase=>(simp;omega)
      clear HBX
      intro v' w3 r1 r2 r3
      have HBXY:Hid (Below (w.heap.size+1) W1 w3):=by
       have h0:Below (w.heap.size+1) W1 (w2.alloc (.cells #[.string mk.node,.string mk.idn,.string mk.name,.string mk.tag,.int .i64 mk.addr,.int .i64 mk.port,.bool mk.passing,.int .i64 mk.version,.bool mk.gone] 62)):=hbl2.alloc (by omega) _
       exact h0.trans ((Below.refl _ _).grown (w:=w2.alloc (.cells #[.string mk.node,.string mk.idn,.string mk.name,.string mk.tag,.int .i64 mk.addr,.int .i64 mk.port,.bool mk.passing,.int .i64 mk.version,.bool mk.gone] 62)) ⟨r2.os,r2.tape,r2.output,r2.size,r2.block⟩ (by simp;omega) (fun j hj=>(HOX.out.lt j hj).1))
      have HOXY:Hid (Own (w.heap.size+1) w3 v' ((L++[m])++[mk])):=own_snoc (by first | exact r1 | (rw [List.length_append];exact r1))
      clear r1 r2 r3
      go_wp2_with fail
      exact ⟨⟨k+1,true,by omega,by go_num,rfl,⟨fun _=>(by omega),fun _=>(rfl)⟩,HBXY.out,(by rw [HOL.out];exact HOXY.out)⟩,by simp [intOf];omega⟩
    ·obtain ⟨hO,hls⟩:=HEQ.out HKP.out rfl
     have HOL:Hid (RL.outL ms m p q (k+1)=RL.outL ms m p q k++[m]):=hO
     obtain ⟨he1,he2,he3,he4⟩:=ord_eq hls
     have HDO:Hid (decide (ord mk m < 0)=false):=decide_eq_false (by omega)
     clear hO hls HLO HHI HEQ HNE hbb
     generalize RL.outL ms m p q k=L at *
     have hN:∀ d os,Calls Tryz.prog 109 #[.agg #[.string mk.node,.string mk.idn,.string mk.name,.string mk.tag,.int .i64 mk.addr,.int .i64 mk.port,.bool mk.passing,.int .i64 mk.version,.bool mk.gone],.agg #[.string m.node,.string m.idn,.string m.name,.string m.tag,.int .i64 m.addr,.int .i64 m.port,.bool m.passing,.int .i64 m.version,.bool m.gone]] (Go.Sort.grow (redrawn wr d) os) fun e w''=>e=.returned (.bool false)∧∃ p:Regrown,w''=Go.Sort.grow (redrawn wr p.d) p.os:=fun d os=>Calls.regrown_of ((ahead_any mk m _).mono (by rintro e w' ⟨rfl,h⟩;exact ⟨by rw [HDO.out],h⟩))
     have F0:∀ d os,(Go.Sort.grow (redrawn wr d) os).cell? ⟨b1,o1+k * 9,none⟩=some (.string mk.node):=cell_regrown ((hbc _ _ hl1).trans c0)
     have F1:∀ d os,(Go.Sort.grow (redrawn wr d) os).cell? ⟨b1,o1+k * 9+1,none⟩=some (.string mk.idn):=cell_regrown ((hbc _ _ hl1).trans c1)
     have F2:∀ d os,(Go.Sort.grow (redrawn wr d) os).cell? ⟨b1,o1+k * 9+2,none⟩=some (.string mk.name):=cell_regrown ((hbc _ _ hl1).trans c2)
     have F3:∀ d os,(Go.Sort.grow (redrawn wr d) os).cell? ⟨b1,o1+k * 9+3,none⟩=some (.string mk.tag):=cell_regrown ((hbc _ _ hl1).trans c3)
     have F4:∀ d os,(Go.Sort.grow (redrawn wr d) os).cell? ⟨b1,o1+k * 9+4,none⟩=some (.int .i64 mk.addr):=cell_regrown ((hbc _ _ hl1).trans c4)
     have F5:∀ d os,(Go.Sort.grow (redrawn wr d) os).cell? ⟨b1,o1+k * 9+5,none⟩=some (.int .i64 mk.port):=cell_regrown ((hbc _ _ hl1).trans c5)
     have F6:∀ d os,(Go.Sort.grow (redrawn wr d) os).cell? ⟨b1,o1+k * 9+6,none⟩=some (.bool mk.passing):=cell_regrown ((hbc _ _ hl1).trans c6)
     have F7:∀ d os,(Go.Sort.grow (redrawn wr d) os).cell? ⟨b1,o1+k * 9+7,none⟩=some (.int .i64 mk.version):=cell_regrown ((hbc _ _ hl1).trans c7)
     have F8:∀ d os,(Go.Sort.grow (redrawn wr d) os).cell? ⟨b1,o1+k * 9+8,none⟩=some (.bool mk.gone):=cell_regrown ((hbc _ _ hl1).trans c8)
     have G0:∀ d os,(Go.Sort.grow (redrawn wr d) os).cell? ⟨w.heap.size,0,none⟩=some (.string m.node):=cell_regrown ((hbc _ _ hw1).trans d0)
     have G1:∀ d os,(Go.Sort.grow (redrawn wr d) os).cell? ⟨w.heap.size,1,none⟩=some (.string m.idn):=cell_regrown ((hbc _ _ hw1).trans d1)
     have G2:∀ d os,(Go.Sort.grow (redrawn wr d) os).cell? ⟨w.heap.size,2,none⟩=some (.string m.name):=cell_regrown ((hbc _ _ hw1).trans d2)
     have G3:∀ d os,(Go.Sort.grow (redrawn wr d) os).cell? ⟨w.heap.size,3,none⟩=some (.string m.tag):=cell_regrown ((hbc _ _ hw1).trans d3)
     have G4:∀ d os,(Go.Sort.grow (redrawn wr d) os).cell? ⟨w.heap.size,4,none⟩=some (.int .i64 m.addr):=cell_regrown ((hbc _ _ hw1).trans d4)
     have G5:∀ d os,(Go.Sort.grow (redrawn wr d) os).cell? ⟨w.heap.size,5,none⟩=some (.int .i64 m.port):=cell_regrown ((hbc _ _ hw1).trans d5)
     have G6:∀ d os,(Go.Sort.grow (redrawn wr d) os).cell? ⟨w.heap.size,6,none⟩=some (.bool m.passing):=cell_regrown ((hbc _ _ hw1).trans d6)
     have G7:∀ d os,(Go.Sort.grow (redrawn wr d) os).cell? ⟨w.heap.size,7,none⟩=some (.int .i64 m.version):=cell_regrown ((hbc _ _ hw1).trans d7)
     have G8:∀ d os,(Go.Sort.grow (redrawn wr d) os).cell? ⟨w.heap.size,8,none⟩=some (.bool m.gone):=cell_regrown ((hbc _ _ hw1).trans d8)
     go_wp2_with fail
     refine wp_region_quiet_below (by kernel_rfl) (by kernel_rfl) ?_
     repeat (quiet_step (exact hN _ _))
     refine wpQuiet_nil ?_
     intro _ hw'
     obtain ⟨⟨dq,osq⟩,hw''⟩:=hw'
     subst hw''
     have HBQ:Hid (Below wr.heap.size wr (Go.Sort.grow (redrawn wr dq) osq)):=below_regrown wr dq osq
     clear hN F0 F1 F2 F3 F4 F5 F6 F7 F8 G0 G1 G2 G3 G4 G5 G6 G7 G8
     generalize Go.Sort.grow (redrawn wr dq) osq=wq at *
     have hblq:Below (w.heap.size+1) W1 wq:=hbl.trans (HBQ.out.mono (by omega))
     have HOq:Hid (Own (w.heap.size+1) wq u5 L):=HO.out.below HBQ.out
     have hbcq:∀ b o,b < w.heap.size+1→wq.cell? ⟨b,o,none⟩=W1.cell? ⟨b,o,none⟩:=fun b o h=>hblq.cell (p:=⟨b,o,none⟩) h
     have hszq:=hblq.size
     clear hbl hbc hsz HO HBQ
     go_wp2_with (at_builtin;refine wpList_append_own _ rfl _ _ 24 rfl (w.heap.size+1) 62 i0 _ 9 104 Tryz.underlying24 hi0 hz0 hzs hzb rfl (by omega) _ (L).length (fl (L)) rfl ?hown ⟨wq.heap.size,0,none⟩ 1 1 (m).cs rfl rfl ?hnews (cs_one _) ?h63 ?hbytes ?hbase ?_)
     case hown=>(refine HOq.out.below ?_;repeat (first | exact Below.refl _ _ | refine below_drewN ?_ _ | refine Below.alloc ?_ (by simp) _ | refine Below.drew ?_))
     case hnews=>(intro j u hj;rw [Addr.add_lit];exact (cellsAt (heap_alloc_new wq (.cells #[.string m.node,.string m.idn,.string m.name,.string m.tag,.int .i64 m.addr,.int .i64 m.port,.bool m.passing,.int .i64 m.version,.bool m.gone] 62)) (0+j)).trans (by simpa [Svc.cs] using hj))
     case h63=>(unfold maxLen;omega)
     case hbytes=>omega
     case hbase=>(simp;omega)
     intro v' w2 r1 r2 r3
     have HBX:Hid (Below (w.heap.size+1) W1 w2):=by
      have h0:Below (w.heap.size+1) W1 (wq.alloc (.cells #[.string m.node,.string m.idn,.string m.name,.string m.tag,.int .i64 m.addr,.int .i64 m.port,.bool m.passing,.int .i64 m.version,.bool m.gone] 62)):=hblq.alloc (by omega) _
      exact h0.trans ((Below.refl _ _).grown (w:=wq.alloc (.cells #[.string m.node,.string m.idn,.string m.name,.string m.tag,.int .i64 m.addr,.int .i64 m.port,.bool m.passing,.int .i64 m.version,.bool m.gone] 62)) ⟨r2.os,r2.tape,r2.output,r2.size,r2.block⟩ (by simp;omega) (fun j hj=>(HOq.out.lt j hj).1))
     have HOX:Hid (Own (w.heap.size+1) w2 v' (L++[m])):=own_snoc (by first | exact r1 | (rw [List.length_append];exact r1))
     clear r1 r2 r3
     have hbl2:=HBX.out
     have hbc2:∀ b o,b < w.heap.size+1→w2.cell? ⟨b,o,none⟩=W1.cell? ⟨b,o,none⟩:=fun b o h=>hbl2.cell (p:=⟨b,o,none⟩) h
     have hsz2:=hbl2.size
     clear hblq hbcq hszq HOq
     go_wp2_with fail
     go_quiet (fail)
     go_wp2_with fail
     exact ⟨⟨k+1,true,by omega,by go_num,rfl,⟨fun _=>(by omega),fun _=>rfl⟩,below_drewN HBX.out _,(by rw [HOL.out];exact HOX.out.below (below_drewN (Below.refl _ _) _))⟩,by simp [intOf];omega⟩
   ·have hbf:bb=true:=hbb.out.2 hkp
    subst hbf
    obtain ⟨hO,hls⟩:=HHI.out hkp
    have HOL:Hid (RL.outL ms m p q (k+1)=RL.outL ms m p q k++[mk]):=hO
    have hne:=ord_ne (by omega:ord mk m≠0)
    clear hO hls HLO HHI HEQ HNE hbb
    generalize RL.outL ms m p q k=L at *
    rcases hne with ⟨hne1,hne2⟩ | ⟨he1,he2,hne1,hne2⟩
    all_goals
     go_wp2_with fail
     go_quiet (fail)
     go_wp2_with fail
     go_quiet (fail)
     go_wp2_with (at_builtin;refine wpList_append_own _ rfl _ _ 24 rfl (w.heap.size+1) 62 i0 _ 9 104 Tryz.underlying24 hi0 hz0 hzs hzb rfl (by omega) _ (L).length (fl (L)) rfl ?hown ⟨wr.heap.size,0,none⟩ 1 1 (mk).cs rfl rfl ?hnews (cs_one _) ?h63 ?hbytes ?hbase ?_)
     case hown=>(refine HO.out.below ?_;repeat (first | exact Below.refl _ _ | refine below_drewN ?_ _ | refine Below.alloc ?_ (by simp) _ | refine Below.drew ?_))
     case hnews=>(intro j u hj;rw [Addr.add_lit];exact (cellsAt (heap_alloc_new wr (.cells #[.string mk.node,.string mk.idn,.string mk.name,.string mk.tag,.int .i64 mk.addr,.int .i64 mk.port,.bool mk.passing,.int .i64 mk.version,.bool mk.gone] 62)) (0+j)).trans (by simpa [Svc.cs] using hj))
     case h63=>(unfold maxLen;omega)
     case hbytes=>omega
     case hbase=>(simp;omega)
     intro v' w2 r1 r2 r3
     have HBX:Hid (Below (w.heap.size+1) W1 w2):=by
      have h0:Below (w.heap.size+1) W1 (wr.alloc (.cells #[.string mk.node,.string mk.idn,.string mk.name,.string mk.tag,.int .i64 mk.addr,.int .i64 mk.port,.bool mk.passing,.int .i64 mk.version,.bool mk.gone] 62)):=hbl.alloc (by omega) _
      exact h0.trans ((Below.refl _ _).grown (w:=wr.alloc (.cells #[.string mk.node,.string mk.idn,.string mk.name,.string mk.tag,.int .i64 mk.addr,.int .i64 mk.port,.bool mk.passing,.int .i64 mk.version,.bool mk.gone] 62)) ⟨r2.os,r2.tape,r2.output,r2.size,r2.block⟩ (by simp;omega) (fun j hj=>(HO.out.lt j hj).1))
     have HOX:Hid (Own (w.heap.size+1) w2 v' (L++[mk])):=own_snoc (by first | exact r1 | (rw [List.length_append];exact r1))
     clear r1 r2 r3
     go_wp2_with fail
     exact ⟨⟨k+1,true,by omega,by go_num,rfl,⟨fun _=>(by omega),fun _=>(rfl)⟩,HBX.out,(by rw [HOL.out];exact HOX.out)⟩,by simp [intOf];omega⟩
  ·have hkn:k=n:=by omega
   subst hkn
   have HBX:Hid (Below w.heap.size w wr):=hb01.out.trans (hbl.mono (by omega))
   by_cases hpk:p < k
   ·have hbf:bb=true:=hbb.out.2 hpk
    subst hbf
    have HFO:Hid (Own (w.heap.size+1) wr u5 (RL.put ms m p f)):=by
     have h:=HO.out
     rw [HPUT.out hpk] at h
     exact h
    clear HO hlen2
    go_wp2_with fail
    go_ret
    exact ⟨u5,rfl,HFO.out,HBX.out⟩
   ·have hbf:bb=false:=by
     cases bb
     ·rfl
     ·have:=hbb.out.1 rfl;omega
    subst hbf
    obtain ⟨hf,hput⟩:=HLAST.out (by omega)
    have HPL:Hid (RL.outL ms m p q k++[m]=RL.put ms m p f):=hput
    clear hput HPUT HLAST
    generalize RL.outL ms m p q k=L at *
    go_wp2_with (at_builtin;refine wpList_append_own _ rfl _ _ 24 rfl (w.heap.size+1) 62 i0 _ 9 104 Tryz.underlying24 hi0 hz0 hzs hzb rfl (by omega) _ (L).length (fl (L)) rfl ?hown ⟨wr.heap.size,0,none⟩ 1 1 (m).cs rfl rfl ?hnews (cs_one _) ?h63 ?hbytes ?hbase ?_)
    case hown=>(refine HO.out.below ?_;repeat (first | exact Below.refl _ _ | refine below_drewN ?_ _ | refine Below.alloc ?_ (by simp) _ | refine Below.drew ?_))
    case hnews=>(intro j u hj;rw [Addr.add_lit];exact (cellsAt (heap_alloc_new wr (.cells #[.string m.node,.string m.idn,.string m.name,.string m.tag,.int .i64 m.addr,.int .i64 m.port,.bool m.passing,.int .i64 m.version,.bool m.gone] 62)) (0+j)).trans (by simpa [Svc.cs] using hj))
    case h63=>(unfold maxLen;omega)
    case hbytes=>omega
    case hbase=>(simp;omega)
    intro v' w2 r1 r2 r3
    have HBY:Hid (Below w.heap.size w w2):=by
     have h0:Below (w.heap.size+1) W1 (wr.alloc (.cells #[.string m.node,.string m.idn,.string m.name,.string m.tag,.int .i64 m.addr,.int .i64 m.port,.bool m.passing,.int .i64 m.version,.bool m.gone] 62)):=hbl.alloc (by omega) _
     have h1:Below (w.heap.size+1) W1 w2:=h0.trans ((Below.refl _ _).grown (w:=wr.alloc (.cells #[.string m.node,.string m.idn,.string m.name,.string m.tag,.int .i64 m.addr,.int .i64 m.port,.bool m.passing,.int .i64 m.version,.bool m.gone] 62)) ⟨r2.os,r2.tape,r2.output,r2.size,r2.block⟩ (by simp;omega) (fun j hj=>(HO.out.lt j hj).1))
     exact hb01.out.trans (h1.mono (by omega))
    have HFO:Hid (Own (w.heap.size+1) w2 v' (RL.put ms m p f)):=by rw [← HPL.out];exact own_snoc r1
    clear r1 r2 r3
    go_wp2_with fail
    go_ret
    exact ⟨v',rfl,HFO.out,HBY.out⟩
end Sv
namespace Sv
open Go.RowKit
def AtI (ms:List Svc) (node idn:ByteArray) (r:Int):Prop:=
 (∃ k:Nat,k < ms.length∧r=k∧(ms.getD k dm).node=node∧(ms.getD k dm).idn=idn)∨(r = -1∧∀ j,j < ms.length→¬ ((ms.getD j dm).node=node∧(ms.getD j dm).idn=idn))
set_option maxHeartbeats 800000 in
theorem refAt_any (ms:List Svc) (v:Value) (node idn:ByteArray) (w:World) (hv:Sl w v ms) (hn:ms.length≤1000000) :
 Calls Tryz.prog 92 #[v,.string node,.string idn] w fun e w'=>∃ r:Int,e=.returned (.int .i64 r)∧Hid (AtI ms node idn r)∧w'=w:=by
 obtain ⟨pa,ca,rfl,_,ha⟩:=hv
 have HA:Hid (ms=[]∨∃ b off,pa=some ⟨b,off,none⟩∧b < w.heap.size∧Row w b off ms):=ha
 clear ha
 generalize hna:ms.length=n at *
 have HN:Hid (ms.length=n):=hna
 clear hna
 go_enter Tryz.func92,Tryz.ntmps92
 go_wp2_with fail
 go_loop [7] (fun i=>∃ k:Nat,k≤n∧i=.int .i64 k∧Hid (∀ j,j < k→¬ ((ms.getD j dm).node=node∧(ms.getD j dm).idn=idn))) (fun i=>n - (intOf i).toNat)
 case atStart=>exact ⟨0,Nat.zero_le _,rfl,fun j h=>absurd h (Nat.not_lt_zero _)⟩
 case round=>
  obtain ⟨k,hk,rfl,hz⟩:=hrel
  by_cases hlt:k < n
  ·obtain ⟨b1,o1,hp1,hl1,hr1⟩:∃ b off,pa=some ⟨b,off,none⟩∧b < w.heap.size∧Row w b off ms:=by
    rcases HA.out with h | h
    ·have:=HN.out;rw [h] at this;simp at this;omega
    ·exact h
   subst hp1
   obtain ⟨c0,c1,c2,c3,c4,c5,c6,c7,c8⟩:=hr1 k (by rw [HN.out];exact hlt)
   clear hr1
   have HF:Hid ((ms.getD k dm).node=node→(ms.getD k dm).idn=idn→AtI ms node idn (k:Int)):=fun h h2=>.inl ⟨k,by rw [HN.out];exact hlt,rfl,h,h2⟩
   have HZ:Hid (¬ ((ms.getD k dm).node=node∧(ms.getD k dm).idn=idn)→∀ j,j < k+1→¬ ((ms.getD j dm).node=node∧(ms.getD j dm).idn=idn)):=fun h j hj=>by
    rcases Nat.lt_succ_iff_lt_or_eq.1 hj with h2 | rfl
    ·exact hz.out j h2
    ·exact h
   generalize ms.getD k dm=m at *
   obtain ⟨mn,mi,m2,m3,m4,m5,m6,m7,m8⟩:=m
   simp only at c0 c1
   by_cases he:mn=node
   ·subst he
    by_cases he2:mi=idn
    ·subst he2
     have HF2:Hid (AtI ms mn mi (k:Int)):=HF.out rfl rfl
     clear HF HZ
     go_wp2_with fail
     go_ret
     exact ⟨k,rfl,HF2,rfl⟩
    ·obtain ⟨h1,h2⟩:=beq_name he2
     have HE:Hid (¬ mi=idn):=he2
     clear he2
     go_wp2_with fail
     go_round
     case rel=>exact ⟨k+1,by omega,by go_num,HZ.out (fun h=>HE.out h.2)⟩
     case measure=>simp [intOf];omega
   ·obtain ⟨h1,h2⟩:=beq_name he
    have HE:Hid (¬ mn=node):=he
    clear he
    go_wp2_with fail
    go_round
    case rel=>exact ⟨k+1,by omega,by go_num,HZ.out (fun h=>HE.out h.1)⟩
    case measure=>simp [intOf];omega
  ·go_wp2_with fail
   go_ret
   exact ⟨-1,rfl,.inr ⟨rfl,fun j hj=>hz.out j (by have:=HN.out;omega)⟩,rfl⟩
theorem ord_zero {a b:Svc}:ord a b=0↔a.node=b.node∧a.idn=b.idn:=by
 constructor
 ·intro h
  obtain ⟨h1,h2⟩:=RL.lex_zero h
  exact ⟨(cmpI_eq _ _).1 h1,(cmpI_eq _ _).1 h2⟩
 ·rintro ⟨h1,h2⟩
  show (if cmpI a.node b.node=0 then cmpI a.idn b.idn else cmpI a.node b.node)=0
  rw [if_pos ((cmpI_eq _ _).2 h1)];exact (cmpI_eq _ _).2 h2
theorem atI_at {ms:List Svc} {t:Svc} {r:Int} {p:Nat} {f:Bool} (hi:AtI ms t.node t.idn r) (ha:At ms t p f) (hr:Rise ms):(f=true→r=p)∧(f=false→r = -1):=by
 rcases hi with ⟨k,hk,rfl,hn⟩ | ⟨rfl,hn⟩
 ·obtain ⟨rfl,rfl⟩:=at_uniq ha (RL.at_of ord dm keyed hr hk (ord_zero.2 hn))
  exact ⟨fun _=>rfl,fun h=>by cases h⟩
 ·refine ⟨fun h=>?_,fun _=>rfl⟩
  have:=ha.is.1 h
  exact absurd (ord_zero.1 this.2) (hn p this.1)
theorem put_hear {ms:List Svc} {m:Svc} {p:Nat} {f:Bool} (h:At ms m p f) (hn:f=true→newE m (ms.getD p dm)=true):RL.put ms m p f=hearL ms m:=(RL.hear_put ord newE dm h hn).symm
end Sv
namespace Sv
open Go.RowKit
theorem at_key {ms:List Svc} {s t:Svc} {p:Nat} {f:Bool} (hk:s.node=t.node) (hi:s.idn=t.idn) (h:At ms s p f):At ms t p f:=by
 have e:∀ x,ord x s=ord x t:=fun x=>by
  show (if cmpI x.node s.node=0 then cmpI x.idn s.idn else cmpI x.node s.node)=(if cmpI x.node t.node=0 then cmpI x.idn t.idn else cmpI x.node t.node)
  rw [hk,hi]
 exact ⟨h.le,fun j hj=>by rw [← e];exact h.lo j hj,fun j hj hl=>by rw [← e];exact h.hi j hj hl,by rw [← e];exact h.is⟩
theorem put_ok {ms:List Svc} {m:Svc} {p:Nat} {f:Bool} (h:∀ x∈ms,x.ok) (hm:m.ok):∀ x∈RL.put ms m p f,x.ok:=fun x hx=>by
 unfold RL.put at hx
 rcases List.mem_append.1 hx with hx | hx
 ·exact h x (List.mem_of_mem_take hx)
 ·rcases List.mem_cons.1 hx with rfl | hx
  ·exact hm
  ·exact h x (List.mem_of_mem_drop hx)
def setS (ms:List Svc) (p:Nat) (f:Bool) (s:Svc):Svc:={ s with version:=(fnd ms p f).version+1 }
def setE (ms:List Svc) (p:Nat) (f:Bool) (s:Svc):Int:=
 if (fnd ms p f).version+1≤1000000 then (if 40 < (RL.put ms (setS ms p f s) p f).length then 2 else 0) else 3
end Sv
namespace Sv
open Go.RowKit
def asOne (s:Svc):Svc:={ s with version:=1,gone:=false }
def regE (ms:List Svc) (p:Nat) (f:Bool) (s:Svc):Int:=if (asOne s).e=0 then setE ms p f (asOne s) else (asOne s).e
theorem reg_set (ms:List Svc) (p:Nat) (f:Bool) (s:Svc):setS ms p f (asOne s)=reg ms p f s:=rfl
theorem reg_e (ms:List Svc) (p:Nat) (f:Bool) (s:Svc) (hv:0≤(fnd ms p f).version):(reg ms p f s).e=if (asOne s).e=0 then (if (fnd ms p f).version+1≤1000000 then 0 else 3) else (asOne s).e:=by
 have h:(within ((fnd ms p f).version+1) 1 1000000=true)↔(fnd ms p f).version+1≤1000000:=by simp [within];omega
 have h1:within (1:Int) 1 1000000=true:=by decide
 rw [e_if,e_if]
 show (if labB s.node=true then (if labB s.idn=true then (if labB s.name=true then (if tagB s.tag=true then (if within s.addr 0 4294967295=true then (if within s.port 0 65535=true then (if within ((fnd ms p f).version+1) 1 1000000=true then (0:Int) else 3) else 3) else 3) else 1) else 1) else 1) else 1)=(if (if labB s.node=true then (if labB s.idn=true then (if labB s.name=true then (if tagB s.tag=true then (if within s.addr 0 4294967295=true then (if within s.port 0 65535=true then (if within (1:Int) 1 1000000=true then (0:Int) else 3) else 3) else 3) else 1) else 1) else 1) else 1)=0 then (if (fnd ms p f).version+1≤1000000 then 0 else 3) else (if labB s.node=true then (if labB s.idn=true then (if labB s.name=true then (if tagB s.tag=true then (if within s.addr 0 4294967295=true then (if within s.port 0 65535=true then (if within (1:Int) 1 1000000=true then (0:Int) else 3) else 3) else 3) else 1) else 1) else 1) else 1))
 rw [h1]
 by_cases h3:(fnd ms p f).version+1≤1000000
 ·rw [h.2 h3]
  cases labB s.node<;>cases labB s.idn<;>cases labB s.name<;>cases tagB s.tag<;>cases within s.addr 0 4294967295<;>cases within s.port 0 65535<;>simp [h3]
 ·have h4:within ((fnd ms p f).version+1) 1 1000000=false:=by
   cases hw:within ((fnd ms p f).version+1) 1 1000000
   ·rfl
   ·exact absurd (h.1 hw) h3
  rw [h4]
  cases labB s.node<;>cases labB s.idn<;>cases labB s.name<;>cases tagB s.tag<;>cases within s.addr 0 4294967295<;>cases within s.port 0 65535<;>simp [h3]
theorem up_new {ms:List Svc} {p:Nat} {f:Bool} {m:Svc} (hf:f=true) (hm:m.version=(fnd ms p f).version+1):newE m (ms.getD p dm)=true:=by
 rw [newE_def]
 have hv:m.version=(ms.getD p dm).version+1:=by rw [hm,fnd,if_pos hf]
 rw [if_neg (by omega)]
 exact decide_eq_true (by omega)
theorem reg_join {ms:List Svc} (h0:chk ms=0) {p:Nat} {f:Bool} {s:Svc} (hat:At ms (keyOf s) p f) :
 joinE ms [reg ms p f s]=regE ms p f s∧joinL ms [reg ms p f s]=RL.put ms (reg ms p f s) p f:=by
 have h1:At ms (reg ms p f s) p f:=at_key (s:=keyOf s) (t:=reg ms p f s) rfl rfl hat
 have h2:joinL ms [reg ms p f s]=RL.put ms (reg ms p f s) p f:=(put_hear h1 (fun hf=>up_new hf rfl)).symm
 refine ⟨?_,h2⟩
 have hv:=fnd_ver (chk_zero h0).2.2 hat
 have he:=reg_e ms p f s hv.1
 unfold regE
 by_cases h3:(asOne s).e=0
 ·rw [if_pos h3] at he ⊢
  unfold setE
  rw [reg_set]
  by_cases h4:(fnd ms p f).version+1≤1000000
  ·rw [if_pos h4] at he ⊢
   rw [joinE_good h0 (by rw [chk_one];exact he),h2]
  ·rw [if_neg h4] at he ⊢
   rw [joinE_bad2 h0 (by rw [chk_one,he];decide),chk_one,he]
 ·rw [if_neg h3] at he ⊢
  rw [joinE_bad2 h0 (by rw [chk_one,he];exact h3),chk_one,he]
end Sv
end Go.Proofs.YtikgjgmgbfjcgaaGreat
