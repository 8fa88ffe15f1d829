import Derived.Test.YtffdoiokmiklgaaGreatDoorX28
import Derived.Test.YtffdoiokmiklgaaGreatDoorX18
import Derived.Test.YtffdoiokmiklgaaGreatDoorX46
import Derived.Test.YtffdoiokmiklgaaGreatDoorX27
import Derived.Test.YtffdoiokmiklgaaGreatDoorX29
import Derived.Test.YtffdoiokmiklgaaGreatDoorX13
import Derived.Test.YtffdoiokmiklgaaGreatDoorX37
import Derived.Deep.RegionHeld3
namespace Go.Proofs.YtffdoiokmiklgaaGreatDoor
namespace Gw
open Go.RowKit
set_option maxHeartbeats 1600000 in
theorem refCheck_row (ms:List Gwy) (b off cap:Nat) (w:World) (hr:Row w b off ms) (hb:b < w.heap.size) (hn:ms.length≤6) (hs:∀ j,(ms.getD j dm).ok) :
 Calls Tryz.prog 45 #[.slice (some ⟨b,off,none⟩) ms.length cap] w fun e w'=>e=.returned (.int .i64 (chk ms))∧Below w.heap.size w w':=by
 have HR:Hid (Row w b off ms):=hr
 clear hr
 have HE:Hid (∀ k,k < ms.length→(∀ j,j < k→(ms.getD j dm).e=0)→(ms.getD k dm).e≠0→chk ms=(ms.getD k dm).e):=fun k h1 h2 h3=>chk_e ms k hn h1 h2 h3
 have H4:Hid ((∀ j,j < ms.length→(ms.getD j dm).e=0)→∀ k,k+1 < ms.length→less (ms.getD k dm).centre (ms.getD (k+1) dm).centre=false→chk ms=4):=fun h1 k h2 h3=>chk_4 ms k hn h1 h2 (fun h=>by rw [show ord (ms.getD k dm) (ms.getD (k+1) dm)=cmpI (ms.getD k dm).centre (ms.getD (k+1) dm).centre from rfl,cmpI_lt,h3] at h;cases h)
 have H0:Hid ((∀ j,j < ms.length→(ms.getD j dm).e=0)→(∀ j,j+1 < ms.length→less (ms.getD j dm).centre (ms.getD (j+1) dm).centre=true)→chk ms=0):=fun h1 h2=>chk_0 ms hn h1 (fun j hj=>(cmpI_lt _ _).2 (h2 j hj))
 generalize hN:ms.length=n at *
 have HN:Hid (ms.length=n):=hN
 clear hN
 have HS:Hid (∀ j,(ms.getD j dm).ok):=hs
 clear hs
 generalize hC:chk ms=res at *
 have HC:Hid (chk ms=res):=hC
 clear hC
 go_enter Tryz.func45,Tryz.ntmps45
 go_wp2_with fail
 go_loopw [3] (fun i w'=>∃ k:Nat,k≤n∧i=.int .i64 k∧Below w.heap.size w w'∧Hid (∀ j,j < k→(ms.getD j dm).e=0)) (fun i _=>n - (intOf i).toNat)
 case atStart=>exact ⟨0,Nat.zero_le _,rfl,Below.refl _ _,fun j h=>absurd h (Nat.not_lt_zero _)⟩
 case round=>
  obtain ⟨k,hk,rfl,hbl,hz⟩:=hrel
  obtain ⟨hbc,hbf⟩:=bcell hbl
  have hsz:=hbl.size
  by_cases hlt:k < n
  ·obtain ⟨c0,c1,c2⟩:=HR.out k (by rw [HN.out];exact hlt)
   have hsk:(ms.getD k dm).centre.size≤maxLen:=HS.out k
   have HK:Hid ((ms.getD k dm).e≠0→res=(ms.getD k dm).e):=fun h=>HE.out k hlt hz.out h
   have HZ:Hid ((ms.getD k dm).e=0→∀ j,j < k+1→(ms.getD j dm).e=0):=fun h j hj=>by
    rcases Nat.lt_succ_iff_lt_or_eq.1 hj with h2 | rfl
    ·exact hz.out j h2
    ·exact h
   generalize ms.getD k dm=m at *
   have HD:Hid (m.e=if labB m.centre=true then (if within m.addr 0 4294967295=true then (if within m.version 1 1000000=true then 0 else 3) else 3) else 1):=rfl
   generalize m.e=me at *
   rcases h1:labB m.centre with _ | _
   ·have HRes:Hid (res=1):=(HK.out (by rw [HD.out];simp [h1])).trans (by rw [HD.out];simp [h1])
    go_wp2_with (go_at_call 41;refine (isLabel_any _ _ hsk).mono ?_;rintro e w' ⟨rfl,rfl⟩;rw [h1])
    go_ret
    exact ⟨ret_int HRes.out.symm,hbl⟩
   ·rcases h2:within m.addr 0 4294967295 with _ | _
    ·have HRes:Hid (res=3):=(HK.out (by rw [HD.out];simp [h1,h2])).trans (by rw [HD.out];simp [h1,h2])
     go_wp2_with (first | (go_at_call 41;refine (isLabel_any _ _ hsk).mono ?_;rintro e w' ⟨rfl,rfl⟩;rw [h1]) | (go_at_call 82;refine (isAddress_any _ _).mono ?_;rintro e w' ⟨rfl,rfl⟩;rw [h2]))
     go_ret
     exact ⟨ret_int HRes.out.symm,hbl⟩
    ·rcases h3:within m.version 1 1000000 with _ | _
     ·have HRes:Hid (res=3):=(HK.out (by rw [HD.out];simp [h1,h2,h3])).trans (by rw [HD.out];simp [h1,h2,h3])
      go_wp2_with (first | (go_at_call 41;refine (isLabel_any _ _ hsk).mono ?_;rintro e w' ⟨rfl,rfl⟩;rw [h1]) | (go_at_call 82;refine (isAddress_any _ _).mono ?_;rintro e w' ⟨rfl,rfl⟩;rw [h2]) | (go_at_call 22;refine (between_any _ _ _ _).mono ?_;rintro e w' ⟨rfl,rfl⟩;rw [h3]))
      go_ret
      exact ⟨ret_int HRes.out.symm,hbl⟩
     ·have HM0:Hid (me=0):=(show me=0 by rw [HD.out];simp [h1,h2,h3])
      go_wp2_with (first | (go_at_call 41;refine (isLabel_any _ _ hsk).mono ?_;rintro e w' ⟨rfl,rfl⟩;rw [h1]) | (go_at_call 82;refine (isAddress_any _ _).mono ?_;rintro e w' ⟨rfl,rfl⟩;rw [h2]) | (go_at_call 22;refine (between_any _ _ _ _).mono ?_;rintro e w' ⟨rfl,rfl⟩;rw [h3]))
      go_roundw
      case rel=>exact ⟨k+1,by omega,by go_num,hbl,HZ.out HM0.out⟩
      case measure=>simp [intOf];omega
  ·have hall:Hid (∀ j,j < n→(ms.getD j dm).e=0):=fun j hj=>hz.out j (by omega)
   clear hz
   go_wp2_with fail
   go_loopw [4] (fun i w'=>∃ k:Nat,(k+1≤n∨k=0)∧i=.int .i64 (k+1)∧Below w.heap.size w w'∧Hid (∀ j,j < k→less (ms.getD j dm).centre (ms.getD (j+1) dm).centre=true)) (fun i _=>n - (intOf i).toNat)
   case atStart=>exact ⟨0,.inr rfl,rfl,hbl,fun j h=>absurd h (Nat.not_lt_zero _)⟩
   case round=>
    clear hbc hbf hsz hbl
    obtain ⟨q,hq,rfl,hbl,hz⟩:=hrel
    obtain ⟨hbc,hbf⟩:=bcell hbl
    have hsz:=hbl.size
    by_cases hlt:q+1 < n
    ·obtain ⟨c0,_,_⟩:=HR.out q (by rw [HN.out];omega)
     obtain ⟨d0,_,_⟩:=HR.out (q+1) (by rw [HN.out];exact hlt)
     have HK:Hid (less (ms.getD q dm).centre (ms.getD (q+1) dm).centre=false→res=4):=fun h=>H4.out hall.out q hlt h
     have HZ:Hid (less (ms.getD q dm).centre (ms.getD (q+1) dm).centre=true→∀ j,j < q+1→less (ms.getD j dm).centre (ms.getD (j+1) dm).centre=true):=fun h j hj=>by
      rcases Nat.lt_succ_iff_lt_or_eq.1 hj with h2 | rfl
      ·exact hz.out j h2
      ·exact h
     generalize ms.getD q dm=m1 at *
     generalize ms.getD (q+1) dm=m2 at *
     rcases hl:Op.bytesLess m1.centre.toList m2.centre.toList with _ | _
     ·have h4:Hid (res=4):=HK.out hl
      have hl2:=bl_total m1.centre.toList m2.centre.toList
      rw [hl] at hl2
      have hl3:=hl2.symm
      clear hl2 hl
      go_wp2_with fail
      go_quiet (fail)
      go_wp2_with fail
      go_ret
      exact ⟨ret_int h4.out.symm,below_drewN hbl _⟩
     ·have hl2:=bl_total m1.centre.toList m2.centre.toList
      rw [hl] at hl2
      have hl3:=hl2.symm
      clear hl2
      have HL:Hid (Op.bytesLess m1.centre.toList m2.centre.toList=true):=hl
      clear hl
      go_wp2_with fail
      go_quiet (fail)
      go_wp2_with fail
      go_roundw
      case rel=>exact ⟨q+1,.inl (by omega),by go_num,below_drewN hbl _,HZ.out HL.out⟩
      case measure=>simp [intOf];omega
    ·have h0:Hid (res=0):=H0.out hall.out fun j hj=>hz.out j (by omega)
     go_wp2_with fail
     go_ret
     exact ⟨ret_int h0.out.symm,hbl⟩
set_option maxHeartbeats 400000 in
theorem refCheck_many (a:Option Addr) (n cap:Nat) (w:World) (hn:6 < n) :
 Calls Tryz.prog 45 #[.slice a n cap] w fun e w'=>e=.returned (.int .i64 2)∧w'=w:=by
 go_enter Tryz.func45,Tryz.ntmps45
 go_wp2_with fail
 go_ret
 exact ⟨rfl,rfl⟩
set_option maxHeartbeats 400000 in
theorem refCheck_none (a:Option Addr) (cap:Nat) (w:World) :
 Calls Tryz.prog 45 #[.slice a 0 cap] w fun e w'=>e=.returned (.int .i64 0)∧w'=w:=by
 go_enter Tryz.func45,Tryz.ntmps45
 go_wp2_with fail
 go_loop [3] (fun i=>i=.int .i64 0) (fun _=>0)
 case atStart=>rfl
 case round=>
  subst hrel
  go_wp2_with fail
  go_loop [4] (fun i=>i=.int .i64 1) (fun _=>0)
  case atStart=>rfl
  case round=>
   subst hrel
   go_wp2_with fail
   go_ret
   exact ⟨rfl,rfl⟩
theorem refCheck_any (ms:List Gwy) (v:Value) (w:World) (h:Sl w v ms) :
 Calls Tryz.prog 45 #[v] w fun e w'=>e=.returned (.int .i64 (chk ms))∧Below w.heap.size w w':=by
 obtain ⟨a,cap,rfl,hs,h⟩:=h
 by_cases hn:6 < ms.length
 ·refine (refCheck_many a ms.length cap w hn).mono ?_
  rintro e w' ⟨rfl,rfl⟩
  exact ⟨ret_int (by rw [chk,if_pos hn]),Below.refl _ _⟩
 ·rcases h with rfl | ⟨b,off,rfl,hb,hr⟩
  ·refine (refCheck_none a cap w).mono ?_
   rintro e w' ⟨rfl,rfl⟩
   exact ⟨rfl,Below.refl _ _⟩
  ·exact refCheck_row ms b off cap w hr hb (by omega) hs
end Gw
end Go.Proofs.YtffdoiokmiklgaaGreatDoor
namespace Go.Proofs.YtffdoiokmiklgaaGreatDoor
open Go.RowKit Go.WideMaps Go.Maps
set_option maxHeartbeats 12800000 in
set_option maxRecDepth 100000 in
theorem refTold_any (frm:ByteArray) (ms:List Mem) (a2 a3 a4:Option Addr) (c2 c3 c4:Nat) (v:Value) (w:World) (hv:Sl w v ms) (hfr:frm.size≤maxLen) (hlab:labB frm=true) :
 Calls Tryz.prog 53 #[.agg #[.string frm,.bool false,v,.slice a2 0 c2,.slice a3 0 c3,.slice a4 0 c4]] w fun e w'=>e=.returned (.int .i64 (chkT ms))∧Below w.heap.size w w':=by
 obtain ⟨pa,ca,rfl,hsz,ha⟩:=hv
 obtain ⟨W0,hW0⟩:∃ W0,W0=w.alloc (.cells #[.string frm,.bool false,.slice pa ms.length ca,.slice a2 0 c2,.slice a3 0 c3,.slice a4 0 c4] 67):=⟨_,rfl⟩
 have hb0:Below w.heap.size w W0:=by rw [hW0];exact (Below.refl _ _).alloc (Nat.le_refl _) _
 have hg0:W0.heap[w.heap.size]?=some (.cells #[.string frm,.bool false,.slice pa ms.length ca,.slice a2 0 c2,.slice a3 0 c3,.slice a4 0 c4] 67 (0,0)):=by rw [hW0];exact heap_alloc_new w _
 have hs0:w.heap.size < W0.heap.size:=by rw [hW0];simp
 have HB0:Hid (Below w.heap.size w W0):=hb0
 have HX:Hid (∀ W,Below W0.heap.size W0 W→W.cell? ⟨w.heap.size,2,none⟩=some (.slice pa ms.length ca)):=fun W hW=>cellsAt ((hW.block _ hs0).trans hg0) 2
 by_cases hmany:5 < ms.length
 ·have HE:Hid (chkT ms=2):=chkT_many hmany
  clear hb0 hg0 HX
  go_enter Tryz.func53,Tryz.ntmps53
  go_wp2_with (go_at_call 41;refine (isLabel_any _ _ hfr).mono ?_;rintro e w' ⟨rfl,rfl⟩;rw [hlab])
  go_ret
  exact ⟨ret_int HE.out.symm,(Below.refl _ _).alloc (Nat.le_refl _) _⟩
 have HA:Hid (ms=[]∨∃ b off,pa=some ⟨b,off,none⟩∧b < w.heap.size∧Row w b off ms):=ha
 have HS:Hid (∀ j,(ms.getD j dm).name.size≤maxLen):=hsz
 clear ha hsz
 generalize hN:ms.length=n at *
 have HN:Hid (ms.length=n):=hN
 clear hN
 have hn5:n≤5:=by omega
 go_enter Tryz.func53,Tryz.ntmps53
 go_wp2_with (go_at_call 41;refine (isLabel_any _ _ hfr).mono ?_;rintro e w' ⟨rfl,rfl⟩;rw [hlab])
 go_loopw [4] (fun i wr=>∃ k:Nat,k≤n∧i=.int .i64 k∧Hid (∀ j,j < k→(ms.getD j dm).e=0)∧Hid (Below W0.heap.size W0 wr)) (fun i _=>n - (intOf i).toNat)
 case atStart=>exact ⟨0,Nat.zero_le _,rfl,fun j hj=>by omega,by rw [hW0];exact Below.refl _ _⟩
 case round=>
  obtain ⟨k,hk,rfl,HZ,HB⟩:=hrel
  have hx2:=HX.out wr HB.out
  have HBW:Hid (Below w.heap.size w wr):=HB0.out.trans (HB.out.mono (by omega))
  have hszr:=HB.out.size
  by_cases hlt:k < n
  ·obtain ⟨b,off,hp,hl,hr⟩:∃ b off,pa=some ⟨b,off,none⟩∧b < w.heap.size∧Row w b off ms:=by
    rcases HA.out with h | h
    ·have:=HN.out;rw [h] at this;simp at this;omega
    ·exact h
   subst hp
   obtain ⟨c0,c1,c2',c3',c4'⟩:=(hr.later HBW.out hl) k (by rw [HN.out];exact hlt)
   have hnm:=HS.out k
   have HXE:Hid ((ms.getD k dm).e≠0→chkT ms=(ms.getD k dm).e):=fun h=>chkT_e (by rw [HN.out];exact hn5) (by rw [HN.out];exact hlt) HZ.out h
   have HZ2:Hid ((ms.getD k dm).e=0→∀ j,j < k+1→(ms.getD j dm).e=0):=fun h j hj=>by
    by_cases e:j=k
    ·subst e;exact h
    ·exact HZ.out j (by omega)
   generalize (ms.getD k dm)=mk at *
   obtain ⟨nm,st,lf,ad,sv⟩:=mk
   simp only at c0 c1 c2' c3' c4' hnm HXE HZ2
   simp only [Mem.e] at HXE HZ2
   clear hr HZ
   have hkn:(k:Int) < n:=by omega
   go_wp2_with fail
   refine (oneMember_any nm st lf ad sv _ hnm).mono ?_
   rintro e w1 ⟨rfl,rfl⟩
   by_cases he:oneE nm st lf ad=0
   ·have he':(oneE nm st lf ad != 0)=false:=by simpa using he
    have HZ3:Hid (∀ j,j < k+1→(ms.getD j dm).e=0):=HZ2.out he
    clear HXE HZ2 he
    generalize oneE nm st lf ad=me at *
    go_wp2_with fail
    go_roundw
    case rel=>exact ⟨k+1,by omega,by go_num,HZ3,HB.out.alloc hszr _⟩
    case measure=>simp [intOf];omega
   ·have he':(oneE nm st lf ad != 0)=true:=by simpa using he
    have HR:Hid (chkT ms=oneE nm st lf ad):=HXE.out he
    clear HXE HZ2 he
    generalize oneE nm st lf ad=me at *
    go_wp2_with fail
    go_ret
    exact ⟨ret_int HR.out.symm,HBW.out.alloc HBW.out.size _⟩
  ·have HZA:Hid (∀ j,j < ms.length→(ms.getD j dm).e=0):=fun j hj=>HZ.out j (by rw [HN.out] at hj;omega)
   clear HZ
   go_wp2_with fail
   go_loopw [6] (fun i wr=>∃ k:Nat,k≤n∧i=.int .i64 k∧Hid (∀ a b,a < b→b < k→(ms.getD a dm).name≠(ms.getD b dm).name)∧Hid (Below W0.heap.size W0 wr)) (fun i _=>n - (intOf i).toNat)
   case atStart=>exact ⟨0,Nat.zero_le _,rfl,fun a b _ hb=>by omega,HB⟩
   case round=>
    clear HB hlt hk hx2 HBW hszr
    obtain ⟨k3,hk,rfl,HZ,HB⟩:=hrel
    have hx2:=HX.out wr HB.out
    have HBW:Hid (Below w.heap.size w wr):=HB0.out.trans (HB.out.mono (by omega))
    by_cases hlt:k3 < n
    ·obtain ⟨b,off,hp,hl,hr⟩:∃ b off,pa=some ⟨b,off,none⟩∧b < w.heap.size∧Row w b off ms:=by
      rcases HA.out with h | h
      ·have:=HN.out;rw [h] at this;simp at this;omega
      ·exact h
     subst hp
     have HR:Hid (Row w b off ms):=hr
     clear hr
     go_wp2_with fail
     go_loopw [7] (fun i wr=>∃ k:Nat,k≤k3∧i=.int .i64 k∧Hid (∀ a,a < k→(ms.getD a dm).name≠(ms.getD k3 dm).name)∧Hid (Below W0.heap.size W0 wr)) (fun i _=>k3 - (intOf i).toNat)
     case atStart=>exact ⟨0,Nat.zero_le _,rfl,fun a ha=>by omega,HB⟩
     case round=>
      clear HB hk hx2 HBW
      obtain ⟨k4,hk4,rfl,HY,HB⟩:=hrel
      have hx2:=HX.out wr HB.out
      have HBW:Hid (Below w.heap.size w wr):=HB0.out.trans (HB.out.mono (by omega))
      by_cases hlt4:k4 < k3
      ·obtain ⟨c0,_,_,_,_⟩:=(HR.out.later HBW.out hl) k4 (by rw [HN.out];omega)
       obtain ⟨d0,_,_,_,_⟩:=(HR.out.later HBW.out hl) k3 (by rw [HN.out];exact hlt)
       have HXE:Hid ((ms.getD k4 dm).name=(ms.getD k3 dm).name→chkT ms=6):=fun h=>chkT_twice (by rw [HN.out];exact hn5) HZA.out (fun hd=>hd k4 k3 hlt4 (by rw [HN.out];exact hlt) h)
       have HY2:Hid ((ms.getD k4 dm).name≠(ms.getD k3 dm).name→∀ a,a < k4+1→(ms.getD a dm).name≠(ms.getD k3 dm).name):=fun h a ha=>by
        by_cases e:a=k4
        ·subst e;exact h
        ·exact HY.out a (by omega)
       have hbq:=beq_names (ms.getD k4 dm).name (ms.getD k3 dm).name
       clear HY HZ
       generalize (ms.getD k4 dm).name=x4 at *
       generalize (ms.getD k3 dm).name=x3 at *
       by_cases hx:x4=x3
       ·have HE:Hid (chkT ms=6):=HXE.out hx
        subst hx
        clear HXE HY2 hbq
        go_wp2_with fail
        go_quiet (fail)
        go_wp2_with fail
        go_ret
        exact ⟨ret_int HE.out.symm,below_drewN HBW.out _⟩
       ·have HY3:Hid (∀ a,a < k4+1→(ms.getD a dm).name≠x3):=HY2.out hx
        rw [decide_eq_false hx] at hbq
        clear HXE HY2 hx
        go_wp2_with fail
        go_quiet (fail)
        go_wp2_with fail
        exact ⟨⟨k4+1,by omega,by go_num,HY3,below_drewN HB.out _⟩,by simp [intOf];omega⟩
      ·have HZ3:Hid (∀ a b,a < b→b < k3+1→(ms.getD a dm).name≠(ms.getD b dm).name):=fun a b hab hb=>by
        by_cases e:b=k3
        ·subst e;exact HY.out a (by omega)
        ·exact HZ.out a b hab (by omega)
       clear HZ HY
       go_wp2_with fail
       exact ⟨⟨k3+1,by omega,by go_num,HZ3,HB⟩,by simp [intOf];omega⟩
    ·have HE:Hid (chkT ms=0):=chkT_ok (by rw [HN.out];exact hn5) HZA.out (fun a b hab hb=>HZ.out a b hab (by rw [HN.out] at hb;omega))
     clear HZ
     go_wp2_with fail
     go_ret
     exact ⟨ret_int HE.out.symm,HBW.out⟩
set_option maxHeartbeats 6400000 in
set_option maxRecDepth 100000 in
theorem refPacket_any (p:Pk) (vm vs vg vw:Value) (w:World) (h:PkIs w p vm vs vg vw) :
 Calls Tryz.prog 53 #[.agg #[.string p.frm,.bool p.whole,vm,vs,vg,vw]] w fun e w'=>e=.returned (.int .i64 p.e)∧Below w.heap.size w w':=by
 obtain ⟨frm,whole,ms,sv,gw,wh⟩:=p
 obtain ⟨hms,hsv,hgw,hwh,hfr,hroom⟩:=h
 simp only at hms hsv hgw hwh hfr ⊢
 have HMS:Hid (Sl w vm ms):=hms
 have HM1:Hid (∀ W,Below w.heap.size w W→Calls Tryz.prog 42 #[vm] W fun e w'=>e=.returned (.int .i64 (chk ms))∧Below W.heap.size W w'):=fun W hW=>checkMembers_any ms vm W (hms.below hW)
 have HS:Hid (∀ W,Below w.heap.size w W→Calls Tryz.prog 44 #[vs] W fun e w'=>e=.returned (.int .i64 (Sv.chk sv))∧Below W.heap.size W w'):=fun W hW=>Sv.refCheck_any sv vs W (hsv.below hW)
 have HG:Hid (∀ W,Below w.heap.size w W→Calls Tryz.prog 45 #[vg] W fun e w'=>e=.returned (.int .i64 (Gw.chk gw))∧Below W.heap.size W w'):=fun W hW=>Gw.refCheck_any gw vg W (hgw.below hW)
 have HW:Hid (∀ W,Below w.heap.size w W→Calls Tryz.prog 47 #[vw] W fun e w'=>e=.returned (.int .i64 (Wh.chk wh))∧Below W.heap.size W w'):=fun W hW=>Wh.refCheck_any wh vw W (hwh.below hW)
 have HE:Hid (Pk.e ⟨frm,whole,ms,sv,gw,wh⟩=if (labB frm && (whole || (decide (sv.length=0) && (decide (gw.length=0) && decide (wh.length=0)))))=true then
  (if (if whole=true then chk ms else chkT ms)=0 then (if Sv.chk sv=0 then (if Gw.chk gw=0 then Wh.chk wh else Gw.chk gw) else Sv.chk sv) else (if whole=true then chk ms else chkT ms)) else 1):=by
  show Pk.e _=_
  rw [← isEmpty_len,← isEmpty_len,← isEmpty_len];rfl
 generalize Pk.e ⟨frm,whole,ms,sv,gw,wh⟩=res at *
 obtain ⟨a2,c2,rfl,_,_⟩:=hsv
 obtain ⟨a3,c3,rfl,_,_⟩:=hgw
 obtain ⟨a4,c4,rfl,_,_⟩:=hwh
 have HZ2:Hid (sv.length=0→Sv.chk sv=0):=fun h=>by rw [List.eq_nil_of_length_eq_zero h];rfl
 have HZ3:Hid (gw.length=0→Gw.chk gw=0):=fun h=>by rw [List.eq_nil_of_length_eq_zero h];rfl
 have HZ4:Hid (wh.length=0→Wh.chk wh=0):=fun h=>by rw [List.eq_nil_of_length_eq_zero h];rfl
 clear hms
 generalize Sv.chk sv=se at *
 generalize Gw.chk gw=ge at *
 generalize Wh.chk wh=we at *
 generalize chk ms=m1 at *
 generalize sv.length=n2 at *
 generalize gw.length=n3 at *
 generalize wh.length=n4 at *
 rcases hlab:labB frm with _ | _
 ·have HR:Hid (res=1):=HE.out.trans (by rw [hlab];rfl)
  go_enter Tryz.func53,Tryz.ntmps53
  go_wp2_with (go_at_call 41;refine (isLabel_any _ _ hfr).mono ?_;rintro e w' ⟨rfl,rfl⟩;rw [hlab])
  go_ret
  exact ⟨ret_int HR.out.symm,(Below.refl _ _).alloc (Nat.le_refl _) _⟩
 cases whole
 ·by_cases hal:n2=0∧n3=0∧n4=0
  ·obtain ⟨rfl,rfl,rfl⟩:=hal
   refine (refTold_any frm ms a2 a3 a4 c2 c3 c4 vm w HMS.out hfr hlab).mono ?_
   rintro e w' ⟨rfl,hb⟩
   refine ⟨ret_int ?_,hb⟩
   rw [HE.out,hlab,HZ2.out rfl,HZ3.out rfl,HZ4.out rfl]
   simp only [Bool.true_and,Bool.false_or,decide_true,if_true,Bool.false_eq_true,if_false]
   split
   ·rename_i h;exact h
   ·rfl
  ·have HR:Hid (res=1):=HE.out.trans (by
    rw [hlab,if_neg]
    simp only [Bool.true_and,Bool.false_or,Bool.and_eq_true,decide_eq_true_eq]
    exact hal)
   have h3:0 < n2∨(n2=0∧0 < n3)∨(n2=0∧n3=0∧0 < n4):=by omega
   clear hal
   rcases h3 with h | ⟨rfl,h⟩ | ⟨rfl,rfl,h⟩
   all_goals
    go_enter Tryz.func53,Tryz.ntmps53
    go_wp2_with (go_at_call 41;refine (isLabel_any _ _ hfr).mono ?_;rintro e w' ⟨rfl,rfl⟩;rw [hlab])
    go_ret
    exact ⟨ret_int HR.out.symm,(Below.refl _ _).alloc (Nat.le_refl _) _⟩
 ·have HE2:Hid (res=if m1=0 then (if se=0 then (if ge=0 then we else ge) else se) else m1):=HE.out.trans (by rw [hlab];rfl)
  clear HE
  obtain ⟨W0,hW0⟩:∃ W0,W0=w.alloc (.cells #[.string frm,.bool true,vm,.slice a2 n2 c2,.slice a3 n3 c3,.slice a4 n4 c4] 67):=⟨_,rfl⟩
  have hb0:Below w.heap.size w W0:=by rw [hW0];exact (Below.refl _ _).alloc (Nat.le_refl _) _
  have hg0:W0.heap[w.heap.size]?=some (.cells #[.string frm,.bool true,vm,.slice a2 n2 c2,.slice a3 n3 c3,.slice a4 n4 c4] 67 (0,0)):=by rw [hW0];exact heap_alloc_new w _
  have hs0:w.heap.size < W0.heap.size:=by rw [hW0];simp
  have HB0:Hid (Below w.heap.size w W0):=hb0
  have HX:Hid (∀ W,Below W0.heap.size W0 W→(W.cell? ⟨w.heap.size,2,none⟩=some vm∧W.cell? ⟨w.heap.size,3,none⟩=some (.slice a2 n2 c2)∧W.cell? ⟨w.heap.size,4,none⟩=some (.slice a3 n3 c3)∧W.cell? ⟨w.heap.size,5,none⟩=some (.slice a4 n4 c4))∧Below w.heap.size w W):=fun W hW=>
   have hg:=(hW.block _ hs0).trans hg0
   ⟨⟨cellsAt hg 2,cellsAt hg 3,cellsAt hg 4,cellsAt hg 5⟩,hb0.trans (hW.mono (by omega))⟩
  have HX1:Hid (∀ W W',Below W0.heap.size W0 W→Below W.heap.size W W'→Below W0.heap.size W0 W'):=fun W W' h1 h2=>h1.trans (h2.mono h1.size)
  clear hb0 hg0
  go_enter Tryz.func53,Tryz.ntmps53
  go_wp2_with (first | (go_at_call 41;refine (isLabel_any _ _ hfr).mono ?_;rintro e w' ⟨rfl,rfl⟩;rw [hlab]) | fail)
  rw [← hW0]
  refine (HM1.out _ HB0.out).mono ?_
  rintro e w1 ⟨rfl,hb1⟩
  obtain ⟨⟨x2,x3,x4,x5⟩,hbw1⟩:=HX.out w1 hb1
  have HB1:Hid (Below W0.heap.size W0 w1):=hb1
  have HBW1:Hid (Below w.heap.size w w1):=hbw1
  clear hb1 hbw1
  by_cases hm:m1=0
  ·subst hm
   go_wp2_with fail
   refine (HS.out _ HBW1.out).mono ?_
   rintro e w2 ⟨rfl,hb2⟩
   have HB2:Hid (Below W0.heap.size W0 w2):=HX1.out _ _ HB1.out hb2
   clear x2 x3 x4 x5 hb2
   obtain ⟨⟨x2,x3,x4,x5⟩,hbw2⟩:=HX.out w2 HB2.out
   have HBW2:Hid (Below w.heap.size w w2):=hbw2
   clear hbw2
   by_cases hse:se=0
   ·subst hse
    go_wp2_with fail
    refine (HG.out _ HBW2.out).mono ?_
    rintro e w3 ⟨rfl,hb3⟩
    have HB3:Hid (Below W0.heap.size W0 w3):=HX1.out _ _ HB2.out hb3
    clear x2 x3 x4 x5 hb3
    obtain ⟨⟨x2,x3,x4,x5⟩,hbw3⟩:=HX.out w3 HB3.out
    have HBW3:Hid (Below w.heap.size w w3):=hbw3
    clear hbw3
    by_cases hge:ge=0
    ·subst hge
     go_wp2_with fail
     refine (HW.out _ HBW3.out).mono ?_
     rintro e w4 ⟨rfl,hb4⟩
     have HBW4:Hid (Below w.heap.size w w4):=HBW3.out.trans (hb4.mono HBW3.out.size)
     clear hb4
     go_wp2_with fail
     go_ret
     exact ⟨ret_int HE2.out.symm,HBW4.out⟩
    ·have hge':(ge == 0)=false:=by simpa using hge
     have HR:Hid (res=ge):=HE2.out.trans (by simp [hge])
     clear hge
     go_wp2_with fail
     go_ret
     exact ⟨ret_int HR.out.symm,HBW3.out⟩
   ·have hse':(se == 0)=false:=by simpa using hse
    have HR:Hid (res=se):=HE2.out.trans (by simp [hse])
    clear hse
    go_wp2_with fail
    go_ret
    exact ⟨ret_int HR.out.symm,HBW2.out⟩
  ·have hm':(m1 == 0)=false:=by simpa using hm
   have HR:Hid (res=m1):=HE2.out.trans (if_neg hm)
   clear hm
   go_wp2_with fail
   go_ret
   exact ⟨ret_int HR.out.symm,HBW1.out⟩
end Go.Proofs.YtffdoiokmiklgaaGreatDoor
namespace Go.Proofs.YtffdoiokmiklgaaGreatDoor
open Go.RowKit
set_option maxHeartbeats 12800000 in
set_option maxRecDepth 100000 in
theorem refNode_any (n:Nd) (vm vr vs vg vw:Value) (w:World) (h:NdIs w n vm vr vs vg vw) :
 Calls Tryz.prog 21 #[.agg (ndA n vm vr vs vg vw)] w fun e w'=>e=.returned (.int .i64 n.e)∧Below w.heap.size w w':=by
 obtain ⟨nm,ct,ms,rs,sv,gw,⟨px,py,pz,ph,pq⟩,wh⟩:=n
 obtain ⟨hms,hrs,hsv,hgw,hwh,hnm,hct⟩:=h
 simp only at hms hrs hsv hgw hwh hnm hct
 have HMS:Hid (Sl w vm ms):=hms
 have HRS:Hid (RSl w vr rs):=hrs
 have HE:Nd.e ⟨nm,ct,ms,rs,sv,gw,⟨px,py,pz,ph,pq⟩,wh⟩=if (labB nm && labB ct)=true then
  (if chk ms=0 then (if chkR rs=0 then (if Sv.chk sv=0 then (if Gw.chk gw=0 then (if chkP ⟨px,py,pz,ph,pq⟩=0 then (if Wh.chk wh=0 then (match fstM ms nm with
  | none=>5
  | some m=>if m.state=2∨m.state=3 then 4 else if rs.any (aheadB ms)=true then 4 else 0) else Wh.chk wh) else chkP ⟨px,py,pz,ph,pq⟩) else Gw.chk gw) else Sv.chk sv) else chkR rs) else chk ms) else 1:=by
  unfold Nd.e Nd.pE Nd.wE
  simp only
  by_cases h0:(labB nm && labB ct)=true
  ·simp only [if_pos h0]
   by_cases h1:chk ms=0
   ·simp only [if_pos h1]
    by_cases h2:chkR rs=0
    ·simp only [if_pos h2]
     by_cases h3:Sv.chk sv=0
     ·simp only [if_pos h3]
      by_cases h4:Gw.chk gw=0
      ·simp only [if_pos h4]
       by_cases h5:chkP ⟨px,py,pz,ph,pq⟩=0
       ·simp only [if_pos h5];rfl
       ·simp only [if_neg h5]
      ·simp only [if_neg h4]
     ·simp only [if_neg h3]
    ·simp only [if_neg h2]
   ·simp only [if_neg h1]
  ·simp only [if_neg h0];rfl
 obtain ⟨am,cm,rfl,_,_⟩:=hms
 obtain ⟨ar,cr,rfl,_,_⟩:=hrs
 have HML:Hid (chk ms=0→ms.length≤20):=fun h=>(chk_zero h).1
 have HRL:Hid (chkR rs=0→rs.length≤20):=fun h=>(chkR_e0 h).1
 simp only [ndA]
 generalize hNM:ms.length=nms at *
 have HNM:Hid (ms.length=nms):=hNM
 clear hNM
 generalize hNR:rs.length=nrs at *
 have HNR:Hid (rs.length=nrs):=hNR
 clear hNR
 obtain ⟨W0,hW0⟩:∃ W0,W0=w.alloc (.cells #[.string nm,.string ct,.slice am nms cm,.slice ar nrs cr,vs,vg,.int .i64 px,.int .i64 py,.int .i64 pz,.int .i64 ph,.int .i64 pq,vw] 51):=⟨_,rfl⟩
 have hb0:Below w.heap.size w W0:=by rw [hW0];exact (Below.refl _ _).alloc (Nat.le_refl _) _
 have hg0:W0.heap[w.heap.size]?=some (.cells #[.string nm,.string ct,.slice am nms cm,.slice ar nrs cr,vs,vg,.int .i64 px,.int .i64 py,.int .i64 pz,.int .i64 ph,.int .i64 pq,vw] 51 (0,0)):=by rw [hW0];exact heap_alloc_new w _
 have hs0:w.heap.size < W0.heap.size:=by rw [hW0];simp
 have HBX:Hid (∀ W,Below W0.heap.size W0 W→Below w.heap.size w W):=fun W hW=>hb0.trans (hW.mono (by omega))
 have HX:Hid (∀ W,Below W0.heap.size W0 W→W.cell? ⟨w.heap.size,0,none⟩=some (.string nm)∧W.cell? ⟨w.heap.size,1,none⟩=some (.string ct)∧W.cell? ⟨w.heap.size,2,none⟩=some (.slice am nms cm)∧W.cell? ⟨w.heap.size,3,none⟩=some (.slice ar nrs cr)∧W.cell? ⟨w.heap.size,4,none⟩=some vs∧W.cell? ⟨w.heap.size,5,none⟩=some vg∧W.cell? ⟨w.heap.size,6,none⟩=some (.int .i64 px)∧W.cell? ⟨w.heap.size,7,none⟩=some (.int .i64 py)∧W.cell? ⟨w.heap.size,8,none⟩=some (.int .i64 pz)∧W.cell? ⟨w.heap.size,9,none⟩=some (.int .i64 ph)∧W.cell? ⟨w.heap.size,10,none⟩=some (.int .i64 pq)∧W.cell? ⟨w.heap.size,11,none⟩=some vw):=fun W hW=>
  have hg':=(hW.block _ hs0).trans hg0
  ⟨cellsAt hg' 0,cellsAt hg' 1,cellsAt hg' 2,cellsAt hg' 3,cellsAt hg' 4,cellsAt hg' 5,cellsAt hg' 6,cellsAt hg' 7,cellsAt hg' 8,cellsAt hg' 9,cellsAt hg' 10,cellsAt hg' 11⟩
 have HM:Hid (∀ W,Below W0.heap.size W0 W→Calls Tryz.prog 42 #[.slice am nms cm] W fun e w'=>e=.returned (.int .i64 (chk ms))∧Below W.heap.size W w'):=fun W hW=>checkMembers_any ms _ W (HMS.out.below (HBX.out W hW))
 have HRC:Hid (∀ W,Below W0.heap.size W0 W→Calls Tryz.prog 43 #[.slice ar nrs cr] W fun e w'=>e=.returned (.int .i64 (chkR rs))∧Below W.heap.size W w'):=fun W hW=>checkRumors_any rs _ W (HRS.out.below (HBX.out W hW))
 have HS:Hid (∀ W,Below W0.heap.size W0 W→Calls Tryz.prog 44 #[vs] W fun e w'=>e=.returned (.int .i64 (Sv.chk sv))∧Below W.heap.size W w'):=fun W hW=>Sv.refCheck_any sv vs W (hsv.below (HBX.out W hW))
 have HG:Hid (∀ W,Below W0.heap.size W0 W→Calls Tryz.prog 45 #[vg] W fun e w'=>e=.returned (.int .i64 (Gw.chk gw))∧Below W.heap.size W w'):=fun W hW=>Gw.refCheck_any gw vg W (hgw.below (HBX.out W hW))
 have HP:Hid (∀ W,Below W0.heap.size W0 W→Calls Tryz.prog 46 #[.agg #[.int .i64 px,.int .i64 py,.int .i64 pz,.int .i64 ph,.int .i64 pq]] W fun e w'=>e=.returned (.int .i64 (chkP ⟨px,py,pz,ph,pq⟩))∧Below W.heap.size W w'):=fun W _=>(checkPlace_any ⟨px,py,pz,ph,pq⟩ W).mono (by rintro e w' ⟨rfl,rfl⟩;exact ⟨rfl,(Below.refl _ _).alloc (Nat.le_refl _) _⟩)
 have HW:Hid (∀ W,Below W0.heap.size W0 W→Calls Tryz.prog 47 #[vw] W fun e w'=>e=.returned (.int .i64 (Wh.chk wh))∧Below W.heap.size W w'):=fun W hW=>Wh.refCheck_any wh vw W (hwh.below (HBX.out W hW))
 have HMA:Hid (nms≤1000→∀ (W:World) (t:ByteArray),Below W0.heap.size W0 W→Calls Tryz.prog 17 #[.slice am nms cm,.string t] W fun e w'=>∃ r:Int,e=.returned (.int .i64 r)∧Hid (AtF ms t r)∧w'=W):=fun hn W t hW=>memAt_any ms _ t W (HMS.out.below (HBX.out W hW)) (by rw [HNM.out];exact hn)
 have HRow:Hid (∀ W,Below W0.heap.size W0 W→0 < ms.length→∃ b off,am=some ⟨b,off,none⟩∧b < W.heap.size∧Row W b off ms):=fun W hW hp=>by
  obtain ⟨a,c,he,_,ha⟩:=HMS.out.below (HBX.out W hW)
  injection he with e1 e2 e3
  subst e1
  rcases ha with h | h
  ·rw [h] at hp;simp at hp
  ·exact h
 have HRR:Hid (∀ W,Below W0.heap.size W0 W→0 < rs.length→∃ b off,ar=some ⟨b,off,none⟩∧b < W.heap.size∧RRow W b off rs):=fun W hW hp=>by
  obtain ⟨a,c,he,_,ha⟩:=HRS.out.below (HBX.out W hW)
  injection he with e1 e2 e3
  subst e1
  rcases ha with h | h
  ·rw [h] at hp;simp at hp
  ·exact h
 have HB0:Hid (Below W0.heap.size W0 W0):=Below.refl _ _
 generalize Nd.e ⟨nm,ct,ms,rs,sv,gw,⟨px,py,pz,ph,pq⟩,wh⟩=res at *
 generalize chk ms=m1 at *
 generalize chkR rs=r1 at *
 generalize Sv.chk sv=s1 at *
 generalize Gw.chk gw=g1 at *
 generalize chkP ⟨px,py,pz,ph,pq⟩=p1 at *
 generalize Wh.chk wh=wz at *
 clear hsv hgw hwh hb0 hg0
 obtain ⟨y0,y1,y2,y3,y4,y5,y6,y7,y8,y9,y10,y11⟩:=HX.out W0 HB0.out
 go_enter Tryz.func21,Tryz.ntmps21
 rcases hl1:labB nm with _ | _
 ·rw [hl1,if_neg (by simp)] at HE
  have HR:Hid (res=1):=HE
  clear HE
  go_wp2_with (go_at_call 41;refine (isLabel_any _ _ hnm).mono ?_;rintro e w' ⟨rfl,rfl⟩;rw [hl1])
  go_ret
  exact ⟨ret_int HR.out.symm,(Below.refl _ _).alloc (Nat.le_refl _) _⟩
 rcases hl2:labB ct with _ | _
 ·rw [hl2,if_neg (by simp)] at HE
  have HR:Hid (res=1):=HE
  clear HE
  go_wp2_with (go_at_call 41;refine (isLabel_any _ _ (by first | exact hnm | exact hct)).mono ?_;rintro e w' ⟨rfl,rfl⟩;first | rw [hl1] | rw [hl2])
  go_ret
  exact ⟨ret_int HR.out.symm,(Below.refl _ _).alloc (Nat.le_refl _) _⟩
 rw [hl1,hl2,if_pos (by rfl)] at HE
 go_wp2_with (first | (go_at_call 41;refine (isLabel_any _ _ (by first | exact hnm | exact hct)).mono ?_;rintro e w' ⟨rfl,rfl⟩;first | rw [hl1] | rw [hl2]) | fail)
 rw [← hW0]
 refine (HM.out _ HB0.out).mono ?_
 rintro e w1 ⟨rfl,hb1⟩
 have HB1:Hid (Below W0.heap.size W0 w1):=HB0.out.trans (hb1.mono HB0.out.size)
 clear hb1 y0 y1 y2 y3 y4 y5 y6 y7 y8 y9 y10 y11
 obtain ⟨y0,y1,y2,y3,y4,y5,y6,y7,y8,y9,y10,y11⟩:=HX.out w1 HB1.out
 by_cases hm1:m1=0
 ·rw [if_pos hm1] at HE
  have hml:nms≤20:=HML.out hm1
  subst hm1
  go_wp2_with fail
  refine (HRC.out _ HB1.out).mono ?_
  rintro e w2 ⟨rfl,hb2⟩
  have HB2:Hid (Below W0.heap.size W0 w2):=HB1.out.trans (hb2.mono HB1.out.size)
  clear hb2 y0 y1 y2 y3 y4 y5 y6 y7 y8 y9 y10 y11
  obtain ⟨y0,y1,y2,y3,y4,y5,y6,y7,y8,y9,y10,y11⟩:=HX.out w2 HB2.out
  by_cases hr1:r1=0
  ·rw [if_pos hr1] at HE
   have hrl:nrs≤20:=HRL.out hr1
   subst hr1
   go_wp2_with fail
   refine (HS.out _ HB2.out).mono ?_
   rintro e w3 ⟨rfl,hb3⟩
   have HB3:Hid (Below W0.heap.size W0 w3):=HB2.out.trans (hb3.mono HB2.out.size)
   clear hb3 y0 y1 y2 y3 y4 y5 y6 y7 y8 y9 y10 y11
   obtain ⟨y0,y1,y2,y3,y4,y5,y6,y7,y8,y9,y10,y11⟩:=HX.out w3 HB3.out
   by_cases hs1:s1=0
   ·rw [if_pos hs1] at HE
    subst hs1
    go_wp2_with fail
    refine (HG.out _ HB3.out).mono ?_
    rintro e w4 ⟨rfl,hb4⟩
    have HB4:Hid (Below W0.heap.size W0 w4):=HB3.out.trans (hb4.mono HB3.out.size)
    clear hb4 y0 y1 y2 y3 y4 y5 y6 y7 y8 y9 y10 y11
    obtain ⟨y0,y1,y2,y3,y4,y5,y6,y7,y8,y9,y10,y11⟩:=HX.out w4 HB4.out
    by_cases hg1:g1=0
    ·rw [if_pos hg1] at HE
     subst hg1
     go_wp2_with fail
     refine (HP.out _ HB4.out).mono ?_
     rintro e w5 ⟨rfl,hb5⟩
     have HB5:Hid (Below W0.heap.size W0 w5):=HB4.out.trans (hb5.mono HB4.out.size)
     clear hb5 y0 y1 y2 y3 y4 y5 y6 y7 y8 y9 y10 y11
     obtain ⟨y0,y1,y2,y3,y4,y5,y6,y7,y8,y9,y10,y11⟩:=HX.out w5 HB5.out
     by_cases hp1:p1=0
     ·rw [if_pos hp1] at HE
      subst hp1
      go_wp2_with fail
      refine (HW.out _ HB5.out).mono ?_
      rintro e w6 ⟨rfl,hb6⟩
      have HB6:Hid (Below W0.heap.size W0 w6):=HB5.out.trans (hb6.mono HB5.out.size)
      clear hb6 y0 y1 y2 y3 y4 y5 y6 y7 y8 y9 y10 y11
      obtain ⟨y0,y1,y2,y3,y4,y5,y6,y7,y8,y9,y10,y11⟩:=HX.out w6 HB6.out
      by_cases hwz:wz=0
      ·rw [if_pos hwz] at HE
       subst hwz
       go_wp2_with fail
       refine (HMA.out (by omega) w6 nm HB6.out).mono ?_
       rintro e w7 ⟨r,rfl,HAT,rfl⟩
       rcases HAT.out with ⟨k,hk,rfl,hf⟩ | ⟨rfl,hf⟩
       ·have HR:Hid (res=if (ms.getD k dm).state=2∨(ms.getD k dm).state=3 then 4 else if rs.any (aheadB ms)=true then 4 else 0):=HE.trans (by rw [hf])
        clear hf HAT HE
        obtain ⟨b1,o1,hp1,hl1,hr1⟩:=HRow.out w7 HB6.out (by omega)
        subst hp1
        obtain ⟨c0,c1,c2,c3,c4⟩:=hr1 k hk
        have hkn:(k:Int) < (nms:Int):=by rw [HNM.out] at hk;omega
        clear hr1
        generalize ms.getD k dm=mk at *
        obtain ⟨mn,st,lf,ad,sv2⟩:=mk
        simp only at c0 c1 c2 c3 c4 HR
        by_cases h2:st=2
        ·subst h2
         have HR2:Hid (res=4):=HR.out.trans (by simp)
         go_wp2_with fail
         go_ret
         exact ⟨ret_int HR2.out.symm,HBX.out _ HB6.out⟩
        ·by_cases h3:st=3
         ·subst h3
          have HR2:Hid (res=4):=HR.out.trans (by simp)
          go_wp2_with fail
          go_ret
          exact ⟨ret_int HR2.out.symm,HBX.out _ HB6.out⟩
         ·have HR2:Hid (res=if rs.any (aheadB ms)=true then 4 else 0):=HR.out.trans (if_neg (by omega))
          have h2':(st == 2)=false:=by simpa using h2
          have h3':(st == 3)=false:=by simpa using h3
          clear h2 h3 HR
          go_wp2_with fail
          clear c0 c1 c2 c3 c4 y0 y1 y2 y3 y4 y5 y6 y7 y8 y9 y10 y11
          go_loopw [5] (fun i wr=>∃ q:Nat,q≤nrs∧i=.int .i64 q∧Hid (∀ j,j < q→aheadB ms (rs.getD j dr)=false)∧Hid (Below W0.heap.size W0 wr)) (fun i _=>nrs - (intOf i).toNat)
          case atStart=>exact ⟨0,Nat.zero_le _,rfl,fun j hj=>by omega,HB6⟩
          case round=>
           obtain ⟨q,hq,rfl,HZ,HB⟩:=hrel
           have hszr:w.heap.size < wr.heap.size:=by have:=HB.out.size;omega
           obtain ⟨y0,y1,y2,y3,y4,y5,y6,y7,y8,y9,y10,y11⟩:=HX.out wr HB.out
           by_cases hlt:q < nrs
           ·obtain ⟨b2,o2,hp2,hl2',hr2⟩:=HRR.out wr HB.out (by rw [HNR.out];omega)
            subst hp2
            obtain ⟨d0,d1,d2,d3,d4,d5⟩:=hr2 q (by rw [HNR.out];exact hlt)
            clear hr2
            have HAH:Hid (aheadB ms (rs.getD q dr)=match fstM ms (rs.getD q dr).m.name with
             | none=>true
             | some k=>newM (rs.getD q dr).m k):=rfl
            have HY:Hid (aheadB ms (rs.getD q dr)=true→res=4):=fun h=>by
             rw [show rs.getD q dr=rs[q]'(by rw [HNR.out];exact hlt) by simp [List.getD,List.getElem?_eq_getElem (show q < rs.length by rw [HNR.out];exact hlt)]] at h
             exact HR2.out.trans (if_pos (List.any_eq_true.2 ⟨_,List.getElem_mem _,h⟩))
            have HZ2:Hid (aheadB ms (rs.getD q dr)=false→∀ j,j < q+1→aheadB ms (rs.getD j dr)=false):=fun h j hj=>by
             by_cases e:j=q
             ·subst e;exact h
             ·exact HZ.out j (by omega)
            generalize aheadB ms (rs.getD q dr)=ab at *
            generalize rs.getD q dr=rk at *
            obtain ⟨⟨rn,rst,rlf,rad,rsv⟩,rtd⟩:=rk
            simp only at d0 d1 d2 d3 d4 d5 HAH
            obtain ⟨W1,hW1⟩:∃ W1,W1=wr.alloc (.cells #[.string rn,.int .i64 rst,.int .i64 rlf,.int .i64 rad,.bool rsv] 56):=⟨_,rfl⟩
            have hb1:Below wr.heap.size wr W1:=by rw [hW1];exact (Below.refl _ _).alloc (Nat.le_refl _) _
            have hg1:W1.heap[wr.heap.size]?=some (.cells #[.string rn,.int .i64 rst,.int .i64 rlf,.int .i64 rad,.bool rsv] 56 (0,0)):=by rw [hW1];exact heap_alloc_new wr _
            have HB1:Hid (Below W0.heap.size W0 W1):=HB.out.trans (hb1.mono HB.out.size)
            have HMQ:=HMA.out (by omega) W1 rn HB1.out
            go_wp2_with fail
            rw [← hW1]
            refine HMQ.mono ?_
            rintro e w8 ⟨r,rfl,HAT,hw8⟩
            have hw9:=hw8.symm
            subst hw9
            clear HMQ d0 d1 d2 d3 d4 d5 y0 y1 y2 y3 y4 y5 y6 y7 y8 y9 y10 y11
            obtain ⟨y0,y1,y2,y3,y4,y5,y6,y7,y8,y9,y10,y11⟩:=HX.out W1 HB1.out
            clear hW1 hb1 HZ
            rcases HAT.out with ⟨k2,hk2,rfl,hf⟩ | ⟨rfl,hf⟩
            ·have HA2:Hid (ab=newM ⟨rn,rst,rlf,rad,rsv⟩ (ms.getD k2 dm)):=HAH.out.trans (by rw [hf])
             clear hf HAT HAH
             obtain ⟨b3,o3,hp3,hl3,hr3⟩:=HRow.out W1 HB1.out (by omega)
             simp only [Option.some.injEq,Addr.mk.injEq] at hp3
             obtain ⟨rfl,rfl,_⟩:=hp3
             obtain ⟨c0,c1,c2,c3,c4⟩:=hr3 k2 hk2
             have hkn2:(k2:Int) < (nms:Int):=by rw [HNM.out] at hk2;omega
             clear hr3
             generalize ms.getD k2 dm=mk at *
             obtain ⟨mn2,st2,lf2,ad2,sv3⟩:=mk
             simp only at c0 c1 c2 c3 c4
             have hN:∀ d os,Calls Tryz.prog 48 #[.agg #[.string rn,.int .i64 rst,.int .i64 rlf,.int .i64 rad,.bool rsv],.agg #[.string mn2,.int .i64 st2,.int .i64 lf2,.int .i64 ad2,.bool sv3]] (Go.Sort.grow (redrawn W1 d) os) fun e w''=>e=.returned (.bool ab)∧∃ p:Regrown,w''=Go.Sort.grow (redrawn W1 p.d) p.os:=fun d os=>Calls.regrown_of ((newerMember_any rn mn2 rst rlf rad rsv st2 lf2 ad2 sv3 _).mono (by rintro e w' ⟨rfl,rfl⟩;exact ⟨by rw [HA2.out];rfl,((Below.refl _ _).alloc (Nat.le_refl _) _).alloc (by simp) _⟩))
             have F0:∀ d os,(Go.Sort.grow (redrawn W1 d) os).cell? ⟨wr.heap.size,0,none⟩=some (.string rn):=cell_regrown (cellsAt hg1 0)
             have F1:∀ d os,(Go.Sort.grow (redrawn W1 d) os).cell? ⟨wr.heap.size,1,none⟩=some (.int .i64 rst):=cell_regrown (cellsAt hg1 1)
             have F2:∀ d os,(Go.Sort.grow (redrawn W1 d) os).cell? ⟨wr.heap.size,2,none⟩=some (.int .i64 rlf):=cell_regrown (cellsAt hg1 2)
             have F3:∀ d os,(Go.Sort.grow (redrawn W1 d) os).cell? ⟨wr.heap.size,3,none⟩=some (.int .i64 rad):=cell_regrown (cellsAt hg1 3)
             have F4:∀ d os,(Go.Sort.grow (redrawn W1 d) os).cell? ⟨wr.heap.size,4,none⟩=some (.bool rsv):=cell_regrown (cellsAt hg1 4)
             have G0:∀ d os,(Go.Sort.grow (redrawn W1 d) os).cell? ⟨b1,o1+k2 * 5,none⟩=some (.string mn2):=cell_regrown c0
             have G1:∀ d os,(Go.Sort.grow (redrawn W1 d) os).cell? ⟨b1,o1+k2 * 5+1,none⟩=some (.int .i64 st2):=cell_regrown c1
             have G2:∀ d os,(Go.Sort.grow (redrawn W1 d) os).cell? ⟨b1,o1+k2 * 5+2,none⟩=some (.int .i64 lf2):=cell_regrown c2
             have G3:∀ d os,(Go.Sort.grow (redrawn W1 d) os).cell? ⟨b1,o1+k2 * 5+3,none⟩=some (.int .i64 ad2):=cell_regrown c3
             have G4:∀ d os,(Go.Sort.grow (redrawn W1 d) os).cell? ⟨b1,o1+k2 * 5+4,none⟩=some (.bool sv3):=cell_regrown c4
             have Y2:∀ d os,(Go.Sort.grow (redrawn W1 d) os).cell? ⟨w.heap.size,2,none⟩=some (.slice (some ⟨b1,o1,none⟩) nms cm):=cell_regrown y2
             have hk0:decide ((k2:Int) < 0)=false:=by simp
             have hkk:(0:Int)≤(k2:Int):=by omega
             clear c0 c1 c2 c3 c4 y0 y1 y2 y3 y4 y5 y6 y7 y8 y9 y10 y11 hg1
             go_wp2_with fail
             refine wp_region_quiet_below (by kernel_rfl) (by kernel_rfl) ?_
             repeat (quiet_step (exact hN _ _))
             refine wpQuiet_nil ?_
             intro _ hw'
             obtain ⟨⟨dq,osq⟩,hw''⟩:=hw'
             subst hw''
             have HBQ:Hid (Below W0.heap.size W0 (Go.Sort.grow (redrawn W1 dq) osq)):=HB1.out.trans ((below_regrown W1 dq osq).mono HB1.out.size)
             clear hN F0 F1 F2 F3 F4 G0 G1 G2 G3 G4 Y2
             generalize Go.Sort.grow (redrawn W1 dq) osq=w9 at *
             cases ab
             ·have HZ3:Hid (∀ j,j < q+1→aheadB ms (rs.getD j dr)=false):=HZ2.out rfl
              clear HY HZ2 HA2
              go_wp2_with fail
              go_roundw
              case rel=>exact ⟨q+1,by omega,by go_num,HZ3,HBQ⟩
              case measure=>simp [intOf];omega
             ·have HR3:Hid (res=4):=HY.out rfl
              clear HY HZ2 HA2
              go_wp2_with fail
              go_ret
              exact ⟨ret_int HR3.out.symm,HBX.out _ HBQ.out⟩
            ·have HR3:Hid (res=4):=HY.out (HAH.out.trans (by rw [hf]))
             clear hf HAT HAH HY HZ2 hg1
             go_wp2_with fail
             go_quiet (fail)
             go_wp2_with fail
             go_ret
             exact ⟨ret_int HR3.out.symm,HBX.out _ (below_drewN HB1.out _)⟩
           ·have HR3:Hid (res=0):=HR2.out.trans (if_neg (by
             rw [List.any_eq_true]
             rintro ⟨r,hr,h⟩
             obtain ⟨j,hj,rfl⟩:=List.getElem_of_mem hr
             have h3:=HZ.out j (by have:=HNR.out;omega)
             rw [show rs.getD j dr=rs[j] by simp [List.getD,List.getElem?_eq_getElem hj],h] at h3
             cases h3))
            clear HZ
            go_wp2_with fail
            go_ret
            exact ⟨ret_int HR3.out.symm,HBX.out _ HB.out⟩
       ·have HR:Hid (res=5):=HE.trans (by rw [hf])
        clear hf HAT HE
        go_wp2_with fail
        go_ret
        exact ⟨ret_int HR.out.symm,HBX.out _ HB6.out⟩
      ·have hwz':(wz != 0)=true:=by simpa using hwz
       rw [if_neg hwz] at HE
       have HR:Hid (res=wz):=HE
       clear hwz HE
       go_wp2_with fail
       go_ret
       exact ⟨ret_int HR.out.symm,HBX.out _ HB6.out⟩
     ·have hp1':(p1 != 0)=true:=by simpa using hp1
      have hp1'':(p1 == 0)=false:=by simpa using hp1
      rw [if_neg hp1] at HE
      have HR:Hid (res=p1):=HE.trans (by first | rfl | exact if_neg hp1)
      clear hp1 HE
      go_wp2_with fail
      go_ret
      exact ⟨ret_int HR.out.symm,HBX.out _ HB5.out⟩
    ·have hg1':(g1 != 0)=true:=by simpa using hg1
     have hg1'':(g1 == 0)=false:=by simpa using hg1
     rw [if_neg hg1] at HE
     have HR:Hid (res=g1):=HE.trans (by first | rfl | exact if_neg hg1)
     clear hg1 HE
     go_wp2_with fail
     go_ret
     exact ⟨ret_int HR.out.symm,HBX.out _ HB4.out⟩
   ·have hs1':(s1 != 0)=true:=by simpa using hs1
    have hs1'':(s1 == 0)=false:=by simpa using hs1
    rw [if_neg hs1] at HE
    have HR:Hid (res=s1):=HE.trans (by first | rfl | exact if_neg hs1)
    clear hs1 HE
    go_wp2_with fail
    go_ret
    exact ⟨ret_int HR.out.symm,HBX.out _ HB3.out⟩
  ·have hr1':(r1 != 0)=true:=by simpa using hr1
   have hr1'':(r1 == 0)=false:=by simpa using hr1
   rw [if_neg hr1] at HE
   have HR:Hid (res=r1):=HE.trans (by first | rfl | exact if_neg hr1)
   clear hr1 HE
   go_wp2_with fail
   go_ret
   exact ⟨ret_int HR.out.symm,HBX.out _ HB2.out⟩
 ·have hm1':(m1 != 0)=true:=by simpa using hm1
  have hm1'':(m1 == 0)=false:=by simpa using hm1
  rw [if_neg hm1] at HE
  have HR:Hid (res=m1):=HE.trans (by first | rfl | exact if_neg hm1)
  clear hm1 HE
  go_wp2_with fail
  go_ret
  exact ⟨ret_int HR.out.symm,HBX.out _ HB1.out⟩
theorem Calls.tellsAt {f:FuncId} {args:Array Value} {w:World} {p:Prop} {r:Bool} (hr:r=true↔p) (h:Calls Tryz.prog f args w fun e w'=>∃ r:Bool,e=.returned (.bool r)∧(r=true↔p)∧Below w.heap.size w w'):Calls Tryz.prog f args w fun e w'=>e=.returned (.bool r)∧Below w.heap.size w w':=Calls.tells hr h
set_option maxHeartbeats 25600000 in
set_option maxRecDepth 100000 in
theorem agreeOf_any (ns:List Nd) (vn vl:Value) (w:World) (h:NSl w vn ns) (hvl:∃ a m c,vl=.slice a m c) (hn:ns.length≤6) (hsz:∀ j,j < ns.length→(ns.getD j ndZ).ms.length≤1000∧(ns.getD j ndZ).sv.length≤1000∧(ns.getD j ndZ).gw.length≤1000) (r:Bool) (hr:r=true↔∃ j,j < ns.length∧¬ SameK (ns.getD j ndZ) (ns.getD 0 ndZ)) :
 Calls Tryz.prog 12 #[.agg #[vn,vl]] w fun e w'=>e=.returned (.bool (!r))∧Below w.heap.size w w':=by
 obtain ⟨al,ml,cl,rfl⟩:=hvl
 obtain ⟨pa,ca,rfl,ha⟩:=h
 have HA:Hid (ns=[]∨∃ b off,pa=some ⟨b,off,none⟩∧b < w.heap.size∧NRow w b off ns):=ha
 have HSZ:Hid (∀ j,j < ns.length→(ns.getD j ndZ).ms.length≤1000∧(ns.getD j ndZ).sv.length≤1000∧(ns.getD j ndZ).gw.length≤1000):=hsz
 have HR1:Hid (∀ j,j < ns.length→¬ SameK (ns.getD j ndZ) (ns.getD 0 ndZ)→r=true):=fun j hj h=>hr.2 ⟨j,hj,h⟩
 have HR0:Hid ((∀ j,1≤j→j < ns.length→SameK (ns.getD j ndZ) (ns.getD 0 ndZ))→r=false):=fun hh=>by
  cases e:r
  ·rfl
  ·obtain ⟨j,hj,hne⟩:=hr.1 e
   exfalso
   by_cases h0:j=0
   ·subst h0;exact hne ⟨rfl,rfl,rfl⟩
   ·exact hne (hh j (by omega) hj)
 clear ha hsz hr
 generalize hN:ns.length=n at *
 have HN:Hid (ns.length=n):=hN
 clear hN
 obtain ⟨W0,hW0⟩:∃ W0,W0=w.alloc (.cells #[.slice pa n ca,.slice al ml cl] 25):=⟨_,rfl⟩
 have hb0:Below w.heap.size w W0:=by rw [hW0];exact (Below.refl _ _).alloc (Nat.le_refl _) _
 have k0:W0.heap[w.heap.size]?=some (.cells #[.slice pa n ca,.slice al ml cl] 25 (0,0)):=by rw [hW0];exact heap_alloc_new w _
 have HB0:Hid (Below w.heap.size w W0∧W0.heap[w.heap.size]?=some (.cells #[.slice pa n ca,.slice al ml cl] 25 (0,0))):=⟨hb0,k0⟩
 clear hb0 k0
 go_enter Tryz.func12,Tryz.ntmps12
 go_wp2_with fail
 rw [← hW0]
 clear hW0
 go_loopw [3] (fun i wr=>∃ k:Nat,1≤k∧(k≤n∨k=1)∧i=.int .i64 k∧Hid (∀ j,1≤j→j < k→SameK (ns.getD j ndZ) (ns.getD 0 ndZ))∧Hid (Below w.heap.size w wr∧wr.heap[w.heap.size]?=some (.cells #[.slice pa n ca,.slice al ml cl] 25 (0,0)))) (fun i _=>n - (intOf i).toNat)
 case atStart=>exact ⟨1,Nat.le_refl _,.inr rfl,rfl,fun j h1 h2=>absurd h1 (by omega),HB0⟩
 case round=>
  obtain ⟨k,hk1,hk,rfl,HZ,HB⟩:=hrel
  have g0:wr.cell? ⟨w.heap.size,0,none⟩=some (.slice pa n ca):=cellsAt HB.out.2 0
  by_cases hlt:k < n
  ·obtain ⟨b,off,hpp,hl,hrw⟩:∃ b off,pa=some ⟨b,off,none⟩∧b < w.heap.size∧NRow w b off ns:=by
    rcases HA.out with h | h
    ·have:=HN.out;rw [h] at this;simp at this;omega
    ·exact h
   subst hpp
   obtain ⟨um,ur,us,ug,uw,hI0,c0,c1,c2,c3,c4,c5,c6,c7,c8,c9,c10,c11⟩:=(hrw.below HB.out.1 hl).at (k:=0) (by rw [HN.out];omega)
   obtain ⟨vm,vr,vs,vg,vw,hI,d0,d1,d2,d3,d4,d5,d6,d7,d8,d9,d10,d11⟩:=(hrw.below HB.out.1 hl).at (k:=k) (by rw [HN.out];exact hlt)
   simp only [Nat.zero_mul,Nat.add_zero] at c0 c1 c2 c3 c4 c5 c6 c7 c8 c9 c10 c11
   have s0:=HSZ.out 0 (by omega)
   obtain ⟨r1,e1⟩:=boolOf ((ns.getD 0 ndZ).ms=(ns.getD k ndZ).ms)
   obtain ⟨r2,e2⟩:=boolOf ((ns.getD 0 ndZ).sv=(ns.getD k ndZ).sv)
   obtain ⟨r3,e3⟩:=boolOf ((ns.getD 0 ndZ).gw=(ns.getD k ndZ).gw)
   have HNO:Hid ((r1 && (r2 && r3))=false→r=true):=fun h=>HR1.out k hlt (fun hs=>by
    have f1:=e1.2 hs.1.symm
    have f2:=e2.2 hs.2.1.symm
    have f3:=e3.2 hs.2.2.symm
    rw [f1,f2,f3] at h;cases h)
   have HYES:Hid (r1=true→r2=true→r3=true→∀ j,1≤j→j < k+1→SameK (ns.getD j ndZ) (ns.getD 0 ndZ)):=fun f1 f2 f3 j h1 h2=>by
    by_cases e:j=k
    ·subst e;exact ⟨(e1.1 f1).symm,(e2.1 f2).symm,(e3.1 f3).symm⟩
    ·exact HZ.out j h1 (by omega)
   have H1:Hid (∀ W,Below wr.heap.size wr W→Calls Tryz.prog 28 #[um,vm] W fun e w'=>e=.returned (.bool r1)∧Below W.heap.size W w'):=fun W hW=>Calls.tellsAt e1 (same_any _ _ _ _ W (hI0.below hW).ms (hI.below hW).ms s0.1)
   have H2:Hid (∀ W,Below wr.heap.size wr W→Calls Tryz.prog 29 #[us,vs] W fun e w'=>e=.returned (.bool r2)∧Below W.heap.size W w'):=fun W hW=>Calls.tellsAt e2 (Sv.same_any _ _ _ _ W (hI0.below hW).sv (hI.below hW).sv s0.2.1)
   have H3:Hid (∀ W,Below wr.heap.size wr W→Calls Tryz.prog 30 #[ug,vg] W fun e w'=>e=.returned (.bool r3)∧Below W.heap.size W w'):=fun W hW=>Calls.tellsAt e3 (Gw.same_any _ _ _ _ W (hI0.below hW).gw (hI.below hW).gw s0.2.2)
   have hkn:(k:Int) < n:=by omega
   have h0n:(0:Int) < n:=by omega
   have h0m:0 < n:=by omega
   clear hrw HZ s0 e1 e2 e3 hk
   generalize (ns.getD k ndZ)=nk at *
   generalize (ns.getD 0 ndZ)=n0 at *
   obtain ⟨⟨ap2,ac2,hvm,_,_⟩,⟨ap3,ac3,hvr,_,_⟩,⟨ap4,ac4,hvs,_,_⟩,⟨ap5,ac5,hvg,_,_⟩,⟨ap11,ac11,hvw,_,_⟩,_,_⟩:=hI0
   subst hvm hvr hvs hvg hvw
   obtain ⟨⟨bp2,bc2,hvm,_,_⟩,⟨bp3,bc3,hvr,_,_⟩,⟨bp4,bc4,hvs,_,_⟩,⟨bp5,bc5,hvg,_,_⟩,⟨bp11,bc11,hvw,_,_⟩,_,_⟩:=hI
   subst hvm hvr hvs hvg hvw
   obtain ⟨a0,a1,ams,ars,asv,agw,⟨a6,a7,a8,a9,a10⟩,awh⟩:=n0
   obtain ⟨b0,b1,bms,brs,bsv,bgw,⟨b6,b7,b8,b9,b10⟩,bwh⟩:=nk
   simp only at c0 d0 c1 d1 c2 d2 c3 d3 c4 d4 c5 d5 c6 d6 c7 d7 c8 d8 c9 d9 c10 d10 c11 d11 H1 H2 H3
   generalize ams.length=an2 at *
   generalize ars.length=an3 at *
   generalize asv.length=an4 at *
   generalize agw.length=an5 at *
   generalize awh.length=an11 at *
   generalize bms.length=bn2 at *
   generalize brs.length=bn3 at *
   generalize bsv.length=bn4 at *
   generalize bgw.length=bn5 at *
   generalize bwh.length=bn11 at *
   have HBW:Hid (Below w.heap.size w wr):=HB.out.1
   have HBX:Hid (wr.heap[w.heap.size]?=some (.cells #[.slice (some ⟨b,off,none⟩) n ca,.slice al ml cl] 25 (0,0))):=HB.out.2
   clear HB
   go_wp2_with fail
   go_region_held3 (fun w'=>w'.cell? ⟨w.heap.size,0,none⟩=some (.slice (some ⟨b,off,none⟩) n ca)∧w'.cell? ⟨b,off,none⟩=some (.string a0)∧w'.cell? ⟨b,off+1,none⟩=some (.string a1)∧w'.cell? ⟨b,off+2,none⟩=some (.slice ap2 an2 ac2)∧w'.cell? ⟨b,off+3,none⟩=some (.slice ap3 an3 ac3)∧w'.cell? ⟨b,off+4,none⟩=some (.slice ap4 an4 ac4)∧w'.cell? ⟨b,off+5,none⟩=some (.slice ap5 an5 ac5)∧w'.cell? ⟨b,off+6,none⟩=some (.int .i64 a6)∧w'.cell? ⟨b,off+7,none⟩=some (.int .i64 a7)∧w'.cell? ⟨b,off+8,none⟩=some (.int .i64 a8)∧w'.cell? ⟨b,off+9,none⟩=some (.int .i64 a9)∧w'.cell? ⟨b,off+10,none⟩=some (.int .i64 a10)∧w'.cell? ⟨b,off+11,none⟩=some (.slice ap11 an11 ac11)∧w'.cell? ⟨b,off+k * 12,none⟩=some (.string b0)∧w'.cell? ⟨b,off+k * 12+1,none⟩=some (.string b1)∧w'.cell? ⟨b,off+k * 12+2,none⟩=some (.slice bp2 bn2 bc2)∧w'.cell? ⟨b,off+k * 12+3,none⟩=some (.slice bp3 bn3 bc3)∧w'.cell? ⟨b,off+k * 12+4,none⟩=some (.slice bp4 bn4 bc4)∧w'.cell? ⟨b,off+k * 12+5,none⟩=some (.slice bp5 bn5 bc5)∧w'.cell? ⟨b,off+k * 12+6,none⟩=some (.int .i64 b6)∧w'.cell? ⟨b,off+k * 12+7,none⟩=some (.int .i64 b7)∧w'.cell? ⟨b,off+k * 12+8,none⟩=some (.int .i64 b8)∧w'.cell? ⟨b,off+k * 12+9,none⟩=some (.int .i64 b9)∧w'.cell? ⟨b,off+k * 12+10,none⟩=some (.int .i64 b10)∧w'.cell? ⟨b,off+k * 12+11,none⟩=some (.slice bp11 bn11 bc11)) (go_keep) (fail)
   all_goals
    first
    | (obtain ⟨V,hV⟩:∃ V,V=World.drew ((wr.alloc (.cells #[.string a0,.string a1,.slice ap2 an2 ac2,.slice ap3 an3 ac3,.slice ap4 an4 ac4,.slice ap5 an5 ac5,.int .i64 a6,.int .i64 a7,.int .i64 a8,.int .i64 a9,.int .i64 a10,.slice ap11 an11 ac11] 51)).alloc (.cells #[.string b0,.string b1,.slice bp2 bn2 bc2,.slice bp3 bn3 bc3,.slice bp4 bn4 bc4,.slice bp5 bn5 bc5,.int .i64 b6,.int .i64 b7,.int .i64 b8,.int .i64 b9,.int .i64 b10,.slice bp11 bn11 bc11] 51)):=⟨_,rfl⟩
       rw [← hV]
       have hp:V.heap[wr.heap.size]?=some (.cells #[.string a0,.string a1,.slice ap2 an2 ac2,.slice ap3 an3 ac3,.slice ap4 an4 ac4,.slice ap5 an5 ac5,.int .i64 a6,.int .i64 a7,.int .i64 a8,.int .i64 a9,.int .i64 a10,.slice ap11 an11 ac11] 51 (0,0)):=by rw [hV,drew_heap];exact (Lib.alloc_old _ _ _ (by simp)).trans (heap_alloc_new wr _)
       have hq:V.heap[wr.heap.size+1]?=some (.cells #[.string b0,.string b1,.slice bp2 bn2 bc2,.slice bp3 bn3 bc3,.slice bp4 bn4 bc4,.slice bp5 bn5 bc5,.int .i64 b6,.int .i64 b7,.int .i64 b8,.int .i64 b9,.int .i64 b10,.slice bp11 bn11 bc11] 51 (0,0)):=by
        rw [hV,drew_heap]
        have:=heap_alloc_new (wr.alloc (.cells #[.string a0,.string a1,.slice ap2 an2 ac2,.slice ap3 an3 ac3,.slice ap4 an4 ac4,.slice ap5 an5 ac5,.int .i64 a6,.int .i64 a7,.int .i64 a8,.int .i64 a9,.int .i64 a10,.slice ap11 an11 ac11] 51)) (.cells #[.string b0,.string b1,.slice bp2 bn2 bc2,.slice bp3 bn3 bc3,.slice bp4 bn4 bc4,.slice bp5 bn5 bc5,.int .i64 b6,.int .i64 b7,.int .i64 b8,.int .i64 b9,.int .i64 b10,.slice bp11 bn11 bc11] 51)
        simpa using this
       have hbV:Below wr.heap.size wr V:=by rw [hV];exact drew_below (((Below.refl _ _).alloc (Nat.le_refl _) _).alloc (by simp) _)
       clear hV
       generalize wr.heap.size+1=qb at hq ⊢
       generalize hpb:wr.heap.size=pb at hp ⊢)
    | (obtain ⟨V,hV⟩:∃ V,V=World.drew ((wr.alloc (.cells #[.string b0,.string b1,.slice bp2 bn2 bc2,.slice bp3 bn3 bc3,.slice bp4 bn4 bc4,.slice bp5 bn5 bc5,.int .i64 b6,.int .i64 b7,.int .i64 b8,.int .i64 b9,.int .i64 b10,.slice bp11 bn11 bc11] 51)).alloc (.cells #[.string a0,.string a1,.slice ap2 an2 ac2,.slice ap3 an3 ac3,.slice ap4 an4 ac4,.slice ap5 an5 ac5,.int .i64 a6,.int .i64 a7,.int .i64 a8,.int .i64 a9,.int .i64 a10,.slice ap11 an11 ac11] 51)):=⟨_,rfl⟩
       rw [← hV]
       have hq:V.heap[wr.heap.size]?=some (.cells #[.string b0,.string b1,.slice bp2 bn2 bc2,.slice bp3 bn3 bc3,.slice bp4 bn4 bc4,.slice bp5 bn5 bc5,.int .i64 b6,.int .i64 b7,.int .i64 b8,.int .i64 b9,.int .i64 b10,.slice bp11 bn11 bc11] 51 (0,0)):=by rw [hV,drew_heap];exact (Lib.alloc_old _ _ _ (by simp)).trans (heap_alloc_new wr _)
       have hp:V.heap[wr.heap.size+1]?=some (.cells #[.string a0,.string a1,.slice ap2 an2 ac2,.slice ap3 an3 ac3,.slice ap4 an4 ac4,.slice ap5 an5 ac5,.int .i64 a6,.int .i64 a7,.int .i64 a8,.int .i64 a9,.int .i64 a10,.slice ap11 an11 ac11] 51 (0,0)):=by
        rw [hV,drew_heap]
        have:=heap_alloc_new (wr.alloc (.cells #[.string b0,.string b1,.slice bp2 bn2 bc2,.slice bp3 bn3 bc3,.slice bp4 bn4 bc4,.slice bp5 bn5 bc5,.int .i64 b6,.int .i64 b7,.int .i64 b8,.int .i64 b9,.int .i64 b10,.slice bp11 bn11 bc11] 51)) (.cells #[.string a0,.string a1,.slice ap2 an2 ac2,.slice ap3 an3 ac3,.slice ap4 an4 ac4,.slice ap5 an5 ac5,.int .i64 a6,.int .i64 a7,.int .i64 a8,.int .i64 a9,.int .i64 a10,.slice ap11 an11 ac11] 51)
        simpa using this
       have hbV:Below wr.heap.size wr V:=by rw [hV];exact drew_below (((Below.refl _ _).alloc (Nat.le_refl _) _).alloc (by simp) _)
       clear hV
       generalize wr.heap.size+1=pb at hp ⊢
       generalize hpb:wr.heap.size=qb at hq ⊢)
    clear c0 d0 c1 d1 c2 d2 c3 d3 c4 d4 c5 d5 c6 d6 c7 d7 c8 d8 c9 d9 c10 d10 c11 d11 hpb g0
    have HX:Hid (∀ W,Below V.heap.size V W→W.cell? ⟨pb,2,none⟩=some (.slice ap2 an2 ac2)∧W.cell? ⟨qb,2,none⟩=some (.slice bp2 bn2 bc2)∧W.cell? ⟨pb,4,none⟩=some (.slice ap4 an4 ac4)∧W.cell? ⟨qb,4,none⟩=some (.slice bp4 bn4 bc4)∧W.cell? ⟨pb,5,none⟩=some (.slice ap5 an5 ac5)∧W.cell? ⟨qb,5,none⟩=some (.slice bp5 bn5 bc5)):=fun W hW=>by
     have f0:=(hW.block _ (Array.getElem?_eq_some_iff.1 hp).1).trans hp
     have f1:=(hW.block _ (Array.getElem?_eq_some_iff.1 hq).1).trans hq
     exact ⟨cellsAt f0 2,cellsAt f1 2,cellsAt f0 4,cellsAt f1 4,cellsAt f0 5,cellsAt f1 5⟩
    have HBV:Hid (Below wr.heap.size wr V):=hbV
    have HBK:Hid (∀ W,Below wr.heap.size wr W→Below w.heap.size w W∧W.heap[w.heap.size]?=some (.cells #[.slice (some ⟨b,off,none⟩) n ca,.slice al ml cl] 25 (0,0))):=fun W hW=>⟨HBW.out.trans (hW.mono HBW.out.size),(hW.block _ (Array.getElem?_eq_some_iff.1 HBX.out).1).trans HBX.out⟩
    obtain ⟨x2,y2,x4,y4,x5,y5⟩:=HX.out V (Below.refl _ _)
    clear hp hq hbV
    go_wp2_with fail
    refine (H1.out V HBV.out).mono ?_
    rintro e w1 ⟨rfl,hb1⟩
    have HV1:Hid (Below V.heap.size V w1):=hb1
    have HB1:Hid (Below wr.heap.size wr w1):=HBV.out.trans (hb1.mono HBV.out.size)
    clear hb1 x2 y2 x4 y4 x5 y5
    obtain ⟨x2,y2,x4,y4,x5,y5⟩:=HX.out w1 HV1.out
    cases r1 with
    | false=>
      have HR:Hid (r=true):=HNO.out rfl
      clear HNO HYES
      go_wp2_with fail
      go_ret
      exact ⟨by rw [HR.out];rfl,(HBK.out w1 HB1.out).1⟩
    | true=>
      go_wp2_with fail
      refine (H2.out w1 HB1.out).mono ?_
      rintro e w2 ⟨rfl,hb2⟩
      have HV2:Hid (Below V.heap.size V w2):=HV1.out.trans (hb2.mono HV1.out.size)
      have HB2:Hid (Below wr.heap.size wr w2):=HB1.out.trans (hb2.mono HB1.out.size)
      clear hb2 x2 y2 x4 y4 x5 y5
      obtain ⟨x2,y2,x4,y4,x5,y5⟩:=HX.out w2 HV2.out
      cases r2 with
      | false=>
        have HR:Hid (r=true):=HNO.out rfl
        clear HNO HYES
        go_wp2_with fail
        go_ret
        exact ⟨by rw [HR.out];rfl,(HBK.out w2 HB2.out).1⟩
      | true=>
        go_wp2_with fail
        refine (H3.out w2 HB2.out).mono ?_
        rintro e w3 ⟨rfl,hb3⟩
        have HB3:Hid (Below wr.heap.size wr w3):=HB2.out.trans (hb3.mono HB2.out.size)
        clear hb3 x2 y2 x4 y4 x5 y5
        cases r3 with
        | false=>
          have HR:Hid (r=true):=HNO.out rfl
          clear HNO HYES
          go_wp2_with fail
          go_ret
          exact ⟨by rw [HR.out];rfl,(HBK.out w3 HB3.out).1⟩
        | true=>
          have HZ2:Hid _:=HYES.out (by simp) (by simp) (by simp)
          have HBF:Hid (Below w.heap.size w w3∧w3.heap[w.heap.size]?=some (.cells #[.slice (some ⟨b,off,none⟩) n ca,.slice al ml cl] 25 (0,0))):=HBK.out w3 HB3.out
          clear HNO HYES
          go_wp2_with fail
          go_roundw
          case rel=>exact ⟨k+1,by omega,.inl (by omega),by go_num,HZ2,HBF⟩
          case measure=>simp [intOf];omega
  ·have HR:Hid (r=false):=HR0.out (fun j h1 h2=>HZ.out j h1 (by omega))
   go_wp2_with fail
   go_ret
   exact ⟨by rw [HR.out];rfl,HB.out.1⟩
end Go.Proofs.YtffdoiokmiklgaaGreatDoor
