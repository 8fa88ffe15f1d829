import Derived.Test.YtffdoiokmiklgaaGreatDoortr1
import Derived.Test.YtffdoiokmiklgaaGreatDoortr4
import Derived.Test.YtffdoiokmiklgaaGreatDoortr6
import Derived.Test.YtffdoiokmiklgaaGreatDoortr5
import Derived.Test.YtffdoiokmiklgaaGreatDoortr2
import Derived.Deep.RegionHeld3
import Derived.Deep.RegionHeld
import Derived.Deep.RegionLaw
import Derived.Laws.OwnMore
namespace Go.Proofs.YtffdoiokmiklgaaGreatDoor
namespace Wh
open Go.RowKit
theorem Tryz.info109:(Tryz.prog.info? 109).map (fun i=>(i.zero,i.size,i.bytes))=some (some (.agg #[.string ⟨#[]⟩,.int .i64 0,.int .i64 0,.int .i64 0,.int .i64 0,.int .i64 0]),6,56):=by kernel_rfl
end Wh
namespace Wh
open Go.RowKit
def ord (a b:Whe):Int:=cmpI a.node b.node
theorem keyed:RL.Keyed ord:=RL.keyed_txt Whe.node
def newE (_ _:Whe):Bool:=true
abbrev Rise (ms:List Whe):Prop:=RL.Rise ord ms
abbrev hearL (ms:List Whe) (m:Whe):List Whe:=RL.hear ord newE ms m
abbrev risesB (ms:List Whe):Bool:=RL.risesB ord ms
theorem rises_allO (ms:List Whe) (h:∀ j,j+1 < ms.length→ord (ms.getD j dm) (ms.getD (j+1) dm) < 0):risesB ms=true:=RL.rises_all ord dm ms h
theorem rises_getO (ms:List Whe) (h:risesB ms=true):∀ j,j+1 < ms.length→ord (ms.getD j dm) (ms.getD (j+1) dm) < 0:=RL.rises_get ord dm ms h
def Whe.e (m:Whe):Int:=if labB m.node=true then chkP ⟨m.x,m.y,m.z,m.h,m.s⟩ else 1
def firstE:List Whe→Int
 | []=>0
 | m :: r=>if m.e=0 then firstE r else m.e
theorem firstE_zero:∀ (ms:List Whe),(∀ j,j < ms.length→(ms.getD j dm).e=0)→firstE ms=0
 | [],_=>rfl
 | m :: r,h=>by
   have h0:=h 0 (by simp)
   simp only [List.getD_cons_zero] at h0
   rw [firstE,if_pos h0]
   exact firstE_zero r fun j hj=>by have:=h (j+1) (by simpa using hj);simpa using this
theorem firstE_at:∀ (ms:List Whe) (k:Nat),k < ms.length→(∀ j,j < k→(ms.getD j dm).e=0)→(ms.getD k dm).e≠0→firstE ms=(ms.getD k dm).e
 | [],k,h,_,_=>by simp at h
 | m :: r,0,_,_,hne=>by
   simp only [List.getD_cons_zero] at hne ⊢
   rw [firstE,if_neg hne]
 | m :: r,k+1,h,hz,hne=>by
   have h0:=hz 0 (by omega)
   simp only [List.getD_cons_zero] at h0
   rw [firstE,if_pos h0,List.getD_cons_succ]
   rw [List.getD_cons_succ] at hne
   exact firstE_at r k (by simpa using h) (fun j hj=>by have:=hz (j+1) (by omega);simpa using this) hne
theorem firstE_mem:∀ (ms:List Whe),firstE ms=0→∀ m∈ms,m.e=0
 | [],_,m,hm=>by simp at hm
 | x :: r,h,m,hm=>by
   rw [firstE] at h
   split at h
   ·rename_i hx
    rcases List.mem_cons.1 hm with rfl | hm
    ·exact hx
    ·exact firstE_mem r h m hm
   ·rename_i hx;exact absurd h hx
def chk (ms:List Whe):Int:=if 20 < ms.length then 2 else if firstE ms=0 then (if risesB ms=true then 0 else 4) else firstE ms
theorem chk_e (ms:List Whe) (k:Nat) (hn:ms.length≤20) (hk:k < ms.length) (hz:∀ j,j < k→(ms.getD j dm).e=0) (hne:(ms.getD k dm).e≠0):chk ms=(ms.getD k dm).e:=by
 have h:=firstE_at ms k hk hz hne
 rw [chk,if_neg (by omega),h,if_neg hne]
theorem chk_r (ms:List Whe) (hn:ms.length≤20) (hz:∀ j,j < ms.length→(ms.getD j dm).e=0):chk ms=if risesB ms=true then 0 else 4:=by
 rw [chk,if_neg (by omega),firstE_zero ms hz,if_pos rfl]
theorem chk_zero {ms:List Whe} (h:chk ms=0):ms.length≤20∧Rise ms∧firstE ms=0:=by
 unfold chk at h
 split at h
 ·omega
 ·split at h
  ·rename_i h1 h2
   split at h
   ·rename_i h3
    exact ⟨by omega,RL.rise_of ord keyed ms h3,h2⟩
   ·omega
  ·rename_i h1 h2;exact absurd h h2
end Wh
namespace Gw
open Go.RowKit
def ord (a b:Gwy):Int:=cmpI a.centre b.centre
theorem keyed:RL.Keyed ord:=RL.keyed_txt Gwy.centre
def newC:Gwy→Gwy→Int:=RL.lex (fun a b=>a.version - b.version) (fun a b=>a.addr - b.addr)
def newE (a b:Gwy):Bool:=decide (0 < newC a b)
abbrev Rise (ms:List Gwy):Prop:=RL.Rise ord ms
abbrev joinL (a b:List Gwy):List Gwy:=RL.join ord newE a b
abbrev risesB (ms:List Gwy):Bool:=RL.risesB ord ms
theorem rises_allO (ms:List Gwy) (h:∀ j,j+1 < ms.length→ord (ms.getD j dm) (ms.getD (j+1) dm) < 0):risesB ms=true:=RL.rises_all ord dm ms h
theorem rises_getO (ms:List Gwy) (h:risesB ms=true):∀ j,j+1 < ms.length→ord (ms.getD j dm) (ms.getD (j+1) dm) < 0:=RL.rises_get ord dm ms h
def Gwy.e (m:Gwy):Int:=if labB m.centre=true then (if within m.addr 0 4294967295=true then (if within m.version 1 1000000=true then 0 else 3) else 3) else 1
def firstE:List Gwy→Int
 | []=>0
 | m :: r=>if m.e=0 then firstE r else m.e
theorem firstE_zero:∀ (ms:List Gwy),(∀ j,j < ms.length→(ms.getD j dm).e=0)→firstE ms=0
 | [],_=>rfl
 | m :: r,h=>by
   have h0:=h 0 (by simp)
   simp only [List.getD_cons_zero] at h0
   rw [firstE,if_pos h0]
   exact firstE_zero r fun j hj=>by have:=h (j+1) (by simpa using hj);simpa using this
theorem firstE_at:∀ (ms:List Gwy) (k:Nat),k < ms.length→(∀ j,j < k→(ms.getD j dm).e=0)→(ms.getD k dm).e≠0→firstE ms=(ms.getD k dm).e
 | [],k,h,_,_=>by simp at h
 | m :: r,0,_,_,hne=>by
   simp only [List.getD_cons_zero] at hne ⊢
   rw [firstE,if_neg hne]
 | m :: r,k+1,h,hz,hne=>by
   have h0:=hz 0 (by omega)
   simp only [List.getD_cons_zero] at h0
   rw [firstE,if_pos h0,List.getD_cons_succ]
   rw [List.getD_cons_succ] at hne
   exact firstE_at r k (by simpa using h) (fun j hj=>by have:=hz (j+1) (by omega);simpa using this) hne
theorem firstE_mem:∀ (ms:List Gwy),firstE ms=0→∀ m∈ms,m.e=0
 | [],_,m,hm=>by simp at hm
 | x :: r,h,m,hm=>by
   rw [firstE] at h
   split at h
   ·rename_i hx
    rcases List.mem_cons.1 hm with rfl | hm
    ·exact hx
    ·exact firstE_mem r h m hm
   ·rename_i hx;exact absurd h hx
def chk (ms:List Gwy):Int:=if 6 < ms.length then 2 else if firstE ms=0 then (if risesB ms=true then 0 else 4) else firstE ms
theorem chk_e (ms:List Gwy) (k:Nat) (hn:ms.length≤6) (hk:k < ms.length) (hz:∀ j,j < k→(ms.getD j dm).e=0) (hne:(ms.getD k dm).e≠0):chk ms=(ms.getD k dm).e:=by
 have h:=firstE_at ms k hk hz hne
 rw [chk,if_neg (by omega),h,if_neg hne]
theorem chk_r (ms:List Gwy) (hn:ms.length≤6) (hz:∀ j,j < ms.length→(ms.getD j dm).e=0):chk ms=if risesB ms=true then 0 else 4:=by
 rw [chk,if_neg (by omega),firstE_zero ms hz,if_pos rfl]
theorem chk_zero {ms:List Gwy} (h:chk ms=0):ms.length≤6∧Rise ms∧firstE ms=0:=by
 unfold chk at h
 split at h
 ·omega
 ·split at h
  ·rename_i h1 h2
   split at h
   ·rename_i h3
    exact ⟨by omega,RL.rise_of ord keyed ms h3,h2⟩
   ·omega
  ·rename_i h1 h2;exact absurd h h2
def chkTwo (a b:List Gwy):Int:=if chk a=0 then chk b else chk a
def joinE (a b:List Gwy):Int:=if chkTwo a b=0 then (if 6 < (joinL a b).length then 2 else 0) else chkTwo a b
end Gw
end Go.Proofs.YtffdoiokmiklgaaGreatDoor
namespace Go.Proofs.YtffdoiokmiklgaaGreatDoor
open Go.RowKit Go.WideMaps Go.Maps
theorem chk_oneR (m:Mem):chk [m]=m.e:=by
 unfold chk
 by_cases h:m.e=0
 ·simp [firstE,h,risesB]
 ·simp [firstE,h]
theorem cell_top' {W:World} {cs:Array Value} {t:TypeId} {g k:Nat} (hg:g=W.heap.size):(W.alloc (.cells cs t)).cell? ⟨g,k,none⟩=cs[k]?:=by subst hg;simp
set_option maxHeartbeats 800000 in
theorem checkMember_any (m:Mem) (w:World) (hs:m.name.size≤maxLen) :
 Calls Tryz.prog 180 #[.agg #[.string m.name,.int .i64 m.state,.int .i64 m.life,.int .i64 m.addr,.bool m.server]] w fun e w'=>e=.returned (.int .i64 m.e)∧Below w.heap.size w w':=by
 go_enter Tryz.func180,Tryz.ntmps180
 go_wp2_with fail
 refine (check_any [m] _ _ ⟨_,_,rfl,ns_get (by simpa using hs),.inr ⟨w.heap.size+1,0,rfl,by simp,?_⟩⟩).mono ?_
 ·intro j hj
  have:j=0:=by simpa using hj
  subst this
  exact ⟨cell_top' (by simp),cell_top' (by simp),cell_top' (by simp),cell_top' (by simp),cell_top' (by simp)⟩
 rintro e w1 ⟨rfl,hb1⟩
 have HB:Hid (Below w.heap.size w w1):=(((Below.refl _ _).alloc (Nat.le_refl _) _).alloc (by simp) _).trans (hb1.mono (by simp;omega))
 clear hb1
 rw [chk_oneR]
 go_wp2_with fail
 go_ret
 exact ⟨rfl,HB.out⟩
def Distinct (rs:List Rum):Prop:=∀ i j,i < j→j < rs.length→(rs.getD i dr).m.name≠(rs.getD j dr).m.name
def rmems (rs:List Rum):List Mem:=rs.map (·.m)
theorem rmems_get (rs:List Rum) (k:Nat):(rmems rs).getD k dm=(rs.getD k dr).m:=by
 by_cases h:k < rs.length
 ·simp [rmems,List.getD,List.getElem?_eq_getElem h]
 ·simp [rmems,List.getD,List.getElem?_eq_none (by omega:rs.length≤k),dr]
theorem rmems_len (rs:List Rum):(rmems rs).length=rs.length:=by simp [rmems]
def AllTold (rs:List Rum):Prop:=∀ j,j < rs.length→within (rs.getD j dr).told 0 100=true
theorem allTold_iff (rs:List Rum):((List.range rs.length).all fun j=>within (rs.getD j dr).told 0 100)=true↔AllTold rs:=by
 unfold AllTold
 simp only [List.all_eq_true,List.mem_range]
theorem distinct_iff (rs:List Rum):((List.range rs.length).all fun j=>(List.range j).all fun i=>decide ((rs.getD i dr).m.name≠(rs.getD j dr).m.name))=true↔Distinct rs:=by
 unfold Distinct
 simp only [List.all_eq_true,List.mem_range,decide_eq_true_eq]
 exact ⟨fun h i j hi hj=>h j hj i hi,fun h j hj i hi=>h i j hi hj⟩
def chkR (rs:List Rum):Int:=
 if 20 < rs.length then 2 else if firstE (rmems rs)=0 then (@ite _ (AllTold rs) (decidable_of_iff _ (allTold_iff rs)) (@ite _ (Distinct rs) (decidable_of_iff _ (distinct_iff rs)) 0 6) 3) else firstE (rmems rs)
theorem chkR_many {rs:List Rum} (h:20 < rs.length):chkR rs=2:=by unfold chkR;rw [if_pos h]
theorem chkR_mem {rs:List Rum} {k:Nat} (hn:rs.length≤20) (hk:k < rs.length) (hz:∀ j,j < k→(rs.getD j dr).m.e=0) (hne:(rs.getD k dr).m.e≠0):chkR rs=(rs.getD k dr).m.e:=by
 have h:=firstE_at (rmems rs) k (by rw [rmems_len];exact hk) (fun j hj=>by rw [rmems_get];exact hz j hj) (by rw [rmems_get];exact hne)
 rw [rmems_get] at h
 unfold chkR
 rw [if_neg (by omega),if_neg (by rw [h];exact hne),h]
theorem firstR_zero {rs:List Rum} (hz:∀ j,j < rs.length→(rs.getD j dr).m.e=0):firstE (rmems rs)=0:=
 firstE_zero _ (fun j hj=>by rw [rmems_get];exact hz j (by rw [rmems_len] at hj;exact hj))
theorem chkR_told {rs:List Rum} {k:Nat} (hn:rs.length≤20) (hz:∀ j,j < rs.length→(rs.getD j dr).m.e=0) (hk:k < rs.length) (hne:within (rs.getD k dr).told 0 100=false):chkR rs=3:=by
 unfold chkR
 rw [if_neg (by omega),if_pos (firstR_zero hz),if_neg]
 intro h
 rw [h k hk] at hne
 cases hne
theorem chkR_twice {rs:List Rum} (hn:rs.length≤20) (hz:∀ j,j < rs.length→(rs.getD j dr).m.e=0) (ht:AllTold rs) (hd:¬ Distinct rs):chkR rs=6:=by
 unfold chkR
 rw [if_neg (by omega),if_pos (firstR_zero hz),if_pos ht,if_neg hd]
theorem chkR_ok {rs:List Rum} (hn:rs.length≤20) (hz:∀ j,j < rs.length→(rs.getD j dr).m.e=0) (ht:AllTold rs) (hd:Distinct rs):chkR rs=0:=by
 unfold chkR
 rw [if_neg (by omega),if_pos (firstR_zero hz),if_pos ht,if_pos hd]
theorem dm_lt {rs:List Rum} (hd:¬ Distinct rs):Maps.size (Dm (rnames rs) rs.length) < rs.length:=by
 apply Dm_size_lt
 apply Classical.byContradiction
 intro h
 apply hd
 intro i j hij hj e
 exact h ⟨i,j,hij,hj,by rw [rnames_get,rnames_get];exact e⟩
theorem dm_eq {rs:List Rum} (hd:Distinct rs):Maps.size (Dm (rnames rs) rs.length)=rs.length:=
 Dm_size_eq _ _ (fun i j hij hj=>by rw [rnames_get,rnames_get];exact hd i j hij hj)
set_option maxHeartbeats 3200000 in
set_option maxRecDepth 100000 in
theorem checkR_any (rs:List Rum) (v:Value) (w:World) (hv:RSl w v rs) :
 Calls Tryz.prog 126 #[v] w fun e w'=>e=.returned (.int .i64 (chkR rs))∧Below w.heap.size w w':=by
 have HV:Hid (RSl w v rs):=hv
 obtain ⟨pa,ca,rfl,hsz,ha⟩:=hv
 by_cases hmany:20 < rs.length
 ·have HE:Hid (chkR rs=2):=chkR_many hmany
  go_enter Tryz.func126,Tryz.ntmps126
  go_wp2_with fail
  go_ret
  exact ⟨ret_int HE.out.symm,Below.refl _ _⟩
 have HA:Hid (rs=[]∨∃ b off,pa=some ⟨b,off,none⟩∧b < w.heap.size∧RRow w b off rs):=ha
 have HS:Hid (∀ j,(rs.getD j dr).m.name.size≤maxLen):=hsz
 clear ha hsz
 generalize hN:rs.length=n at *
 have HN:Hid (rs.length=n):=hN
 clear hN
 have hn20:n≤20:=by omega
 go_enter Tryz.func126,Tryz.ntmps126
 go_wp2
 go_loopw [13] (fun i wr=>∃ k:Nat,k≤n∧i=.int .i64 k∧Hid (∀ j,j < k→(rs.getD j dr).m.e=0)∧Hid (Below w.heap.size w wr))
  (fun i _=>n - (intOf i).toNat)
 case atStart=>exact ⟨0,Nat.zero_le _,rfl,fun j hj=>by omega,Below.refl _ _⟩
 case round=>
  obtain ⟨k,hk,rfl,HZ,HB⟩:=hrel
  by_cases hlt:k < n
  ·obtain ⟨b,off,hp,hl,hr⟩:∃ b off,pa=some ⟨b,off,none⟩∧b < w.heap.size∧RRow w b off rs:=by
    rcases HA.out with h | h
    ·have:=HN.out;rw [h] at this;simp at this;omega
    ·exact h
   subst hp
   obtain ⟨c0,c1,c2,c3,c4,c5⟩:=hr.below HB.out hl k (by rw [HN.out];exact hlt)
   have hnm:=HS.out k
   have HX:Hid ((rs.getD k dr).m.e≠0→chkR rs=(rs.getD k dr).m.e):=fun h=>chkR_mem (by rw [HN.out];exact hn20) (by rw [HN.out];exact hlt) HZ.out h
   have HZ2:Hid ((rs.getD k dr).m.e=0→∀ j,j < k+1→(rs.getD j dr).m.e=0):=fun h j hj=>by
    by_cases e:j=k
    ·subst e;exact h
    ·exact HZ.out j (by omega)
   generalize (rs.getD k dr)=rk at *
   obtain ⟨⟨nm,st,lf,ad,sv⟩,td⟩:=rk
   simp only at c0 c1 c2 c3 c4 c5 hnm HX HZ2
   clear hr HZ
   go_wp2_with fail
   refine (checkMember_any ⟨nm,st,lf,ad,sv⟩ _ hnm).mono ?_
   rintro e w1 ⟨rfl,hb1⟩
   have HB1:Hid (Below w.heap.size w w1):=(HB.out.alloc HB.out.size _).trans (hb1.mono (by have:=HB.out.size;simp;omega))
   clear hb1 c0 c1 c2 c3 c4 c5 HB
   by_cases he:(Mem.mk nm st lf ad sv).e=0
   ·have he':((Mem.mk nm st lf ad sv).e != 0)=false:=by simpa using he
    have HZ3:Hid (∀ j,j < k+1→(rs.getD j dr).m.e=0):=HZ2.out he
    clear HX HZ2 he
    go_wp2_with fail
    go_roundw
    case rel=>exact ⟨k+1,by omega,by go_num,HZ3,HB1⟩
    case measure=>simp [intOf];omega
   ·have he':((Mem.mk nm st lf ad sv).e != 0)=true:=by simpa using he
    have HE:Hid (chkR rs=(Mem.mk nm st lf ad sv).e):=HX.out he
    clear HX HZ2 he
    go_wp2_with fail
    go_ret
    exact ⟨ret_int HE.out.symm,HB1.out⟩
  ·have HZA:Hid (∀ j,j < rs.length→(rs.getD j dr).m.e=0):=fun j hj=>HZ.out j (by rw [HN.out] at hj;omega)
   clear HZ
   go_wp2_with fail
   go_loopw [26] (fun i wr=>∃ k:Nat,k≤n∧i=.int .i64 k∧Hid (∀ j,j < k→within (rs.getD j dr).told 0 100=true)∧Hid (Below w.heap.size w wr))
    (fun i _=>n - (intOf i).toNat)
   case atStart=>exact ⟨0,Nat.zero_le _,rfl,fun j hj=>by omega,HB⟩
   case round=>
    clear HB hlt hk
    obtain ⟨k2,hk,rfl,HZ,HB⟩:=hrel
    by_cases hlt:k2 < n
    ·obtain ⟨b,off,hp,hl,hr⟩:∃ b off,pa=some ⟨b,off,none⟩∧b < w.heap.size∧RRow w b off rs:=by
      rcases HA.out with h | h
      ·have:=HN.out;rw [h] at this;simp at this;omega
      ·exact h
     subst hp
     obtain ⟨c0,c1,c2,c3,c4,c5⟩:=hr.below HB.out hl k2 (by rw [HN.out];exact hlt)
     have HX:Hid (within (rs.getD k2 dr).told 0 100=false→chkR rs=3):=fun h=>chkR_told (by rw [HN.out];exact hn20) HZA.out (by rw [HN.out];exact hlt) h
     have HZ2:Hid (within (rs.getD k2 dr).told 0 100=true→∀ j,j < k2+1→within (rs.getD j dr).told 0 100=true):=fun h j hj=>by
      by_cases e:j=k2
      ·subst e;exact h
      ·exact HZ.out j (by omega)
     generalize (rs.getD k2 dr)=rk at *
     obtain ⟨⟨nm,st,lf,ad,sv⟩,td⟩:=rk
     simp only at c0 c1 c2 c3 c4 c5 HX HZ2
     clear hr HZ
     rcases ht:within td 0 100 with _ | _
     ·have HE:Hid (chkR rs=3):=HX.out ht
      clear HX HZ2
      go_wp2_with (go_at_call 76;refine (within_any _ _ _ _).mono ?_;rintro e w' ⟨rfl,rfl⟩;rw [ht])
      go_ret
      exact ⟨ret_int HE.out.symm,HB.out.alloc HB.out.size _⟩
     ·have HZ3:Hid (∀ j,j < k2+1→within (rs.getD j dr).told 0 100=true):=HZ2.out ht
      clear HX HZ2
      go_wp2_with (go_at_call 76;refine (within_any _ _ _ _).mono ?_;rintro e w' ⟨rfl,rfl⟩;rw [ht])
      go_roundw
      case rel=>exact ⟨k2+1,by omega,by go_num,HZ3,HB.out.alloc HB.out.size _⟩
      case measure=>simp [intOf];omega
    ·have HTA:Hid (AllTold rs):=fun j hj=>HZ.out j (by rw [HN.out] at hj;omega)
     clear HZ
     go_wp2_with fail
     refine (met_any rs _ _ (HV.out.below HB.out) (by rw [HN.out];omega)).mono ?_
     rintro e w1 ⟨rfl,hown,hb1⟩
     have HO:Hid (w1.ownsMap Tryz.prog 9 (plainElem (H:=Unit) Tryz.prog 3) wr.heap.size rs.length (Dm (rnames rs) rs.length)):=hown
     have HB1:Hid (Below w.heap.size w w1):=HB.out.trans (hb1.mono HB.out.size)
     clear hown hb1
     have hsz1:(Maps.size (Dm (rnames rs) rs.length):Nat)≤n:=by rw [← HN.out];exact Dm_size_le _ _
     by_cases hd:Distinct rs
     ·have HE:Hid (chkR rs=0):=chkR_ok (by rw [HN.out];exact hn20) HZA.out HTA.out hd
      have HSZ:¬ ((Maps.size (Dm (rnames rs) rs.length):Nat):Int) < n:=by rw [dm_eq hd,HN.out];omega
      go_wp2_with (at_len;refine wpList_len_own _ rfl _ 131 rfl 9 3 Tryz.underlying131 _ _ _ _ rfl HO.out ?_)
      go_ret
      exact ⟨ret_int HE.out.symm,HB1.out⟩
     ·have HE:Hid (chkR rs=6):=chkR_twice (by rw [HN.out];exact hn20) HZA.out HTA.out hd
      have HSZ:((Maps.size (Dm (rnames rs) rs.length):Nat):Int) < n:=by have:=dm_lt hd;have:=HN.out;omega
      go_wp2_with (at_len;refine wpList_len_own _ rfl _ 131 rfl 9 3 Tryz.underlying131 _ _ _ _ rfl HO.out ?_)
      go_ret
      exact ⟨ret_int HE.out.symm,HB1.out⟩
end Go.Proofs.YtffdoiokmiklgaaGreatDoor
namespace Go.Proofs.YtffdoiokmiklgaaGreatDoor
open Go.RowKit
def fstM (ms:List Mem) (t:ByteArray):Option Mem:=ms.find? fun m=>decide (m.name=t)
def mOf (ms:List Mem) (t:ByteArray):Mem:=(fstM ms t).getD dm
theorem fstM_none {ms:List Mem} {t:ByteArray} (h:∀ j,j < ms.length→(ms.getD j dm).name≠t):fstM ms t=none:=by
 unfold fstM
 rw [List.find?_eq_none]
 intro x hx
 obtain ⟨j,hj,rfl⟩:=List.getElem_of_mem hx
 have:=h j hj
 rw [show ms.getD j dm=ms[j] by simp [List.getD,List.getElem?_eq_getElem hj]] at this
 simpa using this
theorem fstM_some {ms:List Mem} {t:ByteArray} {k:Nat} (hk:k < ms.length) (h1:∀ j,j < k→(ms.getD j dm).name≠t) (h2:(ms.getD k dm).name=t):fstM ms t=some (ms.getD k dm):=by
 unfold fstM
 rw [show ms.getD k dm=ms[k] by simp [List.getD,List.getElem?_eq_getElem hk]] at h2 ⊢
 rw [List.find?_eq_some_iff_getElem]
 refine ⟨by simpa using h2,k,hk,rfl,fun j hj=>?_⟩
 have:=h1 j hj
 rw [show ms.getD j dm=ms[j]'(by omega) by simp [List.getD,List.getElem?_eq_getElem (show j < ms.length by omega)]] at this
 simpa using this
theorem fstM_mem {ms:List Mem} {t:ByteArray} {m:Mem} (h:fstM ms t=some m):m∈ms∧m.name=t:=by
 unfold fstM at h
 exact ⟨List.mem_of_find?_eq_some h,by simpa using List.find?_some h⟩
def Apart (ms:List Mem):Prop:=∀ i j,i < j→j < ms.length→(ms.getD i dm).name≠(ms.getD j dm).name
def apB (ms:List Mem):Bool:=(List.range ms.length).all fun j=>(List.range j).all fun i=>decide ((ms.getD i dm).name≠(ms.getD j dm).name)
theorem apB_iff (ms:List Mem):apB ms=true↔Apart ms:=by
 simp only [apB,List.all_eq_true,List.mem_range,decide_eq_true_eq]
 exact ⟨fun h i j hij hj=>h j hj i hij,fun h j hj i hij=>h i j hij hj⟩
def chkT (ms:List Mem):Int:=if 5 < ms.length then 2 else if firstE ms=0 then (if apB ms=true then 0 else 6) else firstE ms
theorem chkT_many {ms:List Mem} (h:5 < ms.length):chkT ms=2:=if_pos h
theorem chkT_e {ms:List Mem} {k:Nat} (hn:ms.length≤5) (hk:k < ms.length) (hz:∀ j,j < k→(ms.getD j dm).e=0) (hne:(ms.getD k dm).e≠0):chkT ms=(ms.getD k dm).e:=by
 have h:=firstE_at ms k hk hz hne
 rw [chkT,if_neg (by omega),h,if_neg hne]
theorem chkT_twice {ms:List Mem} (hn:ms.length≤5) (hz:∀ j,j < ms.length→(ms.getD j dm).e=0) (hd:¬ Apart ms):chkT ms=6:=by
 rw [chkT,if_neg (by omega),if_pos (firstE_zero ms hz),if_neg (fun h=>hd ((apB_iff ms).1 h))]
theorem chkT_ok {ms:List Mem} (hn:ms.length≤5) (hz:∀ j,j < ms.length→(ms.getD j dm).e=0) (hd:Apart ms):chkT ms=0:=by
 rw [chkT,if_neg (by omega),if_pos (firstE_zero ms hz),if_pos ((apB_iff ms).2 hd)]
theorem chkT_zero {ms:List Mem} (h:chkT ms=0):ms.length≤5∧firstE ms=0∧Apart ms:=by
 unfold chkT at h
 split at h
 ·cases h
 ·split at h
  ·rename_i h1 h2
   split at h
   ·rename_i h3;exact ⟨by omega,h2,(apB_iff ms).1 h3⟩
   ·cases h
  ·rename_i h1 h2;exact absurd h h2
structure Pk where
 frm:ByteArray
 whole:Bool
 ms:List Mem
 sv:List Sv.Svc
 gw:List Gw.Gwy
 wh:List Wh.Whe
def Pk.alone (p:Pk):Bool:=p.sv.isEmpty && (p.gw.isEmpty && p.wh.isEmpty)
def Pk.mE (p:Pk):Int:=if p.whole=true then chk p.ms else chkT p.ms
def Pk.e (p:Pk):Int:=
 if (labB p.frm && (p.whole || p.alone))=true then
  (if p.mE=0 then (if Sv.chk p.sv=0 then (if Gw.chk p.gw=0 then Wh.chk p.wh else Gw.chk p.gw) else Sv.chk p.sv) else p.mE)
 else 1
structure Nd where
 name:ByteArray
 centre:ByteArray
 ms:List Mem
 rs:List Rum
 sv:List Sv.Svc
 gw:List Gw.Gwy
 p:Pl
 wh:List Wh.Whe
def aheadB (ms:List Mem) (r:Rum):Bool:=match fstM ms r.m.name with
 | none=>true
 | some k=>newM r.m k
def Nd.wE (n:Nd):Int:=match fstM n.ms n.name with
 | none=>5
 | some m=>if m.state=2∨m.state=3 then 4 else if n.rs.any (aheadB n.ms)=true then 4 else 0
def Nd.pE (n:Nd):Int:=
 if (labB n.name && labB n.centre)=true then
  (if chk n.ms=0 then (if chkR n.rs=0 then (if Sv.chk n.sv=0 then (if Gw.chk n.gw=0 then (if chkP n.p=0 then Wh.chk n.wh else chkP n.p) else Gw.chk n.gw) else Sv.chk n.sv) else chkR n.rs) else chk n.ms)
 else 1
def Nd.e (n:Nd):Int:=if n.pE=0 then n.wE else n.pE
structure Nd.Parts (n:Nd):Prop where
 name:labB n.name=true
 centre:labB n.centre=true
 ms:chk n.ms=0
 rs:chkR n.rs=0
 sv:Sv.chk n.sv=0
 gw:Gw.chk n.gw=0
 p:chkP n.p=0
 wh:Wh.chk n.wh=0
theorem Nd.parts {n:Nd} (h:n.pE=0):n.Parts:=by
 unfold Nd.pE at h
 split at h
 ·rename_i h0
  rw [Bool.and_eq_true] at h0
  split at h
  ·rename_i h1
   split at h
   ·rename_i h2
    split at h
    ·rename_i h3
     split at h
     ·rename_i h4
      split at h
      ·rename_i h5;exact ⟨h0.1,h0.2,h1,h2,h3,h4,h5,h⟩
      ·rename_i h5;exact absurd h h5
     ·rename_i h4;exact absurd h h4
    ·rename_i h3;exact absurd h h3
   ·rename_i h2;exact absurd h h2
  ·rename_i h1;exact absurd h h1
 ·cases h
theorem Nd.e_zero {n:Nd} (h:n.e=0):n.pE=0∧n.wE=0:=by
 unfold Nd.e at h
 split at h
 ·rename_i h1;exact ⟨h1,h⟩
 ·rename_i h1;exact absurd h h1
end Go.Proofs.YtffdoiokmiklgaaGreatDoor
namespace Go.Proofs.YtffdoiokmiklgaaGreatDoor
namespace Wh
open Go.RowKit
end Wh
namespace Gw
open Go.RowKit
set_option maxHeartbeats 400000 in
theorem order_any (a b:Gwy) (w:World) :
 Calls Tryz.prog 187 #[.agg #[.string a.centre,.int .i64 a.addr,.int .i64 a.version],.agg #[.string b.centre,.int .i64 b.addr,.int .i64 b.version]] w fun e w'=>e=.returned (.int .i64 (ord a b))∧Below w.heap.size w w':=by
 go_enter Tryz.func187,Tryz.ntmps187
 go_wp2_with (go_at_call 99;refine (compare_any _ _ _).mono ?_;rintro e w' ⟨rfl,rfl⟩)
 go_ret
 exact ⟨rfl,((Below.refl _ _).alloc (Nat.le_refl _) _).alloc (by simp) _⟩
end Gw
end Go.Proofs.YtffdoiokmiklgaaGreatDoor
namespace Go.Proofs.YtffdoiokmiklgaaGreatDoor
open Go.RowKit
def Rum.cs (r:Rum):List Value:=[.string r.m.name,.int .i64 r.m.state,.int .i64 r.m.life,.int .i64 r.m.addr,.bool r.m.server,.int .i64 r.told]
def flR (rs:List Rum):List Value:=rs.flatMap Rum.cs
theorem rcs_len (r:Rum):r.cs.length=6:=rfl
theorem flR_cons (m:Rum) (r:List Rum):flR (m :: r)=m.cs++flR r:=by simp [flR]
theorem flR_append (a b:List Rum):flR (a++b)=flR a++flR b:=by simp [flR]
theorem flR_len:∀ ms:List Rum,(flR ms).length=ms.length * 6
 | []=>rfl
 | m :: r=>by rw [flR_cons,List.length_append,flR_len r,rcs_len,List.length_cons];omega
theorem flR_take:∀ (ms:List Rum) (i:Nat),(flR ms).take (i * 6)=flR (ms.take i)
 | [],i=>by simp [flR]
 | m :: r,0=>by simp [flR]
 | m :: r,i+1=>by
   rw [flR_cons,List.take_succ_cons,flR_cons,show (i+1) * 6=m.cs.length+i * 6 by rw [rcs_len];omega,List.take_length_add_append,flR_take r i]
theorem flR_drop:∀ (ms:List Rum) (i:Nat),(flR ms).drop (i * 6)=flR (ms.drop i)
 | [],i=>by simp [flR]
 | m :: r,0=>by simp
 | m :: r,i+1=>by
   rw [flR_cons,List.drop_succ_cons,show (i+1) * 6=m.cs.length+i * 6 by rw [rcs_len];omega,List.drop_length_add_append,flR_drop r i]
theorem rcs_one (m:Rum):∀ v∈m.cs,v.oneCell'=true:=by
 intro v hv;simp [Rum.cs] at hv;rcases hv with rfl | rfl | rfl | rfl | rfl | rfl<;>rfl
theorem flR_one (ms:List Rum):∀ v∈flR ms,v.oneCell'=true:=by
 intro v hv
 obtain ⟨m,_,h⟩:=List.mem_flatMap.1 hv
 exact rcs_one m v h
theorem flR_get (ms:List Rum) (j:Nat) (hj:j < ms.length) (t:Nat) (ht:t < 6):(flR ms)[j * 6+t]?=(ms.getD j dr).cs[t]?:=by
 induction ms generalizing j with
 | nil=>simp at hj
 | cons m r ih=>
   rw [flR_cons]
   cases j with
   | zero=>rw [List.getElem?_append_left (by rw [rcs_len];omega)];simp
   | succ j=>
     rw [List.getElem?_append_right (by rw [rcs_len];omega),rcs_len,show (j+1) * 6+t - 6=j * 6+t by omega,ih j (by simpa using hj)]
     simp
abbrev ROwn (base:Nat) (w:World) (v:Value) (ms:List Rum):Prop:=w.ownsRow base 98 6 v ms.length (flR ms)
theorem rown_nil (base:Nat) (w:World):ROwn base w (.slice none 0 0) []:=World.ownsRow_nil w base 98 6
theorem rown_snoc {base:Nat} {w:World} {v:Value} {L:List Rum} {m:Rum} (h:w.ownsRow base 98 6 v (L.length+1) (flR L++m.cs)):ROwn base w v (L++[m]):=by
 have e:flR (L++[m])=flR L++m.cs:=by rw [flR_append,flR_cons];simp [flR]
 show w.ownsRow base 98 6 v (L++[m]).length (flR (L++[m]))
 rw [e,List.length_append]
 exact h
theorem rns_get {rs:List Rum} (h:∀ r∈rs,r.m.name.size≤maxLen):∀ j,(rs.getD j dr).m.name.size≤maxLen:=fun j=>by
 by_cases hj:j < rs.length
 ·rw [show rs.getD j dr=rs[j] by simp [List.getD,List.getElem?_eq_getElem hj]]
  exact h _ (List.getElem_mem hj)
 ·rw [show rs.getD j dr=dr by simp [List.getD,List.getElem?_eq_none (by omega:rs.length≤j)]]
  exact Nat.zero_le _
theorem rns_mem {rs:List Rum} (h:∀ j,(rs.getD j dr).m.name.size≤maxLen):∀ m∈rs,m.m.name.size≤maxLen:=by
 intro m hm
 obtain ⟨j,hj,rfl⟩:=List.getElem_of_mem hm
 have:=h j
 rwa [show rs.getD j dr=rs[j] by simp [List.getD,List.getElem?_eq_getElem hj]] at this
theorem ROwn.sl {base:Nat} {w:World} {v:Value} {ms:List Rum} (h:ROwn base w v ms) (hs:∀ j,(ms.getD j dr).m.name.size≤maxLen):RSl w v ms:=by
 rcases h.2 with ⟨rfl,h0⟩ | ⟨g,c,cur,rfl,hbg,hg,hnc,hcm,hcs,htake⟩
 ·exact ⟨none,0,by rw [h0],hs,.inl (List.eq_nil_of_length_eq_zero h0)⟩
 ·refine ⟨_,c,rfl,hs,.inr ⟨g,0,rfl,(Array.getElem?_eq_some_iff.1 hg).1,fun j hj=>?_⟩⟩
  have hc:∀ t,t < 6→w.cell? ⟨g,0+j * 6+t,none⟩=(ms.getD j dr).cs[t]?:=fun t ht=>by
   rw [cellsAt hg,← flR_get ms j hj t ht,← htake,List.getElem?_take_of_lt (by omega)];simp
  exact ⟨hc 0 (by omega),hc 1 (by omega),hc 2 (by omega),hc 3 (by omega),hc 4 (by omega),hc 5 (by omega)⟩
theorem ROwn.below {base:Nat} {w w':World} {v:Value} {ms:List Rum} (h:ROwn base w v ms) (hb:Below w.heap.size w w'):ROwn base w' v ms:=by
 obtain ⟨h1,h2⟩:=h
 refine ⟨h1,?_⟩
 rcases h2 with h2 | ⟨g,c,cur,hv,hbg,hg,hr⟩
 ·exact .inl h2
 ·exact .inr ⟨g,c,cur,hv,hbg,by rw [hb.block g (Array.getElem?_eq_some_iff.1 hg).1];exact hg,hr⟩
theorem ROwn.base {b b':Nat} {w:World} {v:Value} {ms:List Rum} (h:ROwn b w v ms) (hb:b'≤b):ROwn b' w v ms:=by
 obtain ⟨h1,h2⟩:=h
 refine ⟨h1,?_⟩
 rcases h2 with h2 | ⟨g,c,cur,hv,hbg,hr⟩
 ·exact .inl h2
 ·exact .inr ⟨g,c,cur,hv,Nat.le_trans hb hbg,hr⟩
theorem ROwn.lt {base:Nat} {w:World} {v:Value} {ms:List Rum} (h:ROwn base w v ms) (k:Nat) (hk:v.ownBlock=some k):base≤k∧k < w.heap.size:=World.ownsRow.lt h k hk
theorem ROwn.slice {base:Nat} {w:World} {v:Value} {ms:List Rum} (h:ROwn base w v ms):∃ a c,v=.slice a ms.length c:=by
 rcases h.2 with ⟨rfl,h0⟩ | ⟨g,c,cur,rfl,_⟩
 ·exact ⟨none,0,by rw [h0]⟩
 ·exact ⟨_,c,rfl⟩
theorem Tryz.infoR:(Tryz.prog.info? 98).map (fun i=>(i.zero,i.size,i.bytes))=some (some (.agg #[.string ⟨#[]⟩,.int .i64 0,.int .i64 0,.int .i64 0,.bool false,.int .i64 0]),6,56):=by kernel_rfl
theorem rrow_cell {rs:List Rum} {w:World} {b off:Nat} (hr:RRow w b off rs) {j:Nat} {u:Value} (hj:(flR rs)[j]?=some u):w.cell? ⟨b,off+j,none⟩=some u:=by
 have hjl:j < rs.length * 6:=by rw [← flR_len];exact (List.getElem?_eq_some_iff.1 hj).1
 have h1:=flR_get rs (j / 6) (by omega) (j%6) (by omega)
 rw [show j / 6 * 6+j%6=j by omega,hj] at h1
 obtain ⟨c0,c1,c2,c3,c4,c5⟩:=hr (j / 6) (by omega)
 have hcs:j%6=0∨j%6=1∨j%6=2∨j%6=3∨j%6=4∨j%6=5:=by omega
 rcases hcs with e | e | e | e | e | e
 ·rw [show off+j=off+j / 6 * 6 by omega,c0];rw [e] at h1;simpa [Rum.cs] using h1.symm
 ·rw [show off+j=off+j / 6 * 6+1 by omega,c1];rw [e] at h1;simpa [Rum.cs] using h1.symm
 ·rw [show off+j=off+j / 6 * 6+2 by omega,c2];rw [e] at h1;simpa [Rum.cs] using h1.symm
 ·rw [show off+j=off+j / 6 * 6+3 by omega,c3];rw [e] at h1;simpa [Rum.cs] using h1.symm
 ·rw [show off+j=off+j / 6 * 6+4 by omega,c4];rw [e] at h1;simpa [Rum.cs] using h1.symm
 ·rw [show off+j=off+j / 6 * 6+5 by omega,c5];rw [e] at h1;simpa [Rum.cs] using h1.symm
set_option maxHeartbeats 800000 in
theorem rclone_any (rs:List Rum) (v:Value) (w:World) (h:RSl w v rs) (hn:rs.length≤1000) :
 Calls Tryz.prog 71 #[v] w fun e w'=>∃ v',e=.returned v'∧ROwn w.heap.size w' v' rs∧Below w.heap.size w w':=by
 obtain ⟨a,cap,rfl,hs,h⟩:=h
 obtain ⟨i0,hi0,hz0,hzs,hzb⟩:=info_parts Tryz.infoR
 cases a with
 | none=>
   have he:rs=[]:=by
    rcases h with h | ⟨b,off,h,_⟩
    ·exact h
    ·cases h
   subst he
   clear h hs
   have hnil:=fun (w:World)=>Lib.run_eql_slice_nil (P:=Tryz.prog) w 46 98 none 0 cap 0 0 Tryz.underlying46
   simp only [List.length_nil,Option.isNone_none] at hnil ⊢
   go_enter Tryz.func71,Tryz.ntmps71
   go_wp2_with fail
   go_ret
   exact ⟨_,rfl,rown_nil _ _,Below.refl _ _⟩
 | some a=>
   have hnil:=fun (w:World)=>Lib.run_eql_slice_nil (P:=Tryz.prog) w 46 98 (some a) rs.length cap 0 0 Tryz.underlying46
   simp only [Option.isNone_some] at hnil
   have hnews:Hid (∀ j u,(flR rs)[j]?=some u→(w.alloc (.cells #[] 98)).cell? (a.add j)=some u):=by
    intro j u hj
    rcases h with h | ⟨b,off,h,hb,hr⟩
    ·subst h;simp [flR] at hj
    ·cases h
     rw [Addr.add_lit,World.cell?_alloc_past (w:=w) _ b _ hb]
     exact rrow_cell hr hj
   have HO:Hid ((w.alloc (.cells #[] 98)).ownsRow w.heap.size 98 6 (.slice (some ⟨w.heap.size,0,none⟩) 0 0) 0 []):=World.ownsRow_made w #[] 0 (Nat.le_refl _) (by unfold maxLen;omega) rfl
   clear h hs
   go_enter Tryz.func71,Tryz.ntmps71
   go_wp2_with (at_builtin;refine wpList_append_own _ rfl _ _ 46 rfl w.heap.size 98 i0 _ 6 56 Tryz.underlying46 hi0 hz0 hzs hzb rfl (by omega) _ 0 [] rfl HO.out a rs.length cap (flR rs) rfl (flR_len rs) hnews.out (flR_one rs) (by unfold maxLen;omega) (by omega) (by simp) ?_)
   intro v' w' r1 r2 r3
   go_wp2_with fail
   go_ret
   refine ⟨v',rfl,?_,?_⟩
   ·simpa using r1
   ·exact ((Below.refl _ _).alloc (Nat.le_refl _) _).grown r2 (by simp) (fun k hk=>by simp [Value.ownBlock] at hk;omega)
end Go.Proofs.YtffdoiokmiklgaaGreatDoor
namespace Go.Proofs.YtffdoiokmiklgaaGreatDoor
open Go.RowKit Go.WideMaps Go.Maps
theorem look_any {w:World} {b n:Nat} {D:DataW Unit} (h:w.ownsMap Tryz.prog 9 (plainElem (H:=Unit) Tryz.prog 3) b n D) {s:ByteArray} (hs:s.size≤maxLen) :
 ∃ c:Int,(Instr.lookup 131 (.map (some b)) (.string s) true).run Tryz.prog w=.ok (.tuple #[.int .i64 c,.bool (Maps.has D (kS s))]) w∧D.atKey (kS s) (.lit (.int .i64 0))=.lit (.int .i64 c):=by
 obtain ⟨v,ps,hrun,hv⟩:=h.look_ok law9 Tryz.underlying131 (zero3' _) (plainElem_int Tryz.underlying3 (by decide)) (keyOf_string_mk Tryz.underlying9 hs)
 obtain ⟨c,rfl,hc,_⟩:=plainElem_int_inv Tryz.underlying3 hv
 exact ⟨c,hrun,congrArg Prod.fst hc⟩
def NotIn (rs:List Rum) (nm:ByteArray):Prop:=∀ j,j < rs.length→(rs.getD j dr).m.name≠nm
theorem has_not {rs:List Rum} {nm:ByteArray} (h:NotIn rs nm):Maps.has (Dm (rnames rs) rs.length) (kS nm)=false:=by
 cases hh:Maps.has (Dm (rnames rs) rs.length) (kS nm)
 ·rfl
 ·obtain ⟨j,hj,e⟩:=(Dm_has _ _ _).1 hh
  rw [rnames_get] at e
  exact absurd e (h j hj)
set_option maxHeartbeats 3200000 in
set_option maxRecDepth 100000 in
theorem put_new (rs:List Rum) (v:Value) (m:Mem) (w:World) (hv:RSl w v rs) (hm:m.name.size≤maxLen) (h0:chkR rs=0) (he:m.e=0) (hno:NotIn rs m.name) (hl:rs.length < 20) :
 Calls Tryz.prog 195 #[v,.agg #[.string m.name,.int .i64 m.state,.int .i64 m.life,.int .i64 m.addr,.bool m.server]] w fun e w'=>∃ v',e=.returned (.tuple #[v',.int .i64 0])∧ROwn w.heap.size w' v' (rs++[⟨m,0⟩])∧Below w.heap.size w w':=by
 obtain ⟨i0,hi0,hz0,hzs,hzb⟩:=info_parts Tryz.infoR
 have HV:Hid (RSl w v rs):=hv
 have hchk:=fun (w:World) (h:RSl w v rs)=>checkR_any rs v w h
 rw [h0] at hchk
 have hcm:=fun w=>checkMember_any m w hm
 rw [he] at hcm
 have HH:Hid (Maps.has (Dm (rnames rs) rs.length) (kS m.name)=false):=has_not hno
 clear h0 he hv
 obtain ⟨nm,st,lf,ad,sv⟩:=m
 simp only at *
 have hB0:Below w.heap.size w (w.alloc (.cells #[.string nm,.int .i64 st,.int .i64 lf,.int .i64 ad,.bool sv] 56)):=(Below.refl _ _).alloc (Nat.le_refl _) _
 go_enter Tryz.func195,Tryz.ntmps195
 go_wp2_with fail
 refine (hchk _ (HV.out.below hB0)).mono ?_
 rintro e w1 ⟨rfl,hb1⟩
 have c1:∀ o,w1.cell? ⟨w.heap.size,o,none⟩=#[Value.string nm,.int .i64 st,.int .i64 lf,.int .i64 ad,.bool sv][o]?:=fun o=>by
  rw [hb1.cell (p:=⟨w.heap.size,o,none⟩) (by simp)];exact cell_top' rfl
 have HB1:Hid (Below w.heap.size w w1):=hB0.trans (hb1.mono (by simp))
 have hz1:w.heap.size < w1.heap.size:=by have:=hb1.size;simp at this;omega
 clear hb1 hB0 hchk
 go_wp2_with fail
 refine (hcm _).mono ?_
 rintro e w2 ⟨rfl,hb2⟩
 have c2:∀ o,w2.cell? ⟨w.heap.size,o,none⟩=#[Value.string nm,.int .i64 st,.int .i64 lf,.int .i64 ad,.bool sv][o]?:=fun o=>by
  rw [hb2.cell (p:=⟨w.heap.size,o,none⟩) (by simp only;omega)];exact c1 o
 have HB2:Hid (Below w.heap.size w w2):=HB1.out.trans (hb2.mono HB1.out.size)
 have hz2:w.heap.size < w2.heap.size:=by have:=hb2.size;omega
 clear hb2 c1 hz1 HB1 hcm
 go_wp2_with fail
 refine (rclone_any rs v _ (HV.out.below HB2.out) (by omega)).mono ?_
 rintro e w3 ⟨v3,rfl,ho3,hb3⟩
 have HO3:Hid (ROwn w2.heap.size w3 v3 rs):=ho3
 have c3:w3.cell? ⟨w.heap.size,0,none⟩=some (.string nm):=by
  rw [hb3.cell (p:=⟨w.heap.size,0,none⟩) (by simp only;omega)];exact c2 0
 have C3:Hid (∀ o,w3.cell? ⟨w.heap.size,o,none⟩=#[Value.string nm,.int .i64 st,.int .i64 lf,.int .i64 ad,.bool sv][o]?):=fun o=>by
  rw [hb3.cell (p:=⟨w.heap.size,o,none⟩) (by simp only;omega)];exact c2 o
 have HB3:Hid (Below w.heap.size w w3):=HB2.out.trans (hb3.mono HB2.out.size)
 have hz3:w.heap.size < w3.heap.size:=by have:=hb3.size;omega
 have hz23:w2.heap.size≤w3.heap.size:=hb3.size
 clear hb3 ho3 c2
 go_wp2_with fail
 go_region_held3 (fun w'=>w'.cell? ⟨w.heap.size,0,none⟩=some (.string nm)) (first | assumption | go_keep) (first | (go_at_call 181;refine (met_any rs v _ ((HV.out.below HB3.out).below (Below.refl _ _).drew) (by omega)).mono ?_;rintro e w4 ⟨rfl,hown,hb4⟩;obtain ⟨cq,hrun,hat⟩:=look_any hown hm;rw [HH.out] at hrun;have hr2:(Instr.lookup 131 (.map (some w3.heap.size)) (.string nm) true).run Tryz.prog w4=.ok (.tuple #[.int .i64 cq,.bool false]) w4:=hrun;clear hrun hat hown;have HB4:Hid (Below w3.heap.size w3 w4):=(Below.refl w3.heap.size w3).drew.trans hb4;have hS:w4.cell? ⟨w.heap.size,0,none⟩=some (.string nm):=((hb4.cell (p:=⟨w.heap.size,0,none⟩) hz3).trans c3);clear hb4))
 obtain ⟨a3,ca3,hv3⟩:=HO3.out.slice
 subst hv3
 have C4:∀ o,w4.cell? ⟨w.heap.size,o,none⟩=#[Value.string nm,.int .i64 st,.int .i64 lf,.int .i64 ad,.bool sv][o]?:=fun o=>by
  rw [HB4.out.cell (p:=⟨w.heap.size,o,none⟩) hz3];exact C3.out o
 have HO4:Hid (ROwn w2.heap.size w4 (.slice a3 rs.length ca3) rs):=HO3.out.below HB4.out
 have HB5:Hid (Below w.heap.size w w4):=HB3.out.trans (HB4.out.mono HB3.out.size)
 have hz5:w2.heap.size≤w4.heap.size:=by have:=HB4.out.size;omega
 have HO5:Hid (∀ ob,(w4.alloc ob).ownsRow w2.heap.size 98 6 (.slice a3 rs.length ca3) rs.length (flR rs)):=fun ob=>HO4.out.below ((Below.refl _ _).alloc (Nat.le_refl _) _)
 have HLT:Hid (∀ k,(Value.slice a3 rs.length ca3).ownBlock=some k→w.heap.size≤k):=fun k hk=>by have:=(HO4.out.lt k hk).1;omega
 have HSN:Hid (∀ (w':World) (v':Value),w'.ownsRow w2.heap.size 98 6 v' (rs.length+1) (flR rs++(Rum.mk ⟨nm,st,lf,ad,sv⟩ 0).cs)→ROwn w.heap.size w' v' (rs++[⟨⟨nm,st,lf,ad,sv⟩,0⟩])):=fun w' v' h=>(rown_snoc h).base (by omega)
 clear HO3 C3 HB4 HB3 c3 hr2 HO4
 generalize hN:rs.length=n at *
 have HN:Hid (rs.length=n):=hN
 clear hN
 go_wp2_with (at_builtin;refine wpList_append_own _ rfl _ _ 46 rfl w2.heap.size 98 i0 _ 6 56 Tryz.underlying46 hi0 hz0 hzs hzb rfl (by omega) _ n (flR rs) rfl ?hown ⟨w4.heap.size,0,none⟩ 1 1 (Rum.mk ⟨nm,st,lf,ad,sv⟩ 0).cs rfl rfl ?hnews (rcs_one _) ?h63 ?hbytes ?hbase ?_)
 case hown=>exact HO5.out _
 case hnews=>(intro j u hj;rw [Addr.add_lit];exact (cellsAt (heap_alloc_new w4 (.cells #[.string nm,.int .i64 st,.int .i64 lf,.int .i64 ad,.bool sv,.int .i64 0] 98)) (0+j)).trans (by simpa [Rum.cs] using hj))
 case h63=>(unfold maxLen;omega)
 case hbytes=>omega
 case hbase=>(simp;omega)
 intro v' w5 r1 r2 r3
 have R1:Hid (ROwn w.heap.size w5 v' (rs++[⟨⟨nm,st,lf,ad,sv⟩,0⟩])):=HSN.out w5 v' r1
 have R2:Hid (Below w.heap.size w w5):=(HB5.out.alloc HB5.out.size _).grown r2 (by have:=HB5.out.size;simp;omega) (fun k hk=>HLT.out k hk)
 clear r1 r2 r3
 go_wp2_with fail
 go_ret2
 exact ⟨v',rfl,R1.out,R2.out⟩
end Go.Proofs.YtffdoiokmiklgaaGreatDoor
namespace Go.Proofs.YtffdoiokmiklgaaGreatDoor
open Go.RowKit
theorem Tryz.infoI:(Tryz.prog.info? 3).map (fun i=>(i.zero,i.size,i.bytes))=some (some (.int .i64 0),1,8):=by kernel_rfl
theorem rown_row {base g c n:Nat} {w:World} {rs:List Rum} (h:w.ownsRow base 98 6 (.slice (some ⟨g,0,none⟩) n c) rs.length (flR rs)):RRow w g 0 rs:=by
 rcases h.2 with ⟨hv,_⟩ | ⟨g',c',cur,hv,hbg,hg,hnc,hcm,hcs,htake⟩
 ·cases hv
 ·simp only [Value.slice.injEq,Option.some.injEq,Addr.mk.injEq,and_true] at hv
  obtain ⟨rfl,_,_⟩:=hv
  intro j hj
  have hc:∀ t,t < 6→w.cell? ⟨g,0+j * 6+t,none⟩=(rs.getD j dr).cs[t]?:=fun t ht=>by
   rw [cellsAt hg,← flR_get rs j hj t ht,← htake,List.getElem?_take_of_lt (by omega)];simp
  exact ⟨hc 0 (by omega),hc 1 (by omega),hc 2 (by omega),hc 3 (by omega),hc 4 (by omega),hc 5 (by omega)⟩
def wrs:List Value→Nat→List Value→List Value
 | xs,_,[]=>xs
 | xs,o,v :: r=>wrs (xs.set o v) (o+1) r
theorem wrs_len:∀ (vs xs:List Value) (o:Nat),(wrs xs o vs).length=xs.length
 | [],_,_=>rfl
 | v :: r,xs,o=>by rw [wrs,wrs_len r,List.length_set]
theorem wrs_out:∀ (vs xs:List Value) (o k:Nat),k < o∨o+vs.length≤k→(wrs xs o vs)[k]?=xs[k]?
 | [],_,_,_,_=>rfl
 | v :: r,xs,o,k,h=>by
   simp only [List.length_cons] at h
   rw [wrs,wrs_out r _ _ k (by omega),List.getElem?_set_ne (by omega)]
theorem wrs_in:∀ (vs xs:List Value) (o j:Nat),j < vs.length→o+vs.length≤xs.length→(wrs xs o vs)[o+j]?=vs[j]?
 | [],_,_,_,h,_=>by simp at h
 | v :: r,xs,o,0,_,h2=>by
   simp only [List.length_cons] at h2
   rw [wrs,wrs_out r _ _ _ (by omega)]
   simp [List.getElem?_set_self (show o < xs.length by omega)]
 | v :: r,xs,o,j+1,h,h2=>by
   simp only [List.length_cons] at h h2
   rw [wrs,show o+(j+1)=(o+1)+j by omega,wrs_in r _ _ j (by omega) (by rw [List.length_set];omega)]
   simp
theorem stored_all {base g n cap:Nat} {e:TypeId} {size:Nat}:∀ (vs xs:List Value) (o:Nat) (w:World),w.ownsRow base e size (.slice (some ⟨g,0,none⟩) n cap) n xs→(w.setCells g o vs).ownsRow base e size (.slice (some ⟨g,0,none⟩) n cap) n (wrs xs o vs)
 | [],_,_,_,h=>h
 | v :: r,_,o,_,h=>stored_all r _ _ _ (World.ownsRow.stored h o v).1
theorem below_setCells {base g:Nat} (hg:base≤g):∀ (vs:List Value) (o:Nat) (w0 w:World),Below base w0 w→Below base w0 (w.setCells g o vs)
 | [],_,_,_,h=>h
 | v :: r,o,w0,_,h=>below_setCells hg r _ w0 _ (h.setCell (p:=⟨g,o,none⟩) hg v)
theorem owns_shrink {w:World} {base g n m cap:Nat} {e:TypeId} {size:Nat} {xs:List Value} (h:w.ownsRow base e size (.slice (some ⟨g,0,none⟩) n cap) n xs) (hm:m≤n):w.ownsRow base e size (.slice (some ⟨g,0,none⟩) m cap) m (xs.take (m * size)):=by
 obtain ⟨h1,h2⟩:=h
 have hle:m * size≤n * size:=Nat.mul_le_mul_right _ hm
 refine ⟨by rw [List.length_take,h1];omega,?_⟩
 rcases h2 with ⟨hv,_⟩ | ⟨g',c',cur,hv,hbg,hg,hnc,hcm,hcs,htake⟩
 ·cases hv
 ·simp only [Value.slice.injEq,Option.some.injEq,Addr.mk.injEq,and_true,true_and] at hv
  obtain ⟨rfl,rfl⟩:=hv
  refine .inr ⟨g,cap,cur,rfl,hbg,hg,by omega,hcm,hcs,?_⟩
  rw [← htake,List.take_take,Nat.min_eq_left hle]
def zR:List Value:=[.string ⟨#[]⟩,.int .i64 0,.int .i64 0,.int .i64 0,.bool false,.int .i64 0]
theorem take_eq_of {xs ys:List Value} {k:Nat} (hl:k≤xs.length) (hy:ys.length=k) (h:∀ j,j < k→xs[j]?=ys[j]?):xs.take k=ys:=by
 apply List.ext_getElem?
 intro j
 by_cases hj:j < k
 ·rw [List.getElem?_take_of_lt hj,h j hj]
 ·rw [List.getElem?_eq_none (by rw [List.length_take];omega),List.getElem?_eq_none (by omega)]
theorem erase_cells {rs:List Rum} {p n:Nat} (hn:rs.length=n) (hp:p < n):(wrs (wrs (flR rs) (p * 6) (flR (rs.drop (p+1)))) ((n - 1) * 6) zR).take ((n - 1) * 6)=flR (rs.eraseIdx p):=by
 have hl:(flR rs).length=n * 6:=by rw [flR_len,hn]
 have hd:(flR (rs.drop (p+1))).length=(n - (p+1)) * 6:=by rw [flR_len,List.length_drop,hn]
 refine take_eq_of (by rw [wrs_len,wrs_len,hl];omega) (by rw [flR_len,List.length_eraseIdx,if_pos (by omega),hn]) (fun j hj=>?_)
 rw [wrs_out _ _ _ _ (by omega),List.eraseIdx_eq_take_drop_succ,flR_append]
 have ht:(flR (rs.take p)).length=p * 6:=by rw [flR_len,List.length_take,hn];omega
 by_cases hjp:j < p * 6
 ·rw [wrs_out _ _ _ _ (by omega),List.getElem?_append_left (by omega),← flR_take,List.getElem?_take_of_lt hjp]
 ·rw [List.getElem?_append_right (by omega),ht]
  have:=wrs_in (flR (rs.drop (p+1))) (flR rs) (p * 6) (j - p * 6) (by rw [hd];omega) (by rw [hd,hl];omega)
  rw [show p * 6+(j - p * 6)=j by omega] at this
  exact this
theorem run_clear_one (w:World) (ty:TypeId) (b o c:Nat) (hc:∀ j,j < 6→(w.cell? ⟨b,o+j,none⟩).isSome=true) (hf:∀ j,j < 6→w.frozen? ⟨b,o+j,none⟩=false) :
 (Builtin.clear_ #[46] ty #[.slice (some ⟨b,o,none⟩) 1 c]).run Tryz.prog w=.ok (.tuple #[]) (w.setCells b o zR):=by
 have hzc:(Builtin.zeroCells (Value.agg #[.string ⟨#[]⟩,.int .i64 0,.int .i64 0,.int .i64 0,.bool false,.int .i64 0]).cells 1).toList=zR:=by kernel_rfl
 have hst:=run_storeCells_cells (P:=Tryz.prog) b o zR 0 w (fun j hj=>by simpa using hc j (by simpa [zR] using hj)) (fun j hj=>by simpa using hf j (by simpa [zR] using hj)) (by intro v hv;simp [zR] at hv;rcases hv with rfl | rfl | rfl | rfl<;>rfl)
 simp only [Nat.add_zero] at hst
 simp [Builtin.clear_,run_underlying Tryz.underlying46,hzc,hst]
set_option maxHeartbeats 3200000 in
set_option maxRecDepth 1000000 in
theorem delete_any (rs:List Rum) (n p g c base:Nat) (w:World) (hn:rs.length=n) (ho:ROwn base w (.slice (some ⟨g,0,none⟩) n c) rs) (hp:p < n) (hsm:n≤1000) :
 Calls Tryz.prog 236 #[.slice (some ⟨g,0,none⟩) n c,.int .i64 p,.int .i64 (p+1)] w fun e w'=>e=.returned (.slice (some ⟨g,0,none⟩) (n - 1) c)∧ROwn base w' (.slice (some ⟨g,0,none⟩) (n - 1) c) (rs.eraseIdx p)∧Below base w w':=by
 obtain ⟨i0,hi0,hz0,hz1,hz2⟩:=info_parts Tryz.infoR
 have HO:Hid (w.ownsRow base 98 6 (.slice (some ⟨g,0,none⟩) n c) n (flR rs)):=by rw [← hn];rw [← hn] at ho;exact ho
 obtain ⟨hgl,hnc,hcm⟩:base≤g∧n≤c∧c≤maxLen:=by
  rcases HO.out.2 with ⟨hv,_⟩ | ⟨g',c',cur,hv,hbg,hg,hnc,hcm,hcs,htake⟩
  ·cases hv
  ·simp only [Value.slice.injEq,Option.some.injEq,Addr.mk.injEq,and_true,true_and] at hv
   obtain ⟨rfl,rfl⟩:=hv
   exact ⟨hbg,hnc,hcm⟩
 unfold maxLen at hcm
 have hp0:(0:Int)≤(p:Int)+1:=by omega
 have hp1:(p:Int)+1≤(n:Int):=by omega
 have hp2:((p:Int)+1).toNat=p+1:=by omega
 have hic:p≤c:=by omega
 have hcell:∀ k,k < n * 6→w.cell? ⟨g,k,none⟩=(flR rs)[k]?:=fun k hk=>by
  rcases HO.out.2 with ⟨hv,_⟩ | ⟨g',c',cur,hv,hbg,hg,_,_,hcs,htake⟩
  ·cases hv
  ·simp only [Value.slice.injEq,Option.some.injEq,Addr.mk.injEq,and_true,true_and] at hv
   obtain ⟨rfl,rfl⟩:=hv
   rw [cellsAt hg,← htake,List.getElem?_take_of_lt hk,Array.getElem?_toList]
 have hfl:(flR rs).length=n * 6:=by rw [flR_len,hn]
 have S1:Hid ((flR (rs.drop (p+1))).length=(n - (p+1)) * 6):=(show (flR (rs.drop (p+1))).length=_ by rw [flR_len,List.length_drop,hn])
 obtain ⟨A,hA,hnews⟩:∃ A:Addr,(if c=p+1 then some (⟨g,0,none⟩:Addr) else some ⟨g,(p+1) * 6,none⟩)=some A∧Hid (∀ j u,(flR (rs.drop (p+1)))[j]?=some u→w.drew.cell? (A.add j)=some u):=by
  by_cases h:c=p+1
  ·refine ⟨_,if_pos h,fun j u hj=>?_⟩
   have:j < (flR (rs.drop (p+1))).length:=(List.getElem?_eq_some_iff.1 hj).1
   rw [S1.out] at this
   omega
  ·refine ⟨_,if_neg h,fun j u hj=>?_⟩
   have hj1:j < (flR (rs.drop (p+1))).length:=(List.getElem?_eq_some_iff.1 hj).1
   rw [S1.out] at hj1
   rw [Addr.add_lit]
   show w.cell? _=_
   rw [hcell _ (by omega),← hj,← flR_drop,List.getElem?_drop]
 have S2:Hid (∀ u∈flR (rs.drop (p+1)),u.oneCell'=true):=flR_one _
 have S3:Hid (∀ j,j < (flR (rs.drop (p+1))).length→(w.drew.cell? ⟨g,0+p * 6+j,none⟩).isSome=true∧w.drew.frozen? ⟨g,0+p * 6+j,none⟩=false):=fun j hj=>by
  rw [S1.out] at hj
  refine ⟨?_,World.ownsRow.frozenAt HO.out _⟩
  show (w.cell? _).isSome=true
  rw [hcell _ (by omega),List.getElem?_eq_getElem (by omega)]
  rfl
 have HD:Hid ((w.drew.setCells g (p * 6) (flR (rs.drop (p+1)))).ownsRow base 98 6 (.slice (some ⟨g,0,none⟩) n c) n (wrs (flR rs) (p * 6) (flR (rs.drop (p+1))))):=stored_all _ _ _ _ (show w.drew.ownsRow base 98 6 (.slice (some ⟨g,0,none⟩) n c) n (flR rs) from HO.out)
 have hclear:∀ ty,(Builtin.clear_ #[46] ty #[.slice (some ⟨g,(p+(n - (p+1))) * 6,none⟩) (n - (p+(n - (p+1)))) (c - (p+(n - (p+1))))]).run Tryz.prog (w.drew.setCells g (p * 6) (flR (rs.drop (p+1))))=.ok (.tuple #[]) ((w.drew.setCells g (p * 6) (flR (rs.drop (p+1)))).setCells g ((n - 1) * 6) zR):=fun ty=>by
  rw [show p+(n - (p+1))=n - 1 by omega,show n - (n - 1)=1 by omega]
  exact run_clear_one _ ty g _ _ (fun j hj=>by rw [World.ownsRow.cellAt HD.out _ (by omega),List.getElem?_eq_getElem (by rw [wrs_len,hfl];omega)];rfl) (fun j _=>World.ownsRow.frozenAt HD.out _)
 have HF:Hid (((w.drew.setCells g (p * 6) (flR (rs.drop (p+1)))).setCells g ((n - 1) * 6) zR).ownsRow base 98 6 (.slice (some ⟨g,0,none⟩) (n - 1) c) (n - 1) (flR (rs.eraseIdx p))):=by
  have h:=owns_shrink (m:=n - 1) (stored_all zR _ ((n - 1) * 6) _ HD.out) (by omega)
  rw [erase_cells hn hp] at h
  exact h
 have HL:Hid ((rs.eraseIdx p).length=n - 1):=(show (rs.eraseIdx p).length=n - 1 by rw [List.length_eraseIdx,if_pos (by omega),hn])
 have HBL:Hid (Below base w ((w.drew.setCells g (p * 6) (flR (rs.drop (p+1)))).setCells g ((n - 1) * 6) zR)):=below_setCells hgl _ _ _ _ (below_setCells hgl _ _ _ _ (Below.refl _ _).drew)
 have HPN:Hid (p+(n - (p+1))=n - 1):=(show p+(n - (p+1))=n - 1 by omega)
 clear ho hcell
 go_enter Tryz.func236,Tryz.ntmps236
 go_wp2_with fail
 go_region_law (refine step_append_room rfl (.tmp 22) (.tmp 25) 46 rfl 98 i0 6 Tryz.underlying46 hi0 hz1 g 0 p c (by simp [Act.eval,Act.put]) A (n - (p+1)) (c - (p+1)) (flR (rs.drop (p+1))) (by simp [Act.eval,Act.put]) S1.out hnews.out S2.out (by omega) S3.out ?_)
 go_wp2_with fail
 go_ret
 refine ⟨?_,?_,HBL.out⟩
 ·have hpn:=HPN.out
  simp only [hpn]
  rfl
 ·show World.ownsRow _ _ _ _ _ (rs.eraseIdx p).length _
  rw [HL.out]
  exact HF.out
def AtF (ms:List Mem) (t:ByteArray) (r:Int):Prop:=(∃ k:Nat,k < ms.length∧r=k∧fstM ms t=some (ms.getD k dm))∨(r = -1∧fstM ms t=none)
set_option maxHeartbeats 800000 in
theorem memAt_any (ms:List Mem) (v:Value) (t:ByteArray) (w:World) (hv:Sl w v ms) (hn:ms.length≤1000) :
 Calls Tryz.prog 17 #[v,.string t] w fun e w'=>∃ r:Int,e=.returned (.int .i64 r)∧Hid (AtF ms t r)∧w'=w:=by
 obtain ⟨pa,ca,rfl,_,ha⟩:=hv
 have HA:Hid (ms=[]∨∃ b off,pa=some ⟨b,off,none⟩∧b < w.heap.size∧Row w b off ms):=ha
 clear ha
 generalize hna:ms.length=n at *
 have HN:Hid (ms.length=n):=hna
 clear hna
 go_enter Tryz.func17,Tryz.ntmps17
 go_wp2_with fail
 go_loop [5] (fun i=>∃ k:Nat,k≤n∧i=.int .i64 k∧Hid (∀ j,j < k→(ms.getD j dm).name≠t)) (fun i=>n - (intOf i).toNat)
 case atStart=>exact ⟨0,Nat.zero_le _,rfl,fun j h=>absurd h (Nat.not_lt_zero _)⟩
 case round=>
  obtain ⟨k,hk,rfl,hz⟩:=hrel
  by_cases hlt:k < n
  ·obtain ⟨b1,o1,hp1,hl1,hr1⟩:∃ b off,pa=some ⟨b,off,none⟩∧b < w.heap.size∧Row w b off ms:=by
    rcases HA.out with h | h
    ·have:=HN.out;rw [h] at this;simp at this;omega
    ·exact h
   subst hp1
   obtain ⟨c0,_,_,_,_⟩:=hr1 k (by rw [HN.out];exact hlt)
   clear hr1
   have HF:Hid ((ms.getD k dm).name=t→AtF ms t (k:Int)):=fun h=>.inl ⟨k,by rw [HN.out];exact hlt,rfl,fstM_some (by rw [HN.out];exact hlt) hz.out h⟩
   have HZ:Hid ((ms.getD k dm).name≠t→∀ j,j < k+1→(ms.getD j dm).name≠t):=fun h j hj=>by
    rcases Nat.lt_succ_iff_lt_or_eq.1 hj with h2 | rfl
    ·exact hz.out j h2
    ·exact h
   generalize (ms.getD k dm).name=nm at *
   by_cases he:nm=t
   ·subst he
    have HF2:Hid (AtF ms nm (k:Int)):=HF.out rfl
    clear HF HZ
    go_wp2_with fail
    go_ret
    exact ⟨k,rfl,HF2,rfl⟩
   ·obtain ⟨h1,h2⟩:=beq_name he
    have HE:Hid (nm≠t):=he
    clear he
    go_wp2_with fail
    go_round
    case rel=>exact ⟨k+1,by omega,by go_num,HZ.out HE.out⟩
    case measure=>simp [intOf];omega
  ·go_wp2_with fail
   go_ret
   exact ⟨-1,rfl,.inr ⟨rfl,fstM_none fun j hj=>hz.out j (by have:=HN.out;omega)⟩,rfl⟩
end Go.Proofs.YtffdoiokmiklgaaGreatDoor
