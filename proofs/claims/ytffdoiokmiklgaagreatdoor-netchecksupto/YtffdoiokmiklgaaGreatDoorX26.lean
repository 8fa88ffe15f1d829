import Derived.Test.YtffdoiokmiklgaaGreatDoorX12
namespace Go.Proofs.YtffdoiokmiklgaaGreatDoor
open Go.RowKit
def newE (a b:Mem):Int:=if chkTwo [a] [b]=0 then (if a.name=b.name then 0 else 1) else chkTwo [a] [b]
theorem bne_name (a b:ByteArray):(a.toList != b.toList)=true↔a≠b:=by
 rw [bne_iff_ne,Lib.toList_data,Lib.toList_data]
 exact ⟨fun h e=>h (by rw [e]),fun h e=>h (ba_ext e)⟩
theorem checkAll_alone (a b:Mem) (w:World) (ha:a.name.size≤maxLen) (hb:b.name.size≤maxLen) :
 Calls Tryz.prog 233 #[.slice (some ⟨w.heap.size+1+1+1+1+1+1,0,none⟩) 2 2]
  ((((((((w.alloc (.cells #[.string a.name,.int .i64 a.state,.int .i64 a.life,.int .i64 a.addr,.bool a.server] 56)).alloc (.cells #[.string b.name,.int .i64 b.state,.int .i64 b.life,.int .i64 b.addr,.bool b.server] 56)).alloc
    (.cells #[.string a.name,.int .i64 a.state,.int .i64 a.life,.int .i64 a.addr,.bool a.server] 56)).alloc (.cells #[.string a.name,.int .i64 a.state,.int .i64 a.life,.int .i64 a.addr,.bool a.server] 56)).alloc
    (.cells #[.string b.name,.int .i64 b.state,.int .i64 b.life,.int .i64 b.addr,.bool b.server] 56)).alloc (.cells #[.string b.name,.int .i64 b.state,.int .i64 b.life,.int .i64 b.addr,.bool b.server] 56)).alloc
    (.cells #[.slice (some ⟨w.heap.size+1+1+1,0,none⟩) 1 1,.slice (some ⟨w.heap.size+1+1+1+1+1,0,none⟩) 1 1] 45)).drew)
  fun e w'=>e=.returned (.int .i64 (chkTwo [a] [b]))∧Below (w.heap.size+1+1) ((w.alloc (.cells #[.string a.name,.int .i64 a.state,.int .i64 a.life,.int .i64 a.addr,.bool a.server] 56)).alloc (.cells #[.string b.name,.int .i64 b.state,.int .i64 b.life,.int .i64 b.addr,.bool b.server] 56)) w':=by
 obtain ⟨A,hA⟩:∃ A:Obj,A=.cells #[.string a.name,.int .i64 a.state,.int .i64 a.life,.int .i64 a.addr,.bool a.server] 56:=⟨_,rfl⟩
 obtain ⟨B,hB⟩:∃ B:Obj,B=.cells #[.string b.name,.int .i64 b.state,.int .i64 b.life,.int .i64 b.addr,.bool b.server] 56:=⟨_,rfl⟩
 obtain ⟨Pq,hP⟩:∃ P:Obj,P=.cells #[.slice (some ⟨w.heap.size+1+1+1,0,none⟩) 1 1,.slice (some ⟨w.heap.size+1+1+1+1+1,0,none⟩) 1 1] 45:=⟨_,rfl⟩
 rw [← hA,← hB,← hP]
 have hbW:Below (w.heap.size+1+1) ((w.alloc A).alloc B) ((((((((w.alloc A).alloc B).alloc A).alloc A).alloc B).alloc B).alloc Pq).drew):=
  ((((((Below.refl _ _).alloc (by simp) A).alloc (by simp<;>omega) A).alloc (by simp<;>omega) B).alloc (by simp<;>omega) B).alloc (by simp<;>omega) Pq).drew
 have hgp:((((((((w.alloc A).alloc B).alloc A).alloc A).alloc B).alloc B).alloc Pq).drew).heap[w.heap.size+1+1+1+1+1+1]?=some Pq:=by
  have h:=heap_alloc_new ((((((w.alloc A).alloc B).alloc A).alloc A).alloc B).alloc B) Pq
  rw [show ((((((w.alloc A).alloc B).alloc A).alloc A).alloc B).alloc B).heap.size=w.heap.size+1+1+1+1+1+1 by simp] at h
  exact h
 have hga:((((((((w.alloc A).alloc B).alloc A).alloc A).alloc B).alloc B).alloc Pq).drew).heap[w.heap.size+1+1+1]?=some A:=by
  have h1:=heap_alloc_new (((w.alloc A).alloc B).alloc A) A
  rw [show (((w.alloc A).alloc B).alloc A).heap.size=w.heap.size+1+1+1 by simp] at h1
  have h2:=Below.heap_alloc ((((w.alloc A).alloc B).alloc A).alloc A) B (w.heap.size+1+1+1) (by simp)
  have h3:=Below.heap_alloc (((((w.alloc A).alloc B).alloc A).alloc A).alloc B) B (w.heap.size+1+1+1) (by simp<;>omega)
  have h4:=Below.heap_alloc ((((((w.alloc A).alloc B).alloc A).alloc A).alloc B).alloc B) Pq (w.heap.size+1+1+1) (by simp<;>omega)
  exact h4.trans (h3.trans (h2.trans h1))
 have hgb:((((((((w.alloc A).alloc B).alloc A).alloc A).alloc B).alloc B).alloc Pq).drew).heap[w.heap.size+1+1+1+1+1]?=some B:=by
  have h1:=heap_alloc_new (((((w.alloc A).alloc B).alloc A).alloc A).alloc B) B
  rw [show (((((w.alloc A).alloc B).alloc A).alloc A).alloc B).heap.size=w.heap.size+1+1+1+1+1 by simp] at h1
  have h4:=Below.heap_alloc ((((((w.alloc A).alloc B).alloc A).alloc A).alloc B).alloc B) Pq (w.heap.size+1+1+1+1+1) (by simp)
  exact h4.trans h1
 have hsz:((((((((w.alloc A).alloc B).alloc A).alloc A).alloc B).alloc B).alloc Pq).drew).heap.size=w.heap.size+1+1+1+1+1+1+1:=by simp
 generalize ((((((((w.alloc A).alloc B).alloc A).alloc A).alloc B).alloc B).alloc Pq).drew)=W at *
 have hgp':=hgp.trans (congrArg some hP)
 refine (checkAll_two [a] [b] _ _ _ 2 W (sl_one W _ 1 a ha (hga.trans (congrArg some hA))) (sl_one W _ 1 b hb (hgb.trans (congrArg some hB))) (by omega) (cellsAt hgp' 0) (cellsAt hgp' 1)).mono ?_
 rintro e w' ⟨rfl,h⟩
 exact ⟨rfl,hbW.trans (h.mono (by omega))⟩
set_option maxHeartbeats 1600000 in
set_option maxRecDepth 100000 in
theorem newer2_bad (a b:Mem) (w:World) (ha:a.name.size≤maxLen) (hb:b.name.size≤maxLen) (hne0:chkTwo [a] [b]≠0) :
 Calls Tryz.prog 190 #[.agg #[.string a.name,.int .i64 a.state,.int .i64 a.life,.int .i64 a.addr,.bool a.server],.agg #[.string b.name,.int .i64 b.state,.int .i64 b.life,.int .i64 b.addr,.bool b.server]] w
  fun e w'=>e=.returned (.tuple #[.bool (newE a b == 0 && newM a b),.int .i64 (newE a b)])∧Below w.heap.size w w':=by
 have hne:(chkTwo [a] [b] != 0)=true:=by simpa using hne0
 have HE:Hid (newE a b=chkTwo [a] [b]):=if_neg hne0
 have HN:Hid (chkTwo [a] [b]≠0):=hne0
 clear hne0
 go_enter Tryz.func190,Tryz.ntmps190
 go_wp2_with fail
 go_region_with (first | (go_at_call 194;refine (alone_any _ _ _ _ _ _).mono ?_;rintro e w' ⟨rfl,rfl⟩) | (go_at_call 233;refine (checkAll_alone a b w ha hb).mono ?_;rintro e w1 ⟨rfl,hb1⟩))
 all_goals
  go_wp2_with fail
  go_ret2
  refine ⟨?_,?_⟩
  ·rw [HE.out,show (chkTwo [a] [b] == 0)=false by simpa using HN.out];rfl
  ·exact (((Below.refl _ _).alloc (Nat.le_refl _) _).alloc (by simp) _).trans (hb1.mono (by omega))
set_option maxHeartbeats 1600000 in
set_option maxRecDepth 100000 in
theorem newer2_form (a b:Mem) (w:World) (ha:a.name.size≤maxLen) (hb:b.name.size≤maxLen) (h0:chkTwo [a] [b]=0) (hnm:a.name≠b.name) :
 Calls Tryz.prog 190 #[.agg #[.string a.name,.int .i64 a.state,.int .i64 a.life,.int .i64 a.addr,.bool a.server],.agg #[.string b.name,.int .i64 b.state,.int .i64 b.life,.int .i64 b.addr,.bool b.server]] w
  fun e w'=>e=.returned (.tuple #[.bool (newE a b == 0 && newM a b),.int .i64 (newE a b)])∧Below w.heap.size w w':=by
 have hz:(chkTwo [a] [b] != 0)=false:=by simpa using h0
 have hn:(a.name.toList == b.name.toList)=false:=by have h:=(bne_name a.name b.name).2 hnm;simpa using h
 have hn3:¬ a.name.toList=b.name.toList:=by simpa using hn
 have HE:Hid (newE a b=1):=(show newE a b=1 by rw [newE,if_pos h0,if_neg hnm])
 clear hnm h0
 go_enter Tryz.func190,Tryz.ntmps190
 go_wp2_with fail
 go_region_with (first | (go_at_call 194;refine (alone_any _ _ _ _ _ _).mono ?_;rintro e w' ⟨rfl,rfl⟩) | (go_at_call 233;refine (checkAll_alone a b w ha hb).mono ?_;rintro e w1 ⟨rfl,hb1⟩))
 all_goals
  have hsz:=hb1.size
  have hbc:∀ k o,k < w.heap.size+1+1→w1.cell? ⟨k,o,none⟩=((w.alloc (.cells #[.string a.name,.int .i64 a.state,.int .i64 a.life,.int .i64 a.addr,.bool a.server] 56)).alloc (.cells #[.string b.name,.int .i64 b.state,.int .i64 b.life,.int .i64 b.addr,.bool b.server] 56)).cell? ⟨k,o,none⟩:=fun k o h=>hb1.cell (p:=⟨k,o,none⟩) h
  have hwl:w.heap.size < w.heap.size+1+1:=by omega
  have hwl2:w.heap.size+1 < w.heap.size+1+1:=by omega
  go_wp2_with fail
  go_ret2
  refine ⟨?_,?_⟩
  ·rw [HE.out];rfl
  ·exact (((Below.refl _ _).alloc (Nat.le_refl _) _).alloc (by simp) _).trans (hb1.mono (by omega))
set_option maxHeartbeats 1600000 in
set_option maxRecDepth 100000 in
theorem newer2_same (na:ByteArray) (sa la aa:Int) (va:Bool) (sb lb ab:Int) (vb:Bool) (w:World) (ha:na.size≤maxLen) (h0:chkTwo [⟨na,sa,la,aa,va⟩] [⟨na,sb,lb,ab,vb⟩]=0) :
 Calls Tryz.prog 190 #[.agg #[.string na,.int .i64 sa,.int .i64 la,.int .i64 aa,.bool va],.agg #[.string na,.int .i64 sb,.int .i64 lb,.int .i64 ab,.bool vb]] w
  fun e w'=>e=.returned (.tuple #[.bool (newB sa la aa va sb lb ab vb),.int .i64 0])∧Below w.heap.size w w':=by
 have hz:(chkTwo [⟨na,sa,la,aa,va⟩] [⟨na,sb,lb,ab,vb⟩] != 0)=false:=by simpa using h0
 clear h0
 go_enter Tryz.func190,Tryz.ntmps190
 go_wp2_with fail
 go_region_with (first | (go_at_call 194;refine (alone_any _ _ _ _ _ _).mono ?_;rintro e w' ⟨rfl,rfl⟩) | (go_at_call 233;refine (checkAll_alone ⟨na,sa,la,aa,va⟩ ⟨na,sb,lb,ab,vb⟩ w ha ha).mono ?_;rintro e w1 ⟨rfl,hb1⟩))
 all_goals
  have hsz:=hb1.size
  have hbc:∀ k o,k < w.heap.size+1+1→w1.cell? ⟨k,o,none⟩=((w.alloc (.cells #[.string na,.int .i64 sa,.int .i64 la,.int .i64 aa,.bool va] 56)).alloc (.cells #[.string na,.int .i64 sb,.int .i64 lb,.int .i64 ab,.bool vb] 56)).cell? ⟨k,o,none⟩:=fun k o h=>hb1.cell (p:=⟨k,o,none⟩) h
  have hwl:w.heap.size < w.heap.size+1+1:=by omega
  have hwl2:w.heap.size+1 < w.heap.size+1+1:=by omega
  go_wp2_with (go_at_call 234;refine (newer_any _ _ _ _ _ _ _ _ _ _ _).mono ?_;rintro e w' ⟨rfl,rfl⟩)
  go_ret2
  refine ⟨rfl,?_⟩
  have h0:=(((Below.refl w.heap.size w).alloc (Nat.le_refl _) (.cells #[.string na,.int .i64 sa,.int .i64 la,.int .i64 aa,.bool va] 56)).alloc (by simp) (.cells #[.string na,.int .i64 sb,.int .i64 lb,.int .i64 ab,.bool vb] 56)).trans (hb1.mono (by omega))
  exact (h0.alloc h0.size _).alloc (by have:=h0.size;simp;omega) _
theorem newer2_any (a b:Mem) (w:World) (ha:a.name.size≤maxLen) (hb:b.name.size≤maxLen) :
 Calls Tryz.prog 190 #[.agg #[.string a.name,.int .i64 a.state,.int .i64 a.life,.int .i64 a.addr,.bool a.server],.agg #[.string b.name,.int .i64 b.state,.int .i64 b.life,.int .i64 b.addr,.bool b.server]] w
  fun e w'=>e=.returned (.tuple #[.bool (newE a b == 0 && newM a b),.int .i64 (newE a b)])∧Below w.heap.size w w':=by
 by_cases h0:chkTwo [a] [b]=0
 ·by_cases hnm:a.name=b.name
  ·have hE:newE a b=0:=by rw [newE,if_pos h0,if_pos hnm]
   rw [hE]
   obtain ⟨na,sa,la,aa,va⟩:=a
   obtain ⟨nb,sb,lb,ab,vb⟩:=b
   simp only at hnm
   subst hnm
   exact newer2_same na sa la aa va sb lb ab vb w ha h0
  ·exact newer2_form a b w ha hb h0 hnm
 ·exact newer2_bad a b w ha hb h0
end Go.Proofs.YtffdoiokmiklgaaGreatDoor
