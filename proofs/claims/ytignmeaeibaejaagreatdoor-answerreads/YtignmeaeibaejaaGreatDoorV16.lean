import Derived.Test.YtignmeaeibaejaaGreatDoorV7
import Derived.Test.YtignmeaeibaejaaGreatDoorV6
import Derived.Test.YtignmeaeibaejaaGreatDoorV2
import Derived.Deep.RegionHeld3
import Derived.Deep.RegionWith
import Derived.StillTactics
namespace Go.Proofs.YtignmeaeibaejaaGreatDoor
open Go.RowKit
set_option maxHeartbeats 800000 in
theorem checkName_ok (s:ByteArray) (w:World) (hs:s.size≤maxLen) (h:chkN s=0) :
 Calls Tryz.prog 54 #[.string s] w fun r w'=>r=.returned (.tuple #[])∧Below w.heap.size w w':=by
 have HC:Hid (Calls Tryz.prog 86 #[.string s] w fun e w'=>e=.returned (.int .i64 0)∧Below w.heap.size w w'):=(show Calls _ _ _ _ _ by have h2:=dnsCheck_any s w hs;rwa [h] at h2)
 go_enter Tryz.func54,Tryz.ntmps54
 go_wp2_with fail
 refine HC.out.mono ?_
 rintro e w1 ⟨rfl,hb1⟩
 go_wp2_with (go_at_call 52;refine (need_ok _ _).mono ?_;rintro e w2 ⟨rfl,rfl⟩)
 simp [bodyPost,results,Tryz.results54]
 exact hb1
set_option maxHeartbeats 800000 in
theorem rtype_any (n:Int) (w:World) :
 Calls Tryz.prog 55 #[.int .i64 n] w fun e w'=>e=.returned (.bool (decide (n=1) || decide (n=16) || decide (n=33)))∧w'=w:=by
 go_enter Tryz.func55,Tryz.ntmps55
 go_wp2
 all_goals
  go_ret
  exact ⟨ret_bool (by rw [Bool.eq_iff_iff];simp;try omega),rfl⟩
set_option maxHeartbeats 1600000 in
set_option maxRecDepth 100000 in
theorem dcheck_none (id code typ:Int) (ans cut:Bool) (name:ByteArray) (w:World) (h1:within id 0 65535=true) (h2:within code 0 15=true) (hs:name.size≤maxLen) (hn:chkN name=0) (ht:(decide (typ=1) || decide (typ=16) || decide (typ=33))=true) :
 Calls Tryz.prog 22 #[.agg #[.int .i64 id,.bool ans,.bool cut,.int .i64 code,.string name,.int .i64 typ,.slice none 0 0]] w fun r w'=>r=.returned (.tuple #[])∧Below w.heap.size w w':=by
 go_enter Tryz.func22,Tryz.ntmps22
 go_wp2_with fail
 refine (within_any _ _ _ _).mono ?_
 rintro e w' ⟨rfl,rfl⟩
 rw [h1]
 go_wp2_with fail
 refine (within_any _ _ _ _).mono ?_
 rintro e w' ⟨rfl,rfl⟩
 rw [h2]
 go_wp2_with fail
 refine (need_ok _ _).mono ?_
 rintro e w' ⟨rfl,rfl⟩
 go_wp2_with fail
 refine (need_ok _ _).mono ?_
 rintro e w' ⟨rfl,rfl⟩
 go_wp2_with fail
 refine (checkName_ok name _ hs hn).mono ?_
 rintro e w1 ⟨rfl,hb1⟩
 have hg:w1.heap[w.heap.size]?=some (.cells #[.int .i64 id,.bool ans,.bool cut,.int .i64 code,.string name,.int .i64 typ,.slice none 0 0] 38 (0,0)):=(hb1.block _ (by simp)).trans (heap_alloc_new w _)
 have f5:w1.cell? ⟨w.heap.size,5,none⟩=some (.int .i64 typ):=cellsAt hg 5
 have f6:w1.cell? ⟨w.heap.size,6,none⟩=some (.slice none 0 0):=cellsAt hg 6
 have HB1:Hid (Below w.heap.size w w1):=((Below.refl _ _).alloc (Nat.le_refl _) _).trans (hb1.mono (by simp))
 clear hb1 hg
 go_wp2_with fail
 refine (rtype_any _ _).mono ?_
 rintro e w' ⟨rfl,rfl⟩
 rw [ht]
 go_wp2_with fail
 refine (need_ok _ _).mono ?_
 rintro e w' ⟨rfl,rfl⟩
 go_wp2_with fail
 go_loopw [30] (fun i wr=>i=.int .i64 0∧Hid (Below w.heap.size w wr)) (fun _ _=>0)
 case atStart=>exact ⟨rfl,HB1⟩
 case round=>
  obtain ⟨rfl,HBR⟩:=hrel
  go_wp2_with fail
  simp [bodyPost,results,Tryz.results22]
  exact HBR.out
def outE (e:Int):Ending:=if e=0 then .returned (.tuple #[]) else .panicked [{ v:=.iface 96 (.agg #[.int .i64 e]),recovered:=false }]
theorem outE_0:outE 0=.returned (.tuple #[]):=rfl
theorem outE_ne {e:Int} (h:e≠0):outE e=.panicked [{ v:=.iface 96 (.agg #[.int .i64 e]),recovered:=false }]:=if_neg h
set_option maxHeartbeats 800000 in
theorem checkName_any (s:ByteArray) (w:World) (hs:s.size≤maxLen) :
 Calls Tryz.prog 54 #[.string s] w fun r w'=>r=outE (chkN s)∧Below w.heap.size w w':=by
 by_cases h:chkN s=0
 ·rw [h]
  exact checkName_ok s w hs h
 ·have HC:Hid (Calls Tryz.prog 86 #[.string s] w fun e w'=>e=.returned (.int .i64 (chkN s))∧Below w.heap.size w w'):=dnsCheck_any s w hs
  rw [outE_ne h]
  generalize chkN s=E at *
  have h2:(E == 0)=false:=by simpa using h
  go_enter Tryz.func54,Tryz.ntmps54
  go_wp2_with fail
  refine HC.out.mono ?_
  rintro e w1 ⟨rfl,hb1⟩
  have HB1:Hid (Below w.heap.size w w1):=hb1
  clear hb1
  go_wp2_with fail
  refine (need_no _ _).mono ?_
  rintro e w2 ⟨rfl,rfl⟩
  exact ⟨rfl,rfl,HB1.out⟩
def typB (n:Int):Bool:=decide (n=1) || decide (n=16) || decide (n=33)
def ownF (r:Rc.Rec):Rc.Rec:=if r.typ=1 then ⟨r.name,r.typ,r.lasts,r.addr,⟨#[]⟩,0,⟨#[]⟩⟩ else if r.typ=16 then ⟨r.name,r.typ,r.lasts,0,r.text,0,⟨#[]⟩⟩ else if r.typ=33 then ⟨r.name,r.typ,r.lasts,0,⟨#[]⟩,r.port,r.target⟩ else ⟨r.name,r.typ,r.lasts,0,⟨#[]⟩,0,⟨#[]⟩⟩
abbrev recV (r:Rc.Rec):Value:=.agg #[.string r.name,.int .i64 r.typ,.int .i64 r.lasts,.int .i64 r.addr,.string r.text,.int .i64 r.port,.string r.target]
set_option maxHeartbeats 1600000 in
set_option maxRecDepth 100000 in
theorem ownFields_any (r:Rc.Rec) (w:World) :
 Calls Tryz.prog 87 #[recV r] w fun e w'=>e=.returned (recV (ownF r))∧Below w.heap.size w w':=by
 obtain ⟨name,typ,lasts,addr,text,port,target⟩:=r
 unfold ownF
 simp only
 by_cases h1:typ=1
 ·subst h1
  go_enter Tryz.func87,Tryz.ntmps87
  go_wp2_with fail
  refine bodyPost_ret (v:=.agg #[.string name,.int .i64 1,.int .i64 lasts,.int .i64 addr,.string ⟨#[]⟩,.int .i64 0,.string ⟨#[]⟩]) ?_ rfl ⟨rfl,?_⟩
  ·simp [results,Tryz.results87,go_sem]
  ·first | exact (((Below.refl _ _).alloc (Nat.le_refl _) _).alloc (by simp) _).alloc (by simp;omega) _ | exact ((((Below.refl _ _).alloc (Nat.le_refl _) _).alloc (by simp) _).alloc (by simp;omega) _).drew
 rw [if_neg h1]
 have e1:(typ == 1)=false:=by simpa using h1
 by_cases h2:typ=16
 ·subst h2
  clear e1
  go_enter Tryz.func87,Tryz.ntmps87
  go_wp2_with fail
  refine bodyPost_ret (v:=.agg #[.string name,.int .i64 16,.int .i64 lasts,.int .i64 0,.string text,.int .i64 0,.string ⟨#[]⟩]) ?_ rfl ⟨rfl,?_⟩
  ·simp [results,Tryz.results87,go_sem]
  ·first | exact (((Below.refl _ _).alloc (Nat.le_refl _) _).alloc (by simp) _).alloc (by simp;omega) _ | exact ((((Below.refl _ _).alloc (Nat.le_refl _) _).alloc (by simp) _).alloc (by simp;omega) _).drew
 rw [if_neg h2]
 have e2:(typ == 16)=false:=by simpa using h2
 by_cases h3:typ=33
 ·subst h3
  clear e1 e2
  go_enter Tryz.func87,Tryz.ntmps87
  go_wp2_with fail
  go_region
  go_wp2_with fail
  refine bodyPost_ret (v:=.agg #[.string name,.int .i64 33,.int .i64 lasts,.int .i64 0,.string ⟨#[]⟩,.int .i64 port,.string target]) ?_ rfl ⟨rfl,?_⟩
  ·simp [results,Tryz.results87,go_sem]
  ·first | exact (((Below.refl _ _).alloc (Nat.le_refl _) _).alloc (by simp) _).alloc (by simp;omega) _ | exact ((((Below.refl _ _).alloc (Nat.le_refl _) _).alloc (by simp) _).alloc (by simp;omega) _).drew
 rw [if_neg h3]
 have e3:(typ == 33)=false:=by simpa using h3
 ·clear h1 h2 h3
  go_enter Tryz.func87,Tryz.ntmps87
  go_wp2_with fail
  refine bodyPost_ret (v:=.agg #[.string name,.int .i64 typ,.int .i64 lasts,.int .i64 0,.string ⟨#[]⟩,.int .i64 0,.string ⟨#[]⟩]) ?_ rfl ⟨rfl,?_⟩
  ·simp [results,Tryz.results87,go_sem]
  ·first | exact (((Below.refl _ _).alloc (Nat.le_refl _) _).alloc (by simp) _).alloc (by simp;omega) _ | exact ((((Below.refl _ _).alloc (Nat.le_refl _) _).alloc (by simp) _).alloc (by simp;omega) _).drew
def ownB (r:Rc.Rec):Bool:=(decide (r.typ=1) || decide (r.addr=0)) && ((decide (r.typ=16) || decide (r.text.size=0)) && (decide (r.typ=33) || (decide (r.port=0) && decide (r.target.size=0))))
def chkRec (r:Rc.Rec):Int:=
 if chkN r.name≠0 then chkN r.name
 else if typB r.typ=false then 7
 else if within r.lasts 0 2147483647=false then 3
 else if ownB r=false then 1
 else if (within r.addr 0 4294967295 && within r.port 0 65535)=false then 3
 else if 200 < r.text.size then 2
 else chkN r.target
theorem ownF_name (r:Rc.Rec):(ownF r).name=r.name:=by unfold ownF;split;rfl;split;rfl;split<;>rfl
theorem ownF_typ (r:Rc.Rec):(ownF r).typ=r.typ:=by unfold ownF;split;rfl;split;rfl;split<;>rfl
theorem ownF_lasts (r:Rc.Rec):(ownF r).lasts=r.lasts:=by unfold ownF;split;rfl;split;rfl;split<;>rfl
theorem emp_iff (s:ByteArray):s=⟨#[]⟩↔s.size=0:=⟨fun h=>by rw [h];rfl,isempty⟩
theorem own_same (r:Rc.Rec):Rc.sameM r (ownF r)=ownB r:=by
 rw [Bool.eq_iff_iff,Rc.sameM_iff]
 obtain ⟨name,typ,lasts,addr,text,port,target⟩:=r
 unfold ownF ownB
 simp only
 by_cases h1:typ=1
 ·subst h1;simp [emp_iff]
 rw [if_neg h1]
 by_cases h2:typ=16
 ·subst h2;simp [emp_iff]
 rw [if_neg h2]
 by_cases h3:typ=33
 ·subst h3;simp [emp_iff]
 rw [if_neg h3]
 simp [h1,h2,h3,emp_iff]
set_option maxHeartbeats 1600000 in
set_option maxRecDepth 100000 in
theorem checkRecord_any (r:Rc.Rec) (w:World) (hr:r.ok) :
 Calls Tryz.prog 56 #[recV r] w fun e w'=>e=outE (chkRec r)∧Below w.heap.size w w':=by
 have HN:Hid (∀ W,Calls Tryz.prog 54 #[.string r.name] W fun e w'=>e=outE (chkN r.name)∧Below W.heap.size W w'):=fun W=>checkName_any _ _ hr.1
 have HT:Hid (∀ W,Calls Tryz.prog 54 #[.string r.target] W fun e w'=>e=outE (chkN r.target)∧Below W.heap.size W w'):=fun W=>checkName_any _ _ hr.2.2
 have HO:Hid (∀ W,Calls Tryz.prog 87 #[recV r] W fun e w'=>e=.returned (.agg #[.string r.name,.int .i64 r.typ,.int .i64 r.lasts,.int .i64 (ownF r).addr,.string (ownF r).text,.int .i64 (ownF r).port,.string (ownF r).target])∧Below W.heap.size W w'):=fun W=>by
  have h:=ownFields_any r W
  unfold recV at h
  rw [ownF_name,ownF_typ,ownF_lasts] at h
  exact h
 generalize hE:chkRec r=E
 unfold chkRec at hE
 go_enter Tryz.func56,Tryz.ntmps56
 go_wp2_with fail
 have hg0:(w.alloc (.cells #[.string r.name,.int .i64 r.typ,.int .i64 r.lasts,.int .i64 r.addr,.string r.text,.int .i64 r.port,.string r.target] 59)).heap[w.heap.size]?=some (.cells #[.string r.name,.int .i64 r.typ,.int .i64 r.lasts,.int .i64 r.addr,.string r.text,.int .i64 r.port,.string r.target] 59 (0,0)):=heap_alloc_new w _
 refine (HN.out _).mono ?_
 rintro e w1 ⟨rfl,hb1⟩
 have hg1:=(hb1.block w.heap.size (by simp)).trans hg0
 have HB1:Hid (Below w.heap.size w w1):=((Below.refl _ _).alloc (Nat.le_refl _) _).trans (hb1.mono (by simp))
 clear hg0 hb1
 by_cases h1:chkN r.name=0
 ·rw [h1,outE_0]
  rw [if_neg (by simpa using h1)] at hE
  have f1:w1.cell? ⟨w.heap.size,1,none⟩=some (.int .i64 r.typ):=cellsAt hg1 1
  have f2:w1.cell? ⟨w.heap.size,2,none⟩=some (.int .i64 r.lasts):=cellsAt hg1 2
  go_wp2_with fail
  refine (rtype_any _ _).mono ?_
  rintro e w2 ⟨rfl,hw2⟩
  subst hw2
  rw [show (decide (r.typ=1) || decide (r.typ=16) || decide (r.typ=33))=typB r.typ from rfl]
  by_cases h2:typB r.typ=false
  ·rw [if_pos h2] at hE
   subst hE
   rw [h2]
   go_wp2_with fail
   refine (need_no _ _).mono ?_
   rintro e w3 ⟨rfl,rfl⟩
   exact ⟨rfl,rfl,HB1.out⟩
  rw [if_neg h2] at hE
  rw [show typB r.typ=true by simpa using h2]
  go_wp2_with fail
  refine (need_ok _ _).mono ?_
  rintro e w3 ⟨rfl,hw3⟩
  subst hw3
  go_wp2_with fail
  refine (within_any _ _ _ _).mono ?_
  rintro e w4 ⟨rfl,hw4⟩
  subst hw4
  by_cases h3:within r.lasts 0 2147483647=false
  ·rw [if_pos h3] at hE
   subst hE
   rw [h3]
   go_wp2_with fail
   refine (need_no _ _).mono ?_
   rintro e w5 ⟨rfl,rfl⟩
   exact ⟨rfl,rfl,HB1.out⟩
  rw [if_neg h3] at hE
  rw [show within r.lasts 0 2147483647=true by simpa using h3]
  go_wp2_with fail
  refine (need_ok _ _).mono ?_
  rintro e w5 ⟨rfl,hw5⟩
  subst hw5
  have f0:w5.cell? ⟨w.heap.size,0,none⟩=some (.string r.name):=cellsAt hg1 0
  have f3:w5.cell? ⟨w.heap.size,3,none⟩=some (.int .i64 r.addr):=cellsAt hg1 3
  have f4:w5.cell? ⟨w.heap.size,4,none⟩=some (.string r.text):=cellsAt hg1 4
  have f5:w5.cell? ⟨w.heap.size,5,none⟩=some (.int .i64 r.port):=cellsAt hg1 5
  have f6:w5.cell? ⟨w.heap.size,6,none⟩=some (.string r.target):=cellsAt hg1 6
  have heq:∀ W,Sem.run Tryz.prog (binOp .eql 59 (.agg #[.string r.name,.int .i64 r.typ,.int .i64 r.lasts,.int .i64 r.addr,.string r.text,.int .i64 r.port,.string r.target]) (.agg #[.string r.name,.int .i64 r.typ,.int .i64 r.lasts,.int .i64 (ownF r).addr,.string (ownF r).text,.int .i64 (ownF r).port,.string (ownF r).target])) W=.ok (.bool (ownB r)) W:=fun W=>by
   have h:=Rc.eqE r (ownF r) W
   rw [ownF_name,ownF_typ,ownF_lasts,own_same] at h
   exact h
  have hl5:w.heap.size < w5.drew.heap.size:=(Array.getElem?_eq_some_iff.1 hg1).1
  generalize (ownF r).addr=a' at *
  generalize (ownF r).text=t' at *
  generalize (ownF r).port=p' at *
  generalize (ownF r).target=g' at *
  go_wp2_with fail
  refine wp_region_held_drew (S:=fun W=>W.heap[w.heap.size]?=some (.cells #[.string r.name,.int .i64 r.typ,.int .i64 r.lasts,.int .i64 r.addr,.string r.text,.int .i64 r.port,.string r.target] 59 (0,0))) (by kernel_rfl) hg1 (fun hHeld=>?_)
  refine wpAnyH_take (i:=0) (v:=recV r) rfl (by kernel_rfl) (by kernel_rfl) (by kernel_rfl) (fun _ _ _ h=>h) (Or.inl ⟨by rfl,?_⟩) (by assumption) ?_
  ·intro W hSw
   have d0:W.cell? ⟨w.heap.size,0,none⟩=some (.string r.name):=cellsAt hSw 0
   have d1:W.cell? ⟨w.heap.size,1,none⟩=some (.int .i64 r.typ):=cellsAt hSw 1
   have d2:W.cell? ⟨w.heap.size,2,none⟩=some (.int .i64 r.lasts):=cellsAt hSw 2
   have d3:W.cell? ⟨w.heap.size,3,none⟩=some (.int .i64 r.addr):=cellsAt hSw 3
   have d4:W.cell? ⟨w.heap.size,4,none⟩=some (.string r.text):=cellsAt hSw 4
   have d5:W.cell? ⟨w.heap.size,5,none⟩=some (.int .i64 r.port):=cellsAt hSw 5
   have d6:W.cell? ⟨w.heap.size,6,none⟩=some (.string r.target):=cellsAt hSw 6
   go_simp
  refine wpAnyH_take (i:=1) (v:=recV r) rfl (by kernel_rfl) (by kernel_rfl) (by kernel_rfl) (fun _ _ _ h=>h) (Or.inl ⟨by rfl,?_⟩) (by assumption) ?_
  ·intro W hSw
   have d0:W.cell? ⟨w.heap.size,0,none⟩=some (.string r.name):=cellsAt hSw 0
   have d1:W.cell? ⟨w.heap.size,1,none⟩=some (.int .i64 r.typ):=cellsAt hSw 1
   have d2:W.cell? ⟨w.heap.size,2,none⟩=some (.int .i64 r.lasts):=cellsAt hSw 2
   have d3:W.cell? ⟨w.heap.size,3,none⟩=some (.int .i64 r.addr):=cellsAt hSw 3
   have d4:W.cell? ⟨w.heap.size,4,none⟩=some (.string r.text):=cellsAt hSw 4
   have d5:W.cell? ⟨w.heap.size,5,none⟩=some (.int .i64 r.port):=cellsAt hSw 5
   have d6:W.cell? ⟨w.heap.size,6,none⟩=some (.string r.target):=cellsAt hSw 6
   go_simp
  refine wpAnyH_ready (rs:=[2]) (by kernel_rfl) (by simp) ?_
  refine AllReadyH.cons rfl (fun K hK=>?_) AllReadyH.nil
  go_simp
  refine (HO.out _).mono ?_
  rintro e w6 ⟨rfl,hb6⟩
  have HB6:Hid (Below w.heap.size w w6):=HB1.out.trans (Below.trans (Below.drew (Below.refl _ _)) (hb6.mono HB1.out.size))
  have hg6:=(hb6.block w.heap.size hl5).trans hHeld
  clear hb6 HB1
  refine hK.out _ _ hg6 (fun _=>?_)
  clear hK K
  refine wpAnyH_ready (rs:=[3]) (by kernel_rfl) (by simp) ?_
  refine AllReadyH.cons rfl (fun K hK=>?_) AllReadyH.nil
  go_simp
  refine hK.out _ _ hg6 (fun _=>?_)
  clear hK K
  refine wpAnyH_ready (rs:=[4]) (by kernel_rfl) (by simp) ?_
  refine AllReadyH.cons rfl (fun K hK=>?_) AllReadyH.nil
  go_simp
  by_cases h4:ownB r=false
  ·rw [if_pos h4] at hE
   subst hE
   rw [h4]
   refine (need_no _ _).mono ?_
   rintro e w7 ⟨rfl,rfl⟩
   exact ⟨rfl,rfl,HB6.out⟩
  rw [if_neg h4] at hE
  rw [show ownB r=true by simpa using h4]
  refine (need_ok _ _).mono ?_
  rintro e w7 ⟨rfl,hw7⟩
  subst hw7
  refine hK.out _ _ hg6 (fun _=>?_)
  clear hK K
  refine wpAnyH_done (by kernel_rfl) ?_ _
  clear heq HO f0 f1 f2 f3 f4 f5 f6
  have f3:w7.cell? ⟨w.heap.size,3,none⟩=some (.int .i64 r.addr):=cellsAt hg6 3
  have f4:w7.cell? ⟨w.heap.size,4,none⟩=some (.string r.text):=cellsAt hg6 4
  have f5:w7.cell? ⟨w.heap.size,5,none⟩=some (.int .i64 r.port):=cellsAt hg6 5
  have f6:w7.cell? ⟨w.heap.size,6,none⟩=some (.string r.target):=cellsAt hg6 6
  go_wp2_with fail
  refine (address_any _ _).mono ?_
  rintro e w8 ⟨rfl,hw8⟩
  subst hw8
  by_cases h5:within r.addr 0 4294967295=false
  ·rw [if_pos (by rw [h5];rfl)] at hE
   subst hE
   rw [h5]
   go_wp2_with fail
   refine (need_no _ _).mono ?_
   rintro e w9 ⟨rfl,rfl⟩
   exact ⟨rfl,rfl,HB6.out⟩
  have h5t:within r.addr 0 4294967295=true:=by simpa using h5
  rw [h5t] at hE ⊢
  rw [Bool.true_and] at hE
  go_wp2_with fail
  refine (within_any _ _ _ _).mono ?_
  rintro e w9 ⟨rfl,hw9⟩
  subst hw9
  by_cases h6:within r.port 0 65535=false
  ·rw [if_pos h6] at hE
   subst hE
   rw [h6]
   go_wp2_with fail
   refine (need_no _ _).mono ?_
   rintro e wa ⟨rfl,rfl⟩
   exact ⟨rfl,rfl,HB6.out⟩
  rw [if_neg h6] at hE
  rw [show within r.port 0 65535=true by simpa using h6]
  go_wp2_with fail
  refine (need_ok _ _).mono ?_
  rintro e wa ⟨rfl,hwa⟩
  subst hwa
  by_cases h7:200 < r.text.size
  ·rw [if_pos h7] at hE
   subst hE
   have h8:decide ((r.text.size:Int)≤200)=false:=by simp;omega
   go_wp2_with fail
   refine (need_no _ _).mono ?_
   rintro e wb ⟨rfl,rfl⟩
   exact ⟨rfl,rfl,HB6.out⟩
  rw [if_neg h7] at hE
  have h8:decide ((r.text.size:Int)≤200)=true:=by simp;omega
  go_wp2_with fail
  refine (need_ok _ _).mono ?_
  rintro e wb ⟨rfl,hwb⟩
  subst hwb
  go_wp2_with fail
  refine (HT.out _).mono ?_
  rintro e wc ⟨rfl,hbc⟩
  have HBC:Hid (Below w.heap.size w wc):=HB6.out.trans (hbc.mono HB6.out.size)
  clear hbc
  subst hE
  by_cases h9:chkN r.target=0
  ·rw [h9,outE_0]
   go_wp2_with fail
   simp [bodyPost,results,Tryz.results56]
   exact ⟨by rw [h9];rfl,HBC.out⟩
  ·rw [outE_ne h9]
   exact ⟨rfl,(outE_ne h9).symm,HBC.out⟩
 ·rw [if_pos h1] at hE
  subst hE
  rw [outE_ne h1]
  exact ⟨rfl,(outE_ne h1).symm,HB1.out⟩
end Go.Proofs.YtignmeaeibaejaaGreatDoor
