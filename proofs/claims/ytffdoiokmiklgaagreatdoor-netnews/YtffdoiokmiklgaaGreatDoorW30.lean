import Derived.Test.YtffdoiokmiklgaaGreatDoorW29
import Derived.Test.YtffdoiokmiklgaaGreatDoorW3
import Derived.Laws.StructEq
import Derived.Test.YtffdoiokmiklgaaGreatDoorW4
import Derived.Test.YtffdoiokmiklgaaGreatDoorW2
import Derived.Lib.SmallJoins
import Derived.Deep.Cut
import Derived.Below
namespace Go.Proofs.YtffdoiokmiklgaaGreatDoor
open Go.RowKit
theorem newE0n {a b:Mem} (ha:a.e=0) (hb:b.e=0) (hn:a.name=b.name):newE a b=0:=by
 unfold newE
 have h:chkTwo [a] [b]=0:=by
  unfold chkTwo
  rw [chk_oneR,chk_oneR,if_pos ha,hb]
 rw [if_pos h,if_pos hn]
theorem chk_e0 {ms:List Mem} (h:chk ms=0):∀ m∈ms,m.e=0:=by
 obtain ⟨_,_,h3⟩:=chk_zero h
 exact firstE_mem ms h3
theorem chkR_e0 {rs:List Rum} (h:chkR rs=0):rs.length≤20∧(∀ r∈rs,r.m.e=0)∧AllTold rs∧Distinct rs:=by
 unfold chkR at h
 split at h
 ·cases h
 ·rename_i hn
  split at h
  ·rename_i h1
   split at h
   ·rename_i h2
    split at h
    ·rename_i h3
     refine ⟨by omega,fun r hr=>?_,h2,h3⟩
     exact firstE_mem _ h1 r.m (List.mem_map.2 ⟨r,hr,rfl⟩)
    ·cases h
   ·cases h
  ·rename_i h1;exact absurd h h1
theorem aheadP_eq {ms:List Mem} {r:Rum} (h:chk ms=0) (hr:r.m.e=0):aheadP ms r=aheadB ms r:=by
 unfold aheadP aheadB
 rcases hf:fstM ms r.m.name with _ | k
 ·rfl
 ·have hk:=fstM_mem hf
  simp only
  rw [newE0n hr (chk_e0 h k hk.1) hk.2.symm]
  simp
theorem any_ahead {ms:List Mem} {rs:List Rum} (h:chk ms=0) (hr:chkR rs=0):rs.any (aheadP ms)=rs.any (aheadB ms):=by
 have h2:=(chkR_e0 hr).2.1
 clear hr
 induction rs with
 | nil=>rfl
 | cons r l ih=>
   rw [List.any_cons,List.any_cons,aheadP_eq h (h2 r (by simp)),ih (fun x hx=>h2 x (by simp [hx]))]
set_option maxHeartbeats 6400000 in
set_option maxRecDepth 100000 in
theorem checkWhole_any (n:Nd) (b:Nat) (vm vr vs vg vw:Value) (w:World) (h:NdIs w n vm vr vs vg vw) (hg:w.heap[b]?=some (.cells (ndA n vm vr vs vg vw) 133 (0,0))) (hp:n.pE=0) :
 Calls Tryz.prog 87 #[.pointer (some ⟨b,0,none⟩)] w fun e w'=>e=.returned (.int .i64 n.wE)∧Below w.heap.size w w':=by
 have HPT:Hid n.Parts:=Nd.parts hp
 have hb:b < w.heap.size:=(Array.getElem?_eq_some_iff.1 hg).1
 have hml:n.ms.length≤20:=(chk_zero HPT.out.ms).1
 have hrl:n.rs.length≤20:=(chkR_e0 HPT.out.rs).1
 have HWE:Hid (n.wE=match fstM n.ms n.name with
  | none=>5
  | some m=>if m.state=2∨m.state=3 then 4 else if n.rs.any (aheadP n.ms)=true then 4 else 0):=by
  show n.wE=_
  rw [any_ahead HPT.out.ms HPT.out.rs];rfl
 obtain ⟨nm,ct,ms,rs,sv,gw,⟨px,py,pz,ph,pq⟩,wh⟩:=n
 obtain ⟨hms,hrs,_,_,_,_,_⟩:=h
 simp only at hms hrs hg hml hrl HWE
 generalize Nd.wE ⟨nm,ct,ms,rs,sv,gw,⟨px,py,pz,ph,pq⟩,wh⟩=res at *
 obtain ⟨am,cm,rfl,hms1,hms2⟩:=hms
 have hms:Sl w (.slice am ms.length cm) ms:=⟨am,cm,rfl,hms1,hms2⟩
 clear hms1 hms2
 have HX:Hid (∀ W,Below w.heap.size w W→W.cell? ⟨b,0,none⟩=some (.string nm)∧W.cell? ⟨b,2,none⟩=some (.slice am ms.length cm)∧W.cell? ⟨b,3,none⟩=some vr):=fun W hW=>
  have hg':=(hW.block _ hb).trans hg
  ⟨cellsAt hg' 0,cellsAt hg' 2,cellsAt hg' 3⟩
 have HMB:Hid (∀ (W:World) (t:ByteArray),Below w.heap.size w W→Calls Tryz.prog 93 #[.pointer (some ⟨b,0,none⟩),.string t] W fun e w'=>e=.returned (.tuple #[.agg #[.string (mOf ms t).name,.int .i64 (mOf ms t).state,.int .i64 (mOf ms t).life,.int .i64 (mOf ms t).addr,.bool (mOf ms t).server],.bool (fstM ms t).isSome])∧Below W.heap.size W w'):=fun W t hW=>
  wmember_any b am ms.length cm ms t W (HX.out W hW).2.1 (hms.below hW) (by omega)
 have HCF:Hid (∀ W,Below w.heap.size w W→Calls Tryz.prog 130 #[vr,.func (.func 131) #[.pointer (some ⟨b,0,none⟩)] #[]] W fun e w'=>e=.returned (.bool (rs.any (aheadP ms)))∧Below W.heap.size W w'):=fun W hW=>
  contains_any b am ms.length cm ms rs vr W (hrs.below hW) (HX.out W hW).2.1 (hms.below hW) (by omega) (by omega)
 clear hms hrs
 generalize rs.any (aheadP ms)=ab at *
 obtain ⟨y0,y2,y3⟩:=HX.out w (Below.refl _ _)
 clear hg
 go_enter Tryz.func87,Tryz.ntmps87
 go_wp2_with fail
 refine (HMB.out _ nm (Below.refl _ _)).mono ?_
 rintro e w1 ⟨rfl,hb1⟩
 have HB1:Hid (Below w.heap.size w w1):=hb1
 clear hb1 y0 y2 y3
 rcases hf:fstM ms nm with _ | m
 ·have HR:Hid (res=5):=HWE.out.trans (by rw [hf])
  have hmo:mOf ms nm=dm:=mOf_none hf
  rw [hmo]
  clear hf hmo
  go_wp2_with fail
  go_ret
  exact ⟨ret_int HR.out.symm,HB1.out.alloc HB1.out.size _⟩
 ·have HR:Hid (res=if m.state=2∨m.state=3 then 4 else if ab=true then 4 else 0):=HWE.out.trans (by rw [hf])
  have hmo:mOf ms nm=m:=mOf_some hf
  rw [hmo]
  clear hf hmo
  obtain ⟨mn,st,lf,ad,sv2⟩:=m
  simp only at HR
  by_cases h2:st=2
  ·subst h2
   have HR2:Hid (res=4):=HR.out.trans (by simp)
   go_wp2_with fail
   go_ret
   exact ⟨ret_int HR2.out.symm,HB1.out.alloc HB1.out.size _⟩
  ·by_cases h3:st=3
   ·subst h3
    have HR2:Hid (res=4):=HR.out.trans (by simp)
    go_wp2_with fail
    go_ret
    exact ⟨ret_int HR2.out.symm,HB1.out.alloc HB1.out.size _⟩
   ·have HR2:Hid (res=if ab=true then 4 else 0):=HR.out.trans (if_neg (by omega))
    have h2':(st == 2)=false:=by simpa using h2
    have h3':(st == 3)=false:=by simpa using h3
    clear h2 h3 HR
    obtain ⟨W2,hW2⟩:∃ W2,W2=w1.alloc (.cells #[.string mn,.int .i64 st,.int .i64 lf,.int .i64 ad,.bool sv2] 56):=⟨_,rfl⟩
    have HB2:Hid (Below w.heap.size w W2):=by rw [hW2];exact HB1.out.alloc HB1.out.size _
    obtain ⟨y0,y2,y3⟩:=HX.out W2 HB2.out
    rw [hW2] at y0 y2 y3
    go_wp2_with fail
    rw [← hW2]
    refine (HCF.out _ HB2.out).mono ?_
    rintro e w3 ⟨rfl,hb3⟩
    have HB3:Hid (Below w.heap.size w w3):=HB2.out.trans (hb3.mono HB2.out.size)
    clear hb3 y0 y2 y3 hW2
    cases ab
    ·go_wp2_with fail
     go_ret
     exact ⟨ret_int HR2.out.symm,HB3.out⟩
    ·go_wp2_with fail
     go_ret
     exact ⟨ret_int HR2.out.symm,HB3.out⟩
set_option maxHeartbeats 6400000 in
set_option maxRecDepth 100000 in
theorem ncheck_any (n:Nd) (vm vr vs vg vw:Value) (w:World) (h:NdIs w n vm vr vs vg vw) :
 Calls Tryz.prog 60 #[.agg (ndA n vm vr vs vg vw)] w fun e w'=>e=.returned (.int .i64 n.e)∧Below w.heap.size w w':=by
 have HI:Hid (NdIs w n vm vr vs vg vw):=h
 have HE:Hid (n.e=if n.pE=0 then n.wE else n.pE):=rfl
 obtain ⟨W,hW⟩:∃ W,W=(w.alloc (.cells (ndA n vm vr vs vg vw) 51)).alloc (.cells (ndA n vm vr vs vg vw) 133):=⟨_,rfl⟩
 have hbW:Below w.heap.size w W:=by rw [hW];exact ((Below.refl _ _).alloc (Nat.le_refl _) _).alloc (by simp) _
 have hg:W.heap[w.heap.size+1]?=some (.cells (ndA n vm vr vs vg vw) 133 (0,0)):=by
  have h:=heap_alloc_new (w.alloc (.cells (ndA n vm vr vs vg vw) 51)) (.cells (ndA n vm vr vs vg vw) 133)
  rw [hW];simpa using h
 have hsW:W.heap.size=w.heap.size+2:=by rw [hW];simp
 have HBW:Hid (Below w.heap.size w W):=hbW
 have HC:Hid (Calls Tryz.prog 86 #[.pointer (some ⟨w.heap.size+1,0,none⟩)] W fun e w'=>e=.returned (.int .i64 n.pE)∧Below W.heap.size W w'):=checkParts_any n (w.heap.size+1) vm vr vs vg vw W (h.below hbW) hg
 have HD:Hid (n.pE=0→∀ W1,Below W.heap.size W W1→Calls Tryz.prog 87 #[.pointer (some ⟨w.heap.size+1,0,none⟩)] W1 fun e w'=>e=.returned (.int .i64 n.wE)∧Below W1.heap.size W1 w'):=fun hp W1 h1=>
  checkWhole_any n (w.heap.size+1) vm vr vs vg vw W1 ((h.below hbW).below h1) ((h1.block _ (by omega)).trans hg) hp
 obtain ⟨nm,ct,ms,rs,sv,gw,⟨px,py,pz,ph,pq⟩,wh⟩:=n
 obtain ⟨⟨am,cm,rfl,_,_⟩,⟨ar,cr,rfl,_,_⟩,⟨aq,cq,rfl,_,_⟩,⟨ag,cg,rfl,_,_⟩,⟨aw,cw,rfl,_,_⟩,_,_⟩:=h
 generalize Nd.e ⟨nm,ct,ms,rs,sv,gw,⟨px,py,pz,ph,pq⟩,wh⟩=res at *
 generalize Nd.pE ⟨nm,ct,ms,rs,sv,gw,⟨px,py,pz,ph,pq⟩,wh⟩=pe at *
 generalize Nd.wE ⟨nm,ct,ms,rs,sv,gw,⟨px,py,pz,ph,pq⟩,wh⟩=we at *
 simp only [ndA] at hW ⊢
 clear hg hbW
 generalize ms.length=nms at *
 generalize rs.length=nrs at *
 generalize sv.length=nsv at *
 generalize gw.length=ngw at *
 generalize wh.length=nwh at *
 go_enter Tryz.func60,Tryz.ntmps60
 go_wp2_with fail
 rw [← hW]
 refine HC.out.mono ?_
 rintro e w1 ⟨rfl,hb1⟩
 have HB1:Hid (Below W.heap.size W w1):=hb1
 have HBW1:Hid (Below w.heap.size w w1):=HBW.out.trans (hb1.mono (by omega))
 clear hb1
 by_cases hp:pe=0
 ·have HD2:=HD.out hp w1 HB1.out
  have HR:Hid (res=we):=HE.out.trans (if_pos hp)
  subst hp
  clear HD HE
  go_wp2_with fail
  refine HD2.mono ?_
  rintro e w2 ⟨rfl,hb2⟩
  have HBW2:Hid (Below w.heap.size w w2):=HBW1.out.trans (hb2.mono HBW1.out.size)
  clear hb2
  go_wp2_with fail
  go_ret
  exact ⟨ret_int HR.out.symm,HBW2.out⟩
 ·have hp':(pe != 0)=true:=by simpa using hp
  have HR:Hid (res=pe):=HE.out.trans (if_neg hp)
  clear hp HD HE
  go_wp2_with fail
  go_ret
  exact ⟨ret_int HR.out.symm,HBW1.out⟩
end Go.Proofs.YtffdoiokmiklgaaGreatDoor
namespace Go.Proofs.YtffdoiokmiklgaaGreatDoor
namespace Sv
open Go.RowKit
set_option maxHeartbeats 800000 in
theorem clone_any (ms:List Svc) (v:Value) (w:World) (h:Sl w v ms) (hn:ms.length≤1000) :
 Calls Tryz.prog 72 #[v] w fun e w'=>∃ v',e=.returned v'∧Own w.heap.size w' v' ms∧Below w.heap.size w w':=by
 obtain ⟨a,cap,rfl,hs,h⟩:=h
 obtain ⟨i0,hi0,hz0,hzs,hzb⟩:=info_parts Tryz.info42
 cases a with
 | none=>
   have he:ms=[]:=by
    rcases h with h | ⟨b,off,h,_⟩
    ·exact h
    ·cases h
   subst he
   clear h hs
   have hnil:=fun (w:World)=>Lib.run_eql_slice_nil (P:=Tryz.prog) w 47 42 none 0 cap 0 0 Tryz.underlying47
   simp only [List.length_nil,Option.isNone_none] at hnil ⊢
   go_enter Tryz.func72,Tryz.ntmps72
   go_wp2_with fail
   go_ret
   exact ⟨_,rfl,own_nil _ _,Below.refl _ _⟩
 | some a=>
   have hnil:=fun (w:World)=>Lib.run_eql_slice_nil (P:=Tryz.prog) w 47 42 (some a) ms.length cap 0 0 Tryz.underlying47
   simp only [Option.isNone_some] at hnil
   have hnews:Hid (∀ j u,(fl ms)[j]?=some u→(w.alloc (.cells #[] 42)).cell? (a.add j)=some u):=by
    intro j u hj
    rcases h with h | ⟨b,off,h,hb,hr⟩
    ·subst h;simp [fl] at hj
    ·cases h
     have hjl:j < ms.length * 9:=by rw [← fl_len];exact (List.getElem?_eq_some_iff.1 hj).1
     have h1:=fl_get ms (j / 9) (by omega) (j%9) (by omega)
     rw [show j / 9 * 9+j%9=j by omega,hj] at h1
     rw [Addr.add_lit,World.cell?_alloc_past (w:=w) _ b _ hb]
     obtain ⟨c0,c1,c2,c3,c4,c5,c6,c7,c8⟩:=hr (j / 9) (by omega)
     have hcs:j%9=0∨j%9=1∨j%9=2∨j%9=3∨j%9=4∨j%9=5∨j%9=6∨j%9=7∨j%9=8:=by omega
     rcases hcs with e | e | e | e | e | e | e | e | e
     ·rw [show off+j=off+j / 9 * 9 by omega,c0];rw [e] at h1;simpa [Svc.cs] using h1.symm
     ·rw [show off+j=off+j / 9 * 9+1 by omega,c1];rw [e] at h1;simpa [Svc.cs] using h1.symm
     ·rw [show off+j=off+j / 9 * 9+2 by omega,c2];rw [e] at h1;simpa [Svc.cs] using h1.symm
     ·rw [show off+j=off+j / 9 * 9+3 by omega,c3];rw [e] at h1;simpa [Svc.cs] using h1.symm
     ·rw [show off+j=off+j / 9 * 9+4 by omega,c4];rw [e] at h1;simpa [Svc.cs] using h1.symm
     ·rw [show off+j=off+j / 9 * 9+5 by omega,c5];rw [e] at h1;simpa [Svc.cs] using h1.symm
     ·rw [show off+j=off+j / 9 * 9+6 by omega,c6];rw [e] at h1;simpa [Svc.cs] using h1.symm
     ·rw [show off+j=off+j / 9 * 9+7 by omega,c7];rw [e] at h1;simpa [Svc.cs] using h1.symm
     ·rw [show off+j=off+j / 9 * 9+8 by omega,c8];rw [e] at h1;simpa [Svc.cs] using h1.symm
   have HO:Hid ((w.alloc (.cells #[] 42)).ownsRow w.heap.size 42 9 (.slice (some ⟨w.heap.size,0,none⟩) 0 0) 0 []):=World.ownsRow_made w #[] 0 (Nat.le_refl _) (by unfold maxLen;omega) rfl
   clear h hs
   go_enter Tryz.func72,Tryz.ntmps72
   go_wp2_with (at_builtin;refine wpList_append_own _ rfl _ _ 47 rfl w.heap.size 42 i0 _ 9 104 Tryz.underlying47 hi0 hz0 hzs hzb rfl (by omega) _ 0 [] rfl HO.out a ms.length cap (fl ms) rfl (fl_len ms) hnews.out (fl_one ms) (by unfold maxLen;omega) (by omega) (by simp) ?_)
   intro v' w' r1 r2 r3
   go_wp2_with fail
   go_ret
   refine ⟨v',rfl,?_,?_⟩
   ·simpa using r1
   ·exact ((Below.refl _ _).alloc (Nat.le_refl _) _).grown r2 (by simp) (fun k hk=>by simp [Value.ownBlock] at hk;omega)
end Sv
namespace Gw
open Go.RowKit
set_option maxHeartbeats 800000 in
theorem clone_any (ms:List Gwy) (v:Value) (w:World) (h:Sl w v ms) (hn:ms.length≤1000) :
 Calls Tryz.prog 73 #[v] w fun e w'=>∃ v',e=.returned v'∧Own w.heap.size w' v' ms∧Below w.heap.size w w':=by
 obtain ⟨a,cap,rfl,hs,h⟩:=h
 obtain ⟨i0,hi0,hz0,hzs,hzb⟩:=info_parts Tryz.info107
 cases a with
 | none=>
   have he:ms=[]:=by
    rcases h with h | ⟨b,off,h,_⟩
    ·exact h
    ·cases h
   subst he
   clear h hs
   have hnil:=fun (w:World)=>Lib.run_eql_slice_nil (P:=Tryz.prog) w 48 107 none 0 cap 0 0 Tryz.underlying48
   simp only [List.length_nil,Option.isNone_none] at hnil ⊢
   go_enter Tryz.func73,Tryz.ntmps73
   go_wp2_with fail
   go_ret
   exact ⟨_,rfl,own_nil _ _,Below.refl _ _⟩
 | some a=>
   have hnil:=fun (w:World)=>Lib.run_eql_slice_nil (P:=Tryz.prog) w 48 107 (some a) ms.length cap 0 0 Tryz.underlying48
   simp only [Option.isNone_some] at hnil
   have hnews:Hid (∀ j u,(fl ms)[j]?=some u→(w.alloc (.cells #[] 107)).cell? (a.add j)=some u):=by
    intro j u hj
    rcases h with h | ⟨b,off,h,hb,hr⟩
    ·subst h;simp [fl] at hj
    ·cases h
     have hjl:j < ms.length * 3:=by rw [← fl_len];exact (List.getElem?_eq_some_iff.1 hj).1
     have h1:=fl_get ms (j / 3) (by omega) (j%3) (by omega)
     rw [show j / 3 * 3+j%3=j by omega,hj] at h1
     rw [Addr.add_lit,World.cell?_alloc_past (w:=w) _ b _ hb]
     obtain ⟨c0,c1,c2⟩:=hr (j / 3) (by omega)
     have hcs:j%3=0∨j%3=1∨j%3=2:=by omega
     rcases hcs with e | e | e
     ·rw [show off+j=off+j / 3 * 3 by omega,c0];rw [e] at h1;simpa [Gwy.cs] using h1.symm
     ·rw [show off+j=off+j / 3 * 3+1 by omega,c1];rw [e] at h1;simpa [Gwy.cs] using h1.symm
     ·rw [show off+j=off+j / 3 * 3+2 by omega,c2];rw [e] at h1;simpa [Gwy.cs] using h1.symm
   have HO:Hid ((w.alloc (.cells #[] 107)).ownsRow w.heap.size 107 3 (.slice (some ⟨w.heap.size,0,none⟩) 0 0) 0 []):=World.ownsRow_made w #[] 0 (Nat.le_refl _) (by unfold maxLen;omega) rfl
   clear h hs
   go_enter Tryz.func73,Tryz.ntmps73
   go_wp2_with (at_builtin;refine wpList_append_own _ rfl _ _ 48 rfl w.heap.size 107 i0 _ 3 32 Tryz.underlying48 hi0 hz0 hzs hzb rfl (by omega) _ 0 [] rfl HO.out a ms.length cap (fl ms) rfl (fl_len ms) hnews.out (fl_one ms) (by unfold maxLen;omega) (by omega) (by simp) ?_)
   intro v' w' r1 r2 r3
   go_wp2_with fail
   go_ret
   refine ⟨v',rfl,?_,?_⟩
   ·simpa using r1
   ·exact ((Below.refl _ _).alloc (Nat.le_refl _) _).grown r2 (by simp) (fun k hk=>by simp [Value.ownBlock] at hk;omega)
end Gw
namespace Wh
open Go.RowKit
set_option maxHeartbeats 800000 in
theorem clone_any (ms:List Whe) (v:Value) (w:World) (h:Sl w v ms) (hn:ms.length≤1000) :
 Calls Tryz.prog 74 #[v] w fun e w'=>∃ v',e=.returned v'∧Own w.heap.size w' v' ms∧Below w.heap.size w w':=by
 obtain ⟨a,cap,rfl,hs,h⟩:=h
 obtain ⟨i0,hi0,hz0,hzs,hzb⟩:=info_parts Tryz.info109
 cases a with
 | none=>
   have he:ms=[]:=by
    rcases h with h | ⟨b,off,h,_⟩
    ·exact h
    ·cases h
   subst he
   clear h hs
   have hnil:=fun (w:World)=>Lib.run_eql_slice_nil (P:=Tryz.prog) w 49 109 none 0 cap 0 0 Tryz.underlying49
   simp only [List.length_nil,Option.isNone_none] at hnil ⊢
   go_enter Tryz.func74,Tryz.ntmps74
   go_wp2_with fail
   go_ret
   exact ⟨_,rfl,own_nil _ _,Below.refl _ _⟩
 | some a=>
   have hnil:=fun (w:World)=>Lib.run_eql_slice_nil (P:=Tryz.prog) w 49 109 (some a) ms.length cap 0 0 Tryz.underlying49
   simp only [Option.isNone_some] at hnil
   have hnews:Hid (∀ j u,(fl ms)[j]?=some u→(w.alloc (.cells #[] 109)).cell? (a.add j)=some u):=by
    intro j u hj
    rcases h with h | ⟨b,off,h,hb,hr⟩
    ·subst h;simp [fl] at hj
    ·cases h
     have hjl:j < ms.length * 6:=by rw [← fl_len];exact (List.getElem?_eq_some_iff.1 hj).1
     have h1:=fl_get ms (j / 6) (by omega) (j%6) (by omega)
     rw [show j / 6 * 6+j%6=j by omega,hj] at h1
     rw [Addr.add_lit,World.cell?_alloc_past (w:=w) _ b _ hb]
     obtain ⟨c0,c1,c2,c3,c4,c5⟩:=hr (j / 6) (by omega)
     have hcs:j%6=0∨j%6=1∨j%6=2∨j%6=3∨j%6=4∨j%6=5:=by omega
     rcases hcs with e | e | e | e | e | e
     ·rw [show off+j=off+j / 6 * 6 by omega,c0];rw [e] at h1;simpa [Whe.cs] using h1.symm
     ·rw [show off+j=off+j / 6 * 6+1 by omega,c1];rw [e] at h1;simpa [Whe.cs] using h1.symm
     ·rw [show off+j=off+j / 6 * 6+2 by omega,c2];rw [e] at h1;simpa [Whe.cs] using h1.symm
     ·rw [show off+j=off+j / 6 * 6+3 by omega,c3];rw [e] at h1;simpa [Whe.cs] using h1.symm
     ·rw [show off+j=off+j / 6 * 6+4 by omega,c4];rw [e] at h1;simpa [Whe.cs] using h1.symm
     ·rw [show off+j=off+j / 6 * 6+5 by omega,c5];rw [e] at h1;simpa [Whe.cs] using h1.symm
   have HO:Hid ((w.alloc (.cells #[] 109)).ownsRow w.heap.size 109 6 (.slice (some ⟨w.heap.size,0,none⟩) 0 0) 0 []):=World.ownsRow_made w #[] 0 (Nat.le_refl _) (by unfold maxLen;omega) rfl
   clear h hs
   go_enter Tryz.func74,Tryz.ntmps74
   go_wp2_with (at_builtin;refine wpList_append_own _ rfl _ _ 49 rfl w.heap.size 109 i0 _ 6 56 Tryz.underlying49 hi0 hz0 hzs hzb rfl (by omega) _ 0 [] rfl HO.out a ms.length cap (fl ms) rfl (fl_len ms) hnews.out (fl_one ms) (by unfold maxLen;omega) (by omega) (by simp) ?_)
   intro v' w' r1 r2 r3
   go_wp2_with fail
   go_ret
   refine ⟨v',rfl,?_,?_⟩
   ·simpa using r1
   ·exact ((Below.refl _ _).alloc (Nat.le_refl _) _).grown r2 (by simp) (fun k hk=>by simp [Value.ownBlock] at hk;omega)
end Wh
end Go.Proofs.YtffdoiokmiklgaaGreatDoor
namespace Go.Proofs.YtffdoiokmiklgaaGreatDoor
open Go.RowKit
theorem cells12 {W:World} {b:Nat} {T:TypeId} {f:Nat × Nat} {c0 c1 c2 c3 c4 c5 c6 c7 c8 c9 c10 c11:Value} (h:W.heap[b]?=some (.cells #[c0,c1,c2,c3,c4,c5,c6,c7,c8,c9,c10,c11] T f)):W.cell? ⟨b,0,none⟩=some c0∧W.cell? ⟨b,1,none⟩=some c1∧W.cell? ⟨b,2,none⟩=some c2∧W.cell? ⟨b,3,none⟩=some c3∧W.cell? ⟨b,4,none⟩=some c4∧W.cell? ⟨b,5,none⟩=some c5∧W.cell? ⟨b,6,none⟩=some c6∧W.cell? ⟨b,7,none⟩=some c7∧W.cell? ⟨b,8,none⟩=some c8∧W.cell? ⟨b,9,none⟩=some c9∧W.cell? ⟨b,10,none⟩=some c10∧W.cell? ⟨b,11,none⟩=some c11:=⟨cellsAt h 0,cellsAt h 1,cellsAt h 2,cellsAt h 3,cellsAt h 4,cellsAt h 5,cellsAt h 6,cellsAt h 7,cellsAt h 8,cellsAt h 9,cellsAt h 10,cellsAt h 11⟩
theorem frz12 {W:World} {b:Nat} {T:TypeId} {cs:Array Value} (h:W.heap[b]?=some (.cells cs T (0,0))):W.frozen? ⟨b,0,none⟩=false∧W.frozen? ⟨b,1,none⟩=false∧W.frozen? ⟨b,2,none⟩=false∧W.frozen? ⟨b,3,none⟩=false∧W.frozen? ⟨b,4,none⟩=false∧W.frozen? ⟨b,5,none⟩=false∧W.frozen? ⟨b,6,none⟩=false∧W.frozen? ⟨b,7,none⟩=false∧W.frozen? ⟨b,8,none⟩=false∧W.frozen? ⟨b,9,none⟩=false∧W.frozen? ⟨b,10,none⟩=false∧W.frozen? ⟨b,11,none⟩=false:=by simp [World.frozen?,h]
theorem cells6 {W:World} {b:Nat} {T:TypeId} {f:Nat × Nat} {c0 c1 c2 c3 c4 c5:Value} (h:W.heap[b]?=some (.cells #[c0,c1,c2,c3,c4,c5] T f)):W.cell? ⟨b,0,none⟩=some c0∧W.cell? ⟨b,1,none⟩=some c1∧W.cell? ⟨b,2,none⟩=some c2∧W.cell? ⟨b,3,none⟩=some c3∧W.cell? ⟨b,4,none⟩=some c4∧W.cell? ⟨b,5,none⟩=some c5:=⟨cellsAt h 0,cellsAt h 1,cellsAt h 2,cellsAt h 3,cellsAt h 4,cellsAt h 5⟩
theorem frz6 {W:World} {b:Nat} {T:TypeId} {cs:Array Value} (h:W.heap[b]?=some (.cells cs T (0,0))):W.frozen? ⟨b,0,none⟩=false∧W.frozen? ⟨b,1,none⟩=false∧W.frozen? ⟨b,2,none⟩=false∧W.frozen? ⟨b,3,none⟩=false∧W.frozen? ⟨b,4,none⟩=false∧W.frozen? ⟨b,5,none⟩=false:=by simp [World.frozen?,h]
theorem cells5 {W:World} {b:Nat} {T:TypeId} {f:Nat × Nat} {c0 c1 c2 c3 c4:Value} (h:W.heap[b]?=some (.cells #[c0,c1,c2,c3,c4] T f)):W.cell? ⟨b,0,none⟩=some c0∧W.cell? ⟨b,1,none⟩=some c1∧W.cell? ⟨b,2,none⟩=some c2∧W.cell? ⟨b,3,none⟩=some c3∧W.cell? ⟨b,4,none⟩=some c4:=⟨cellsAt h 0,cellsAt h 1,cellsAt h 2,cellsAt h 3,cellsAt h 4⟩
theorem below_set12 {B b:Nat} {a w:World} (h:Below B a w) (hb:B≤b) (x0 x1 x2 x3 x4 x5 x6 x7 x8 x9 x10 x11:Value):Below B a ((((((((((((w.setCell ⟨b,0,none⟩ x0).setCell ⟨b,1,none⟩ x1).setCell ⟨b,2,none⟩ x2).setCell ⟨b,3,none⟩ x3).setCell ⟨b,4,none⟩ x4).setCell ⟨b,5,none⟩ x5).setCell ⟨b,6,none⟩ x6).setCell ⟨b,7,none⟩ x7).setCell ⟨b,8,none⟩ x8).setCell ⟨b,9,none⟩ x9).setCell ⟨b,10,none⟩ x10).setCell ⟨b,11,none⟩ x11):=((((((((((((h).setCell (p:=⟨b,0,none⟩) hb _).setCell (p:=⟨b,1,none⟩) hb _).setCell (p:=⟨b,2,none⟩) hb _).setCell (p:=⟨b,3,none⟩) hb _).setCell (p:=⟨b,4,none⟩) hb _).setCell (p:=⟨b,5,none⟩) hb _).setCell (p:=⟨b,6,none⟩) hb _).setCell (p:=⟨b,7,none⟩) hb _).setCell (p:=⟨b,8,none⟩) hb _).setCell (p:=⟨b,9,none⟩) hb _).setCell (p:=⟨b,10,none⟩) hb _).setCell (p:=⟨b,11,none⟩) hb _
theorem owns_set12 {base b n k:Nat} {T:TypeId} {w:World} {v:Value} {xs:List Value} (h:w.ownsRow base T k v n xs) (hb:b < base) (x0 x1 x2 x3 x4 x5 x6 x7 x8 x9 x10 x11:Value):((((((((((((w.setCell ⟨b,0,none⟩ x0).setCell ⟨b,1,none⟩ x1).setCell ⟨b,2,none⟩ x2).setCell ⟨b,3,none⟩ x3).setCell ⟨b,4,none⟩ x4).setCell ⟨b,5,none⟩ x5).setCell ⟨b,6,none⟩ x6).setCell ⟨b,7,none⟩ x7).setCell ⟨b,8,none⟩ x8).setCell ⟨b,9,none⟩ x9).setCell ⟨b,10,none⟩ x10).setCell ⟨b,11,none⟩ x11).ownsRow base T k v n xs:=ownsRow_setCell_below (ownsRow_setCell_below (ownsRow_setCell_below (ownsRow_setCell_below (ownsRow_setCell_below (ownsRow_setCell_below (ownsRow_setCell_below (ownsRow_setCell_below (ownsRow_setCell_below (ownsRow_setCell_below (ownsRow_setCell_below (ownsRow_setCell_below (h) (a:=⟨b,0,none⟩) hb _) (a:=⟨b,1,none⟩) hb _) (a:=⟨b,2,none⟩) hb _) (a:=⟨b,3,none⟩) hb _) (a:=⟨b,4,none⟩) hb _) (a:=⟨b,5,none⟩) hb _) (a:=⟨b,6,none⟩) hb _) (a:=⟨b,7,none⟩) hb _) (a:=⟨b,8,none⟩) hb _) (a:=⟨b,9,none⟩) hb _) (a:=⟨b,10,none⟩) hb _) (a:=⟨b,11,none⟩) hb _
structure NdOwn (B:Nat) (w:World) (n:Nd) (vm vr vs vg vw:Value):Prop where
 ms:Own B w vm n.ms
 rs:ROwn B w vr n.rs
 sv:Sv.Own B w vs n.sv
 gw:Gw.Own B w vg n.gw
 wh:Wh.Own B w vw n.wh
theorem own_slice {base n k:Nat} {T:TypeId} {w:World} {v:Value} {xs:List Value} (h:w.ownsRow base T k v n xs):∃ a c,v=.slice a n c∧n≤c:=by
 rcases h.2 with ⟨h1,h2⟩ | ⟨g,c,cur,h1,_,_,hn,_⟩
 ·subst h2;exact ⟨none,0,h1,Nat.le_refl _⟩
 ·exact ⟨_,c,h1,hn⟩
theorem NdOwn.below {B:Nat} {w w':World} {n:Nd} {vm vr vs vg vw:Value} (h:NdOwn B w n vm vr vs vg vw) (hb:Below w.heap.size w w'):NdOwn B w' n vm vr vs vg vw:=⟨h.ms.below hb,h.rs.below hb,h.sv.below hb,h.gw.below hb,h.wh.below hb⟩
structure NdOk (n:Nd):Prop where
 ms:∀ m∈n.ms,m.name.size≤maxLen
 rs:∀ r∈n.rs,r.m.name.size≤maxLen
 sv:∀ m∈n.sv,m.ok
 gw:∀ m∈n.gw,m.ok
 wh:∀ m∈n.wh,m.ok
 name:n.name.size≤maxLen
 centre:n.centre.size≤maxLen
theorem NdIs.ok {w:World} {n:Nd} {vm vr vs vg vw:Value} (h:NdIs w n vm vr vs vg vw):NdOk n:=by
 obtain ⟨⟨_,_,_,h1,_⟩,⟨_,_,_,h2,_⟩,⟨_,_,_,h3,_⟩,⟨_,_,_,h4,_⟩,⟨_,_,_,h5,_⟩,h6,h7⟩:=h
 exact ⟨ns_mem h1,rns_mem h2,Sv.ns_mem h3,Gw.ns_mem h4,Wh.ns_mem h5,h6,h7⟩
theorem NdOwn.is {B:Nat} {w:World} {n:Nd} {vm vr vs vg vw:Value} (h:NdOwn B w n vm vr vs vg vw) (hk:NdOk n):NdIs w n vm vr vs vg vw:=
 ⟨h.ms.sl (ns_get hk.ms),h.rs.sl (rns_get hk.rs),h.sv.sl (Sv.ns_get hk.sv),h.gw.sl (Gw.ns_get hk.gw),h.wh.sl (Wh.ns_get hk.wh),hk.name,hk.centre⟩
set_option maxHeartbeats 12800000 in
set_option maxRecDepth 100000 in
theorem fresh_any (n:Nd) (vm vr vs vg vw:Value) (w:World) (h:NdIs w n vm vr vs vg vw) (l1:n.ms.length≤1000) (l2:n.rs.length≤1000) (l3:n.sv.length≤1000) (l4:n.gw.length≤1000) (l5:n.wh.length≤1000) :
 Calls Tryz.prog 36 #[.agg (ndA n vm vr vs vg vw)] w fun e w'=>∃ um ur us ug uw,e=.returned (.agg (ndA n um ur us ug uw))∧NdOwn w.heap.size w' n um ur us ug uw∧Below w.heap.size w w':=by
 obtain ⟨nm,ct,ms,rs,sv,gw,⟨px,py,pz,ph,pq⟩,wh⟩:=n
 obtain ⟨hm,hr,hs,hgw,hh,_,_⟩:=h
 simp only at hm hr hs hgw hh l1 l2 l3 l4 l5
 have Hm:Hid (∀ W,Below w.heap.size w W→Calls Tryz.prog 70 #[vm] W fun e w'=>∃ v',e=.returned v'∧Own W.heap.size w' v' ms∧Below W.heap.size W w'):=fun W hW=>clone_any ms vm W (hm.below hW) l1
 have Hr:Hid (∀ W,Below w.heap.size w W→Calls Tryz.prog 71 #[vr] W fun e w'=>∃ v',e=.returned v'∧ROwn W.heap.size w' v' rs∧Below W.heap.size W w'):=fun W hW=>rclone_any rs vr W (hr.below hW) l2
 have Hs:Hid (∀ W,Below w.heap.size w W→Calls Tryz.prog 72 #[vs] W fun e w'=>∃ v',e=.returned v'∧Sv.Own W.heap.size w' v' sv∧Below W.heap.size W w'):=fun W hW=>Sv.clone_any sv vs W (hs.below hW) l3
 have Hg:Hid (∀ W,Below w.heap.size w W→Calls Tryz.prog 73 #[vg] W fun e w'=>∃ v',e=.returned v'∧Gw.Own W.heap.size w' v' gw∧Below W.heap.size W w'):=fun W hW=>Gw.clone_any gw vg W (hgw.below hW) l4
 have Hh:Hid (∀ W,Below w.heap.size w W→Calls Tryz.prog 74 #[vw] W fun e w'=>∃ v',e=.returned v'∧Wh.Own W.heap.size w' v' wh∧Below W.heap.size W w'):=fun W hW=>Wh.clone_any wh vw W (hh.below hW) l5
 obtain ⟨em,cm,rfl,_,_⟩:=hm
 obtain ⟨er,cr,rfl,_,_⟩:=hr
 obtain ⟨es,cs,rfl,_,_⟩:=hs
 obtain ⟨eg,cg,rfl,_,_⟩:=hgw
 obtain ⟨eh,ch,rfl,_,_⟩:=hh
 generalize hNm:ms.length=km at *
 have HNm:Hid (ms.length=km):=hNm
 clear hNm
 generalize hNr:rs.length=kr at *
 have HNr:Hid (rs.length=kr):=hNr
 clear hNr
 generalize hNs:sv.length=ks at *
 have HNs:Hid (sv.length=ks):=hNs
 clear hNs
 generalize hNg:gw.length=kg at *
 have HNg:Hid (gw.length=kg):=hNg
 clear hNg
 generalize hNh:wh.length=kh at *
 have HNh:Hid (wh.length=kh):=hNh
 clear hNh
 simp only [ndA]
 obtain ⟨W0,hW0⟩:∃ W0,W0=(w.alloc (.cells #[.string nm,.string ct,.slice em km cm,.slice er kr cr,.slice es ks cs,.slice eg kg cg,.int .i64 px,.int .i64 py,.int .i64 pz,.int .i64 ph,.int .i64 pq,.slice eh kh ch] 51)).alloc (.cells #[.string ⟨#[]⟩,.string ⟨#[]⟩,.slice none 0 0,.slice none 0 0,.slice none 0 0,.slice none 0 0,.int .i64 0,.int .i64 0,.int .i64 0,.int .i64 0,.int .i64 0,.slice none 0 0] 51):=⟨_,rfl⟩
 have hb0:Below w.heap.size w W0:=by rw [hW0];exact ((Below.refl _ _).alloc (Nat.le_refl _) _).alloc (by simp) _
 have hg0:W0.heap[w.heap.size]?=some (.cells #[.string nm,.string ct,.slice em km cm,.slice er kr cr,.slice es ks cs,.slice eg kg cg,.int .i64 px,.int .i64 py,.int .i64 pz,.int .i64 ph,.int .i64 pq,.slice eh kh ch] 51 (0,0)):=by
  rw [hW0,Below.heap_alloc _ _ _ (by simp)];exact heap_alloc_new w _
 have hz0:W0.heap[w.heap.size+1]?=some (.cells #[.string ⟨#[]⟩,.string ⟨#[]⟩,.slice none 0 0,.slice none 0 0,.slice none 0 0,.slice none 0 0,.int .i64 0,.int .i64 0,.int .i64 0,.int .i64 0,.int .i64 0,.slice none 0 0] 51 (0,0)):=by
  have h:=heap_alloc_new (w.alloc (.cells #[.string nm,.string ct,.slice em km cm,.slice er kr cr,.slice es ks cs,.slice eg kg cg,.int .i64 px,.int .i64 py,.int .i64 pz,.int .i64 ph,.int .i64 pq,.slice eh kh ch] 51)) (.cells #[.string ⟨#[]⟩,.string ⟨#[]⟩,.slice none 0 0,.slice none 0 0,.slice none 0 0,.slice none 0 0,.int .i64 0,.int .i64 0,.int .i64 0,.int .i64 0,.int .i64 0,.slice none 0 0] 51)
  rw [hW0];simpa using h
 have hs0:w.heap.size+1 < W0.heap.size:=by rw [hW0];simp
 have HB0:Hid (Below w.heap.size w W0):=hb0
 have HG0:Hid (W0.heap[w.heap.size]?=some (.cells #[.string nm,.string ct,.slice em km cm,.slice er kr cr,.slice es ks cs,.slice eg kg cg,.int .i64 px,.int .i64 py,.int .i64 pz,.int .i64 ph,.int .i64 pq,.slice eh kh ch] 51 (0,0))):=hg0
 have HZ0:Hid (W0.heap[w.heap.size+1]?=some (.cells #[.string ⟨#[]⟩,.string ⟨#[]⟩,.slice none 0 0,.slice none 0 0,.slice none 0 0,.slice none 0 0,.int .i64 0,.int .i64 0,.int .i64 0,.int .i64 0,.int .i64 0,.slice none 0 0] 51 (0,0))):=hz0
 clear hb0 hg0 hz0
 go_enter Tryz.func36,Tryz.ntmps36
 go_wp2_with fail
 rw [← hW0]
 clear hW0
 refine (Hm.out W0 HB0.out).mono ?_
 rintro e X1 ⟨v',rfl,ho,hx⟩
 obtain ⟨bm,dm',hv',_⟩:=own_slice ho
 rw [HNm.out] at hv'
 subst hv'
 have hgx:X1.heap[w.heap.size]?=some (.cells #[.string nm,.string ct,.slice em km cm,.slice er kr cr,.slice es ks cs,.slice eg kg cg,.int .i64 px,.int .i64 py,.int .i64 pz,.int .i64 ph,.int .i64 pq,.slice eh kh ch] 51 (0,0)):=(hx.block _ (by omega)).trans HG0.out
 obtain ⟨y0,y1,y2,y3,y4,y5,y6,y7,y8,y9,y10,y11⟩:=cells12 hgx
 have z2:X1.frozen? ⟨w.heap.size,2,none⟩=false:=by simp [World.frozen?,hgx]
 have hsx:w.heap.size < X1.heap.size:=by have:=hx.size;omega
 obtain ⟨W1,hW1⟩:∃ W1,W1=X1.setCell ⟨w.heap.size,2,none⟩ (.slice bm km dm'):=⟨_,rfl⟩
 have HG1:Hid (W1.heap[w.heap.size]?=some (.cells #[.string nm,.string ct,.slice bm km dm',.slice er kr cr,.slice es ks cs,.slice eg kg cg,.int .i64 px,.int .i64 py,.int .i64 pz,.int .i64 ph,.int .i64 pq,.slice eh kh ch] 51 (0,0))):=by rw [hW1];exact Joins.block_setCell (i:=2) hgx _
 have HZ1:Hid (W1.heap[w.heap.size+1]?=some (.cells #[.string ⟨#[]⟩,.string ⟨#[]⟩,.slice none 0 0,.slice none 0 0,.slice none 0 0,.slice none 0 0,.int .i64 0,.int .i64 0,.int .i64 0,.int .i64 0,.int .i64 0,.slice none 0 0] 51 (0,0))):=by rw [hW1];exact (Below.heap_setCell _ _ _ _ (by simp)).trans ((hx.block _ (by omega)).trans HZ0.out)
 have HOm1:Hid (Own (w.heap.size+2) W1 (.slice bm km dm') ms):=by rw [hW1];exact ownsRow_setCell_below (ho.mono (by omega)) (by simp) _
 have HB1:Hid (Below w.heap.size w W1):=by rw [hW1];exact (HB0.out.trans (hx.mono HB0.out.size)).setCell (p:=⟨w.heap.size,2,none⟩) (by simp) _
 have hs1:w.heap.size+1 < W1.heap.size:=(Array.getElem?_eq_some_iff.1 HZ1.out).1
 clear ho hx hgx hs0
 go_wp2_with fail
 rw [← hW1]
 clear hW1 y0 y1 y2 y3 y4 y5 y6 y7 y8 y9 y10 y11 z2 hsx
 refine (Hr.out W1 HB1.out).mono ?_
 rintro e X2 ⟨v',rfl,ho,hx⟩
 obtain ⟨br,dr',hv',_⟩:=own_slice ho
 rw [HNr.out] at hv'
 subst hv'
 have hgx:X2.heap[w.heap.size]?=some (.cells #[.string nm,.string ct,.slice bm km dm',.slice er kr cr,.slice es ks cs,.slice eg kg cg,.int .i64 px,.int .i64 py,.int .i64 pz,.int .i64 ph,.int .i64 pq,.slice eh kh ch] 51 (0,0)):=(hx.block _ (by omega)).trans HG1.out
 obtain ⟨y0,y1,y2,y3,y4,y5,y6,y7,y8,y9,y10,y11⟩:=cells12 hgx
 have z3:X2.frozen? ⟨w.heap.size,3,none⟩=false:=by simp [World.frozen?,hgx]
 have hsx:w.heap.size < X2.heap.size:=by have:=hx.size;omega
 obtain ⟨W2,hW2⟩:∃ W2,W2=X2.setCell ⟨w.heap.size,3,none⟩ (.slice br kr dr'):=⟨_,rfl⟩
 have HG2:Hid (W2.heap[w.heap.size]?=some (.cells #[.string nm,.string ct,.slice bm km dm',.slice br kr dr',.slice es ks cs,.slice eg kg cg,.int .i64 px,.int .i64 py,.int .i64 pz,.int .i64 ph,.int .i64 pq,.slice eh kh ch] 51 (0,0))):=by rw [hW2];exact Joins.block_setCell (i:=3) hgx _
 have HZ2:Hid (W2.heap[w.heap.size+1]?=some (.cells #[.string ⟨#[]⟩,.string ⟨#[]⟩,.slice none 0 0,.slice none 0 0,.slice none 0 0,.slice none 0 0,.int .i64 0,.int .i64 0,.int .i64 0,.int .i64 0,.int .i64 0,.slice none 0 0] 51 (0,0))):=by rw [hW2];exact (Below.heap_setCell _ _ _ _ (by simp)).trans ((hx.block _ (by omega)).trans HZ1.out)
 have HOr2:Hid (ROwn (w.heap.size+2) W2 (.slice br kr dr') rs):=by rw [hW2];exact ownsRow_setCell_below (ho.base (by omega)) (by simp) _
 have HOm2:Hid (Own (w.heap.size+2) W2 (.slice bm km dm') ms):=by rw [hW2];exact ownsRow_setCell_below (HOm1.out.below hx) (by simp) _
 have HB2:Hid (Below w.heap.size w W2):=by rw [hW2];exact (HB1.out.trans (hx.mono HB1.out.size)).setCell (p:=⟨w.heap.size,3,none⟩) (by simp) _
 have hs2:w.heap.size+1 < W2.heap.size:=(Array.getElem?_eq_some_iff.1 HZ2.out).1
 clear ho hx hgx hs1
 go_wp2_with fail
 rw [← hW2]
 clear hW2 y0 y1 y2 y3 y4 y5 y6 y7 y8 y9 y10 y11 z3 hsx
 refine (Hs.out W2 HB2.out).mono ?_
 rintro e X3 ⟨v',rfl,ho,hx⟩
 obtain ⟨bs,ds',hv',_⟩:=own_slice ho
 rw [HNs.out] at hv'
 subst hv'
 have hgx:X3.heap[w.heap.size]?=some (.cells #[.string nm,.string ct,.slice bm km dm',.slice br kr dr',.slice es ks cs,.slice eg kg cg,.int .i64 px,.int .i64 py,.int .i64 pz,.int .i64 ph,.int .i64 pq,.slice eh kh ch] 51 (0,0)):=(hx.block _ (by omega)).trans HG2.out
 obtain ⟨y0,y1,y2,y3,y4,y5,y6,y7,y8,y9,y10,y11⟩:=cells12 hgx
 have z4:X3.frozen? ⟨w.heap.size,4,none⟩=false:=by simp [World.frozen?,hgx]
 have hsx:w.heap.size < X3.heap.size:=by have:=hx.size;omega
 obtain ⟨W3,hW3⟩:∃ W3,W3=X3.setCell ⟨w.heap.size,4,none⟩ (.slice bs ks ds'):=⟨_,rfl⟩
 have HG3:Hid (W3.heap[w.heap.size]?=some (.cells #[.string nm,.string ct,.slice bm km dm',.slice br kr dr',.slice bs ks ds',.slice eg kg cg,.int .i64 px,.int .i64 py,.int .i64 pz,.int .i64 ph,.int .i64 pq,.slice eh kh ch] 51 (0,0))):=by rw [hW3];exact Joins.block_setCell (i:=4) hgx _
 have HZ3:Hid (W3.heap[w.heap.size+1]?=some (.cells #[.string ⟨#[]⟩,.string ⟨#[]⟩,.slice none 0 0,.slice none 0 0,.slice none 0 0,.slice none 0 0,.int .i64 0,.int .i64 0,.int .i64 0,.int .i64 0,.int .i64 0,.slice none 0 0] 51 (0,0))):=by rw [hW3];exact (Below.heap_setCell _ _ _ _ (by simp)).trans ((hx.block _ (by omega)).trans HZ2.out)
 have HOs3:Hid (Sv.Own (w.heap.size+2) W3 (.slice bs ks ds') sv):=by rw [hW3];exact ownsRow_setCell_below (ho.mono (by omega)) (by simp) _
 have HOm3:Hid (Own (w.heap.size+2) W3 (.slice bm km dm') ms):=by rw [hW3];exact ownsRow_setCell_below (HOm2.out.below hx) (by simp) _
 have HOr3:Hid (ROwn (w.heap.size+2) W3 (.slice br kr dr') rs):=by rw [hW3];exact ownsRow_setCell_below (HOr2.out.below hx) (by simp) _
 have HB3:Hid (Below w.heap.size w W3):=by rw [hW3];exact (HB2.out.trans (hx.mono HB2.out.size)).setCell (p:=⟨w.heap.size,4,none⟩) (by simp) _
 have hs3:w.heap.size+1 < W3.heap.size:=(Array.getElem?_eq_some_iff.1 HZ3.out).1
 clear ho hx hgx hs2
 go_wp2_with fail
 rw [← hW3]
 clear hW3 y0 y1 y2 y3 y4 y5 y6 y7 y8 y9 y10 y11 z4 hsx
 refine (Hg.out W3 HB3.out).mono ?_
 rintro e X4 ⟨v',rfl,ho,hx⟩
 obtain ⟨bg,dg',hv',_⟩:=own_slice ho
 rw [HNg.out] at hv'
 subst hv'
 have hgx:X4.heap[w.heap.size]?=some (.cells #[.string nm,.string ct,.slice bm km dm',.slice br kr dr',.slice bs ks ds',.slice eg kg cg,.int .i64 px,.int .i64 py,.int .i64 pz,.int .i64 ph,.int .i64 pq,.slice eh kh ch] 51 (0,0)):=(hx.block _ (by omega)).trans HG3.out
 obtain ⟨y0,y1,y2,y3,y4,y5,y6,y7,y8,y9,y10,y11⟩:=cells12 hgx
 have z5:X4.frozen? ⟨w.heap.size,5,none⟩=false:=by simp [World.frozen?,hgx]
 have hsx:w.heap.size < X4.heap.size:=by have:=hx.size;omega
 obtain ⟨W4,hW4⟩:∃ W4,W4=X4.setCell ⟨w.heap.size,5,none⟩ (.slice bg kg dg'):=⟨_,rfl⟩
 have HG4:Hid (W4.heap[w.heap.size]?=some (.cells #[.string nm,.string ct,.slice bm km dm',.slice br kr dr',.slice bs ks ds',.slice bg kg dg',.int .i64 px,.int .i64 py,.int .i64 pz,.int .i64 ph,.int .i64 pq,.slice eh kh ch] 51 (0,0))):=by rw [hW4];exact Joins.block_setCell (i:=5) hgx _
 have HZ4:Hid (W4.heap[w.heap.size+1]?=some (.cells #[.string ⟨#[]⟩,.string ⟨#[]⟩,.slice none 0 0,.slice none 0 0,.slice none 0 0,.slice none 0 0,.int .i64 0,.int .i64 0,.int .i64 0,.int .i64 0,.int .i64 0,.slice none 0 0] 51 (0,0))):=by rw [hW4];exact (Below.heap_setCell _ _ _ _ (by simp)).trans ((hx.block _ (by omega)).trans HZ3.out)
 have HOg4:Hid (Gw.Own (w.heap.size+2) W4 (.slice bg kg dg') gw):=by rw [hW4];exact ownsRow_setCell_below (ho.mono (by omega)) (by simp) _
 have HOm4:Hid (Own (w.heap.size+2) W4 (.slice bm km dm') ms):=by rw [hW4];exact ownsRow_setCell_below (HOm3.out.below hx) (by simp) _
 have HOr4:Hid (ROwn (w.heap.size+2) W4 (.slice br kr dr') rs):=by rw [hW4];exact ownsRow_setCell_below (HOr3.out.below hx) (by simp) _
 have HOs4:Hid (Sv.Own (w.heap.size+2) W4 (.slice bs ks ds') sv):=by rw [hW4];exact ownsRow_setCell_below (HOs3.out.below hx) (by simp) _
 have HB4:Hid (Below w.heap.size w W4):=by rw [hW4];exact (HB3.out.trans (hx.mono HB3.out.size)).setCell (p:=⟨w.heap.size,5,none⟩) (by simp) _
 have hs4:w.heap.size+1 < W4.heap.size:=(Array.getElem?_eq_some_iff.1 HZ4.out).1
 clear ho hx hgx hs3
 go_wp2_with fail
 rw [← hW4]
 clear hW4 y0 y1 y2 y3 y4 y5 y6 y7 y8 y9 y10 y11 z5 hsx
 refine (Hh.out W4 HB4.out).mono ?_
 rintro e X5 ⟨v',rfl,ho,hx⟩
 obtain ⟨bh,dh',hv',_⟩:=own_slice ho
 rw [HNh.out] at hv'
 subst hv'
 have hgx:X5.heap[w.heap.size]?=some (.cells #[.string nm,.string ct,.slice bm km dm',.slice br kr dr',.slice bs ks ds',.slice bg kg dg',.int .i64 px,.int .i64 py,.int .i64 pz,.int .i64 ph,.int .i64 pq,.slice eh kh ch] 51 (0,0)):=(hx.block _ (by omega)).trans HG4.out
 obtain ⟨y0,y1,y2,y3,y4,y5,y6,y7,y8,y9,y10,y11⟩:=cells12 hgx
 have z11:X5.frozen? ⟨w.heap.size,11,none⟩=false:=by simp [World.frozen?,hgx]
 have hsx:w.heap.size < X5.heap.size:=by have:=hx.size;omega
 obtain ⟨W5,hW5⟩:∃ W5,W5=X5.setCell ⟨w.heap.size,11,none⟩ (.slice bh kh dh'):=⟨_,rfl⟩
 have HG5:Hid (W5.heap[w.heap.size]?=some (.cells #[.string nm,.string ct,.slice bm km dm',.slice br kr dr',.slice bs ks ds',.slice bg kg dg',.int .i64 px,.int .i64 py,.int .i64 pz,.int .i64 ph,.int .i64 pq,.slice bh kh dh'] 51 (0,0))):=by rw [hW5];exact Joins.block_setCell (i:=11) hgx _
 have HZ5:Hid (W5.heap[w.heap.size+1]?=some (.cells #[.string ⟨#[]⟩,.string ⟨#[]⟩,.slice none 0 0,.slice none 0 0,.slice none 0 0,.slice none 0 0,.int .i64 0,.int .i64 0,.int .i64 0,.int .i64 0,.int .i64 0,.slice none 0 0] 51 (0,0))):=by rw [hW5];exact (Below.heap_setCell _ _ _ _ (by simp)).trans ((hx.block _ (by omega)).trans HZ4.out)
 have HOh5:Hid (Wh.Own (w.heap.size+2) W5 (.slice bh kh dh') wh):=by rw [hW5];exact ownsRow_setCell_below (ho.mono (by omega)) (by simp) _
 have HOm5:Hid (Own (w.heap.size+2) W5 (.slice bm km dm') ms):=by rw [hW5];exact ownsRow_setCell_below (HOm4.out.below hx) (by simp) _
 have HOr5:Hid (ROwn (w.heap.size+2) W5 (.slice br kr dr') rs):=by rw [hW5];exact ownsRow_setCell_below (HOr4.out.below hx) (by simp) _
 have HOs5:Hid (Sv.Own (w.heap.size+2) W5 (.slice bs ks ds') sv):=by rw [hW5];exact ownsRow_setCell_below (HOs4.out.below hx) (by simp) _
 have HOg5:Hid (Gw.Own (w.heap.size+2) W5 (.slice bg kg dg') gw):=by rw [hW5];exact ownsRow_setCell_below (HOg4.out.below hx) (by simp) _
 have HB5:Hid (Below w.heap.size w W5):=by rw [hW5];exact (HB4.out.trans (hx.mono HB4.out.size)).setCell (p:=⟨w.heap.size,11,none⟩) (by simp) _
 have hs5:w.heap.size+1 < W5.heap.size:=(Array.getElem?_eq_some_iff.1 HZ5.out).1
 have hz5:=HZ5.out
 have q0:W5.cell? ⟨w.heap.size+1,0,none⟩=_:=cellsAt hz5 0
 have p0:W5.cell? ⟨w.heap.size,0,none⟩=_:=cellsAt HG5.out 0
 have zz0:W5.frozen? ⟨w.heap.size+1,0,none⟩=false:=by simp [World.frozen?,hz5]
 have q1:W5.cell? ⟨w.heap.size+1,1,none⟩=_:=cellsAt hz5 1
 have p1:W5.cell? ⟨w.heap.size,1,none⟩=_:=cellsAt HG5.out 1
 have zz1:W5.frozen? ⟨w.heap.size+1,1,none⟩=false:=by simp [World.frozen?,hz5]
 have q2:W5.cell? ⟨w.heap.size+1,2,none⟩=_:=cellsAt hz5 2
 have p2:W5.cell? ⟨w.heap.size,2,none⟩=_:=cellsAt HG5.out 2
 have zz2:W5.frozen? ⟨w.heap.size+1,2,none⟩=false:=by simp [World.frozen?,hz5]
 have q3:W5.cell? ⟨w.heap.size+1,3,none⟩=_:=cellsAt hz5 3
 have p3:W5.cell? ⟨w.heap.size,3,none⟩=_:=cellsAt HG5.out 3
 have zz3:W5.frozen? ⟨w.heap.size+1,3,none⟩=false:=by simp [World.frozen?,hz5]
 have q4:W5.cell? ⟨w.heap.size+1,4,none⟩=_:=cellsAt hz5 4
 have p4:W5.cell? ⟨w.heap.size,4,none⟩=_:=cellsAt HG5.out 4
 have zz4:W5.frozen? ⟨w.heap.size+1,4,none⟩=false:=by simp [World.frozen?,hz5]
 have q5:W5.cell? ⟨w.heap.size+1,5,none⟩=_:=cellsAt hz5 5
 have p5:W5.cell? ⟨w.heap.size,5,none⟩=_:=cellsAt HG5.out 5
 have zz5:W5.frozen? ⟨w.heap.size+1,5,none⟩=false:=by simp [World.frozen?,hz5]
 have q6:W5.cell? ⟨w.heap.size+1,6,none⟩=_:=cellsAt hz5 6
 have p6:W5.cell? ⟨w.heap.size,6,none⟩=_:=cellsAt HG5.out 6
 have zz6:W5.frozen? ⟨w.heap.size+1,6,none⟩=false:=by simp [World.frozen?,hz5]
 have q7:W5.cell? ⟨w.heap.size+1,7,none⟩=_:=cellsAt hz5 7
 have p7:W5.cell? ⟨w.heap.size,7,none⟩=_:=cellsAt HG5.out 7
 have zz7:W5.frozen? ⟨w.heap.size+1,7,none⟩=false:=by simp [World.frozen?,hz5]
 have q8:W5.cell? ⟨w.heap.size+1,8,none⟩=_:=cellsAt hz5 8
 have p8:W5.cell? ⟨w.heap.size,8,none⟩=_:=cellsAt HG5.out 8
 have zz8:W5.frozen? ⟨w.heap.size+1,8,none⟩=false:=by simp [World.frozen?,hz5]
 have q9:W5.cell? ⟨w.heap.size+1,9,none⟩=_:=cellsAt hz5 9
 have p9:W5.cell? ⟨w.heap.size,9,none⟩=_:=cellsAt HG5.out 9
 have zz9:W5.frozen? ⟨w.heap.size+1,9,none⟩=false:=by simp [World.frozen?,hz5]
 have q10:W5.cell? ⟨w.heap.size+1,10,none⟩=_:=cellsAt hz5 10
 have p10:W5.cell? ⟨w.heap.size,10,none⟩=_:=cellsAt HG5.out 10
 have zz10:W5.frozen? ⟨w.heap.size+1,10,none⟩=false:=by simp [World.frozen?,hz5]
 have q11:W5.cell? ⟨w.heap.size+1,11,none⟩=_:=cellsAt hz5 11
 have p11:W5.cell? ⟨w.heap.size,11,none⟩=_:=cellsAt HG5.out 11
 have zz11:W5.frozen? ⟨w.heap.size+1,11,none⟩=false:=by simp [World.frozen?,hz5]
 clear ho hx hgx hs4 hz5
 go_upto_region 6 with fail
 rw [← hW5]
 clear hW5 y0 y1 y2 y3 y4 y5 y6 y7 y8 y9 y10 y11 z11 hsx
 go_wp2_with fail
 refine bodyPost_ret (v:=.agg #[.string nm,.string ct,.slice bm km dm',.slice br kr dr',.slice bs ks ds',.slice bg kg dg',.int .i64 px,.int .i64 py,.int .i64 pz,.int .i64 ph,.int .i64 pq,.slice bh kh dh']) ?_ rfl ⟨.slice bm km dm',.slice br kr dr',.slice bs ks ds',.slice bg kg dg',.slice bh kh dh',rfl,⟨?_,?_,?_,?_,?_⟩,?_⟩
 ·simp [results,Tryz.results36,go_sem,q0,q1,q2,q3,q4,q5,q6,q7,q8,q9,q10,q11]
 ·exact Own.mono (owns_set12 (HOm5.out) (by simp) _ _ _ _ _ _ _ _ _ _ _ _) (by omega)
 ·exact ROwn.base (owns_set12 (HOr5.out) (by simp) _ _ _ _ _ _ _ _ _ _ _ _) (by omega)
 ·exact Sv.Own.mono (owns_set12 (HOs5.out) (by simp) _ _ _ _ _ _ _ _ _ _ _ _) (by omega)
 ·exact Gw.Own.mono (owns_set12 (HOg5.out) (by simp) _ _ _ _ _ _ _ _ _ _ _ _) (by omega)
 ·exact Wh.Own.mono (owns_set12 (HOh5.out) (by simp) _ _ _ _ _ _ _ _ _ _ _ _) (by omega)
 ·exact below_set12 HB5.out (by simp) _ _ _ _ _ _ _ _ _ _ _ _
def posM (ms:List Mem) (t:ByteArray):Nat:=ms.findIdx fun m => !decide (cmpI m.name t < 0)
def isM (ms:List Mem) (t:ByteArray):Bool:=decide (posM ms t < ms.length) && decide (cmpI (ms.getD (posM ms t) dm).name t=0)
theorem at_pos {ms:List Mem} (hr:Rise ms) (t:ByteArray):At ms t (posM ms t) (isM ms t):=by
 have hget:∀ j (h:j < ms.length),ms.getD j dm=ms[j]:=fun j h=>by simp [List.getD,List.getElem?_eq_getElem h]
 refine ⟨List.findIdx_le_length,fun j hj=>?_,fun j hj hl=>?_,?_⟩
 ·have hl:j < ms.length:=Nat.lt_of_lt_of_le hj List.findIdx_le_length
  have h:=List.not_of_lt_findIdx hj
  rw [hget j hl]
  simpa using h
 ·have hp:posM ms t < ms.length:=by omega
  have h:=List.findIdx_getElem (xs:=ms) (p:=fun m:Mem => !decide (cmpI m.name t < 0)) (w:=hp)
  apply Int.not_lt.1
  intro hx
  have h2:=rise_mono hr t (posM ms t) j hj hl hx
  rw [hget _ hp] at h2
  have h3:(!decide (cmpI (ms[posM ms t]'hp).name t < 0))=true:=h
  rw [decide_eq_true h2] at h3
  cases h3
 ·unfold isM
  rw [Bool.and_eq_true,decide_eq_true_eq,decide_eq_true_eq]
theorem fst_some_of {ms:List Mem} {t:ByteArray} {p:Nat} (h:At ms t p true):fstM ms t=some (ms.getD p dm):=by
 obtain ⟨h1,h2⟩:=h.is.1 rfl
 refine fstM_some h1 (fun j hj e=>?_) ((cmpI_eq _ _).1 h2)
 have:=h.lo j hj
 rw [e,(cmpI_eq t t).2 rfl] at this
 omega
theorem fst_none_of {ms:List Mem} {t:ByteArray} {p:Nat} (hr:Rise ms) (h:At ms t p false):fstM ms t=none:=by
 refine fstM_none fun j hj e=>?_
 have hget:∀ j (h:j < ms.length),ms.getD j dm=ms[j]:=fun j h=>by simp [List.getD,List.getElem?_eq_getElem h]
 have h2:At ms t j true:=by
  refine ⟨by omega,fun i hi=>?_,fun i hi hl=>?_,⟨fun _=>⟨hj,(cmpI_eq _ _).2 e⟩,fun _=>rfl⟩⟩
  ·have:=List.pairwise_iff_getElem.1 hr i j (by omega) hj hi
   rw [← e,cmpI_lt,hget i (by omega),hget j hj];exact this
  ·rcases Nat.lt_or_eq_of_le hi with h3 | rfl
   ·have:=List.pairwise_iff_getElem.1 hr j i hj hl h3
    have h4:0 < cmpI (ms.getD i dm).name t:=by rw [← e,cmpI_gt,hget i hl,hget j hj];exact this
    omega
   ·rw [(cmpI_eq _ _).2 e];omega
 have:=(at_uniq h h2).2
 cases this
theorem fst_at {ms:List Mem} {t:ByteArray} {p:Nat} {f:Bool} (hr:Rise ms) (h:At ms t p f):fstM ms t=if f=true then some (ms.getD p dm) else none:=by
 cases f
 ·rw [fst_none_of hr h];rfl
 ·rw [fst_some_of h];rfl
theorem cmp_ne {a b:ByteArray} (h:cmpI a b < 0):a≠b:=fun e=>by rw [(cmpI_eq a b).2 e] at h;omega
theorem fst_cons (x:Mem) (r:List Mem) (t:ByteArray):fstM (x :: r) t=if x.name=t then some x else fstM r t:=by
 unfold fstM
 rw [List.find?_cons]
 by_cases h:x.name=t<;>simp [h]
theorem fst_hear (m:Mem):∀ ms,hearL ms m≠ms→fstM (hearL ms m) m.name=some m
 | [],_=>by rw [hearL,fst_cons,if_pos rfl]
 | x :: r,h=>by
   rw [hearL] at h ⊢
   split
   ·rename_i h1
    rw [if_pos h1] at h
    rw [fst_cons,if_neg (cmp_ne h1)]
    exact fst_hear m r (fun e=>h (by rw [e]))
   ·rename_i h1
    rw [if_neg h1] at h
    split
    ·rename_i h2
     rw [if_pos h2] at h
     split
     ·rw [fst_cons,if_pos rfl]
     ·rename_i h3;rw [if_neg h3] at h;exact absurd rfl h
    ·rw [fst_cons,if_pos rfl]
def rAt (rs:List Rum) (t:ByteArray):Nat:=rs.findIdx fun r=>decide (r.m.name=t)
theorem rAt_lo {rs:List Rum} {t:ByteArray} {j:Nat} (h:j < rAt rs t):(rs.getD j dr).m.name≠t:=by
 have hl:j < rs.length:=Nat.lt_of_lt_of_le h List.findIdx_le_length
 have h:=List.not_of_lt_findIdx h
 rw [show rs.getD j dr=rs[j] by simp [List.getD,List.getElem?_eq_getElem hl]]
 simpa using h
theorem rAt_is {rs:List Rum} {t:ByteArray} (h:rAt rs t < rs.length):(rs.getD (rAt rs t) dr).m.name=t:=by
 have h2:=List.findIdx_getElem (xs:=rs) (p:=fun r:Rum=>decide (r.m.name=t)) (w:=h)
 rw [show rs.getD (rAt rs t) dr=rs[rAt rs t] by simp [List.getD,List.getElem?_eq_getElem h]]
 exact of_decide_eq_true h2
theorem rAt_no {rs:List Rum} {t:ByteArray} (h:¬ rAt rs t < rs.length):NotIn rs t:=fun j hj=>rAt_lo (by
 have:rAt rs t≤rs.length:=List.findIdx_le_length
 omega)
theorem rAt_ne {rs:List Rum} (hd:Distinct rs) {t:ByteArray} {j:Nat} (hj:j < rs.length) (hne:j≠rAt rs t):(rs.getD j dr).m.name≠t:=by
 rcases Nat.lt_or_ge j (rAt rs t) with h | h
 ·exact rAt_lo h
 ·have hlt:rAt rs t < j:=by omega
  intro e
  exact hd (rAt rs t) j hlt hj (by rw [e];exact rAt_is (by omega))
def putL (rs:List Rum) (m:Mem):List Rum:=
 if rAt rs m.name < rs.length then (if newM m (rs.getD (rAt rs m.name) dr).m=true then rs.eraseIdx (rAt rs m.name)++[⟨m,0⟩] else rs) else rs++[⟨m,0⟩]
def putE (rs:List Rum) (m:Mem):Int:=if 20 < (putL rs m).length then 2 else 0
set_option maxHeartbeats 800000 in
theorem put_any (rs:List Rum) (v:Value) (m:Mem) (w:World) (hv:RSl w v rs) (hm:m.name.size≤maxLen) (h0:chkR rs=0) (he:m.e=0) :
 Calls Tryz.prog 195 #[v,.agg #[.string m.name,.int .i64 m.state,.int .i64 m.life,.int .i64 m.addr,.bool m.server]] w fun e w'=>∃ a k c,e=.returned (.tuple #[.slice a k c,.int .i64 (putE rs m)])∧Below w.heap.size w w'∧(putE rs m=0→ROwn w.heap.size w' (.slice a k c) (putL rs m)):=by
 have hl:=(chkR_e0 h0).1
 have sl:∀ {W:World} {B:Nat} {u:Value} {l:List Rum},ROwn B W u l→∃ a k c,u=.slice a k c:=fun h=>by
  obtain ⟨a,c,e⟩:=h.slice
  exact ⟨a,_,c,e⟩
 by_cases hp:rAt rs m.name < rs.length
 ·rcases hn:newM m (rs.getD (rAt rs m.name) dr).m with _ | _
  ·have e1:putL rs m=rs:=by unfold putL;rw [if_pos hp,if_neg (by rw [hn];simp)]
   have e2:putE rs m=0:=by unfold putE;rw [e1,if_neg (by omega)]
   refine (put_old rs v m w hv hm h0 he _ hp (rAt_is hp) hn).mono ?_
   rintro e w' ⟨v',rfl,ho,hb⟩
   obtain ⟨a,k,c,rfl⟩:=sl ho
   exact ⟨a,k,c,by rw [e2],hb,fun _=>by rw [e1];exact ho⟩
  ·have e1:putL rs m=rs.eraseIdx (rAt rs m.name)++[⟨m,0⟩]:=by unfold putL;rw [if_pos hp,if_pos hn]
   have e2:putE rs m=0:=by unfold putE;rw [e1,if_neg (by rw [List.length_append,List.length_eraseIdx_of_lt hp];simp;omega)]
   refine (put_newer rs v m w hv hm h0 he _ hp (rAt_is hp) hn).mono ?_
   rintro e w' ⟨v',rfl,ho,hb⟩
   obtain ⟨a,k,c,rfl⟩:=sl ho
   exact ⟨a,k,c,by rw [e2],hb,fun _=>by rw [e1];exact ho⟩
 ·have e1:putL rs m=rs++[⟨m,0⟩]:=by unfold putL;rw [if_neg hp]
  by_cases hf:rs.length=20
  ·have e2:putE rs m=2:=by unfold putE;rw [e1,if_pos (by rw [List.length_append];simp;omega)]
   refine (put_full rs v m w hv hm h0 he (rAt_no hp) hf).mono ?_
   rintro e w' ⟨rfl,hb⟩
   exact ⟨none,0,0,by rw [e2],hb,fun h=>by rw [e2] at h;cases h⟩
  ·have e2:putE rs m=0:=by unfold putE;rw [e1,if_neg (by rw [List.length_append];simp;omega)]
   refine (put_new rs v m w hv hm h0 he (rAt_no hp) (by omega)).mono ?_
   rintro e w' ⟨v',rfl,ho,hb⟩
   obtain ⟨a,k,c,rfl⟩:=sl ho
   exact ⟨a,k,c,by rw [e2],hb,fun _=>by rw [e1];exact ho⟩
end Go.Proofs.YtffdoiokmiklgaaGreatDoor
