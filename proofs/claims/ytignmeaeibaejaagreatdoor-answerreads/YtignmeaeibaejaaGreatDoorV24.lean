import Derived.Test.YtignmeaeibaejaaGreatDoorV4
import Derived.Deep.Slices
import Derived.Lib.SmallJoins
import Derived.ProofKit
import Derived.OpenShut
import Derived.Test.YtignmeaeibaejaaGreatDoorV9
import Derived.Test.YtignmeaeibaejaaGreatDoorV21
import Derived.Test.YtignmeaeibaejaaGreatDoorV18
import Derived.Test.YtignmeaeibaejaaGreatDoorV19
import Derived.Test.YtignmeaeibaejaaGreatDoorV23
import Derived.Test.YtignmeaeibaejaaGreatDoorV17
namespace Go.Proofs.YtignmeaeibaejaaGreatDoor
open Go.ChangeShapes Go.WideShapes Go.ChangeAt Go.RowKit
section
variable {H:Type} {enc:TypeId × Value→H} {w:World} {base:Nat} {spare:Nat→Bool} {held:Bool}
end
section
variable {H:Type} {enc:TypeId × Value→H} {w:World} {base:Nat} {spare:Nat→Bool} {held:Bool}
end
end Go.Proofs.YtignmeaeibaejaaGreatDoor
namespace Go.Proofs.YtignmeaeibaejaaGreatDoor
open Go.RowKit
theorem tsl_nil (w:World):TSl w (.slice none 0 0) []:=⟨none,0,rfl,fun j=>by simp,.inl rfl⟩
def sortE (p:Pl) (ms:List Wh.Whe) (ns:List ByteArray):Int:=if 100 < ms.length∨100 < ns.length then 2 else chkPs (p :: (plcs ms).map toPl)
def sortL (p:Pl) (ms:List Wh.Whe) (ns:List ByteArray):List ByteArray:=if sortE p ms ns=0 then srt p ms ns else []
theorem Sort_any (p:Pl) (ms:List Wh.Whe) (v vn:Value) (ns:List ByteArray) (w:World) (hv:Wh.Sl w v ms) (ht:TSl w vn ns) :
 Calls Tryz.prog 134 #[.agg #[.int .i64 p.x,.int .i64 p.y,.int .i64 p.z,.int .i64 p.h,.int .i64 p.s],v,vn] w fun e w'=>∃ v',e=.returned (.tuple #[v',.int .i64 (sortE p ms ns)])∧TSl w' v' (sortL p ms ns)∧FrB w.heap.size w' v'∧Below w.heap.size w w':=by
 obtain ⟨a1,c1,hvv,_,_⟩:=id hv
 obtain ⟨a2,c2,hvn,_,_⟩:=id ht
 by_cases hm:100 < ms.length∨100 < ns.length
 ·have hE:sortE p ms ns=2:=by unfold sortE;rw [if_pos hm]
  have hL:sortL p ms ns=[]:=by unfold sortL;rw [hE];rfl
  rw [hE,hL,hvv,hvn]
  refine (sort_many p a1 a2 _ _ c1 c2 w hm).mono ?_
  rintro e w' ⟨rfl,hb⟩
  exact ⟨_,rfl,tsl_nil _,(fun g hg=>by cases hg),hb⟩
 ·have hE:sortE p ms ns=chkPs (p :: (plcs ms).map toPl):=by unfold sortE;rw [if_neg hm]
  rcases chkPs_or (p :: (plcs ms).map toPl) with h0 | h3
  ·have hL:sortL p ms ns=srt p ms ns:=by unfold sortL;rw [hE,h0];rfl
   rw [hE,hL,h0]
   exact sort_good p ms v vn ns w hv ht (by omega) (by omega) h0
  ·have hL:sortL p ms ns=[]:=by unfold sortL;rw [hE,h3];rfl
   rw [hE,hL,h3]
   by_cases hz:ms.length=0
   ·have hms:=List.length_eq_zero_iff.1 hz
    subst hms
    rw [hvv,hvn]
    refine (sort_bad0 p a1 a2 ns.length c1 c2 w (by omega) h3).mono ?_
    rintro e w' ⟨rfl,hb⟩
    exact ⟨_,rfl,tsl_nil _,(fun g hg=>by cases hg),hb⟩
   ·rw [hvn]
    refine (sort_bad1 p ms v a2 ns.length c2 w hv (by omega) (by omega) (by omega) h3).mono ?_
    rintro e w' ⟨rfl,hb⟩
    exact ⟨_,rfl,tsl_nil _,(fun g hg=>by cases hg),hb⟩
theorem plE_many {p:Pl} {wh:List Wh.Whe} (h:20 < wh.length):plE p wh=2:=if_pos h
theorem plE_few {p:Pl} {wh:List Wh.Whe} (h:¬ 20 < wh.length):plE p wh=chkPs (p :: (plcs wh).map toPl):=if_neg h
theorem chkP_3 (p:Pl):chkP p=0∨chkP p=3:=by unfold chkP;split;exact .inl rfl;exact .inr rfl
theorem plE_from {p:Pl} {wh:List Wh.Whe} (h:¬ 20 < wh.length) (hp:chkP p≠0):plE p wh=chkP p:=by
 rw [plE_few h,chkPs_bad (k:=0) (by simp) (by simpa using hp)]
 rcases chkP_3 p with h | h
 ·exact absurd h hp
 ·exact h.symm
theorem plcs_get (wh:List Wh.Whe) (j:Nat) (hj:j < wh.length):((plcs wh).map toPl).getD j dp=toPl (plc (wh.getD j Wh.dm)):=by
 simp [plcs,List.getD,List.getElem?_eq_getElem hj]
theorem plE_at {p:Pl} {wh:List Wh.Whe} {k:Nat} (h:¬ 20 < wh.length) (hk:k < wh.length) (hp:chkP (toPl (plc (wh.getD k Wh.dm)))≠0):plE p wh=chkP (toPl (plc (wh.getD k Wh.dm))):=by
 rw [plE_few h,chkPs_bad (k:=k+1) (by simp [plcs];omega) (by rw [List.getD_cons_succ,plcs_get wh k hk];exact hp)]
 rcases chkP_3 (toPl (plc (wh.getD k Wh.dm))) with h | h
 ·exact absurd h hp
 ·exact h.symm
theorem plE_ok {p:Pl} {wh:List Wh.Whe} (h:¬ 20 < wh.length) (hp:chkP p=0) (hw:∀ j,j < wh.length→chkP (toPl (plc (wh.getD j Wh.dm)))=0):plE p wh=0:=by
 rw [plE_few h,chkPs_zero]
 intro j hj
 cases j with
 | zero=>simpa using hp
 | succ j=>
   have hj2:j < wh.length:=by simpa [plcs] using hj
   rw [List.getD_cons_succ,plcs_get wh j hj2]
   exact hw j hj2
set_option maxHeartbeats 6400000 in
set_option maxRecDepth 100000 in
theorem kplaces_any (here:ByteArray) (ps pm pw:Option Addr) (ns cs nm cm nw cw:Nat) (px py pz ph pq:Int) (wh:List Wh.Whe) (w:World) (hw:Wh.Sl w (.slice pw nw cw) wh) :
 Calls Tryz.prog 29 #[.agg (knA here (.slice ps ns cs) (.slice pm nm cm) px py pz ph pq (.slice pw nw cw))] w fun e w'=>e=.returned (.int .i64 (plE ⟨px,py,pz,ph,pq⟩ wh))∧Below w.heap.size w w':=by
 obtain ⟨pa',ca',he,_,ha⟩:=hw
 simp only [Value.slice.injEq] at he
 obtain ⟨rfl,hN,rfl⟩:=he
 have HA:Hid (wh=[]∨∃ b off,pw=some ⟨b,off,none⟩∧b < w.heap.size∧Wh.Row w b off wh):=ha
 have HN:Hid (wh.length=nw):=hN.symm
 have H1:Hid (20 < nw→plE ⟨px,py,pz,ph,pq⟩ wh=2):=fun h=>plE_many (by rw [HN.out];exact h)
 have H2:Hid (¬ 20 < nw→chkP ⟨px,py,pz,ph,pq⟩≠0→plE ⟨px,py,pz,ph,pq⟩ wh=chkP ⟨px,py,pz,ph,pq⟩):=fun h=>plE_from (by rw [HN.out];exact h)
 have H3:Hid (¬ 20 < nw→∀ k,k < nw→chkP (toPl (plc (wh.getD k Wh.dm)))≠0→plE ⟨px,py,pz,ph,pq⟩ wh=chkP (toPl (plc (wh.getD k Wh.dm)))):=fun h k hk=>plE_at (by rw [HN.out];exact h) (by rw [HN.out];exact hk)
 have H4:Hid (¬ 20 < nw→chkP ⟨px,py,pz,ph,pq⟩=0→(∀ j,j < nw→chkP (toPl (plc (wh.getD j Wh.dm)))=0)→plE ⟨px,py,pz,ph,pq⟩ wh=0):=fun h h2 h3=>plE_ok (by rw [HN.out];exact h) h2 (fun j hj=>h3 j (by rw [← HN.out];exact hj))
 have HC:Hid (∀ W,Calls Tryz.prog 71 #[.agg #[.int .i64 px,.int .i64 py,.int .i64 pz,.int .i64 ph,.int .i64 pq]] W fun e w'=>e=.returned (.int .i64 (chkP ⟨px,py,pz,ph,pq⟩))∧Below W.heap.size W w'):=fun W=>checkP_any ⟨px,py,pz,ph,pq⟩ W
 clear ha hN
 generalize plE ⟨px,py,pz,ph,pq⟩ wh=res at *
 generalize chkP ⟨px,py,pz,ph,pq⟩=cp at *
 by_cases hm:20 < nw
 ·have HR:Hid (res=2):=H1.out hm
  clear H1 H2 H3 H4
  go_enter Tryz.func29,Tryz.ntmps29
  go_wp2_with fail
  go_ret
  exact ⟨ret_int HR.out.symm,(Below.refl _ _).alloc (Nat.le_refl _) _⟩
 ·have H2':Hid (cp≠0→res=cp):=H2.out hm
  have H3':Hid (∀ k,k < nw→chkP (toPl (plc (wh.getD k Wh.dm)))≠0→res=chkP (toPl (plc (wh.getD k Wh.dm)))):=H3.out hm
  have H4':Hid (cp=0→(∀ j,j < nw→chkP (toPl (plc (wh.getD j Wh.dm)))=0)→res=0):=H4.out hm
  clear H1 H2 H3 H4
  go_enter Tryz.func29,Tryz.ntmps29
  go_wp2_with fail
  have hb0:Below w.heap.size w (w.alloc (.cells (knA here (.slice ps ns cs) (.slice pm nm cm) px py pz ph pq (.slice pw nw cw)) 45)):=(Below.refl _ _).alloc (Nat.le_refl _) _
  refine (HC.out _).mono ?_
  rintro e w1 ⟨rfl,hb1⟩
  have HB1:Hid (Below w.heap.size w w1):=hb0.trans (hb1.mono (by simp))
  have hg:w1.heap[w.heap.size]?=some (.cells (knA here (.slice ps ns cs) (.slice pm nm cm) px py pz ph pq (.slice pw nw cw)) 45 (0,0)):=(hb1.block _ (by simp)).trans (heap_alloc_new w _)
  have d8:w1.cell? ⟨w.heap.size,8,none⟩=some (.slice pw nw cw):=cellsAt hg 8
  clear hb0 hb1 hg
  by_cases h0:cp=0
  ·have H5:Hid ((∀ j,j < nw→chkP (toPl (plc (wh.getD j Wh.dm)))=0)→res=0):=H4'.out h0
   clear H2' H4'
   subst h0
   go_wp2_with fail
   go_loopw [20] (fun i wr=>∃ k:Nat,k≤nw∧i=.int .i64 k∧Hid (Below w.heap.size w wr)∧Hid (∀ j,j < k→chkP (toPl (plc (wh.getD j Wh.dm)))=0)) (fun i _=>nw - (intOf i).toNat)
   case atStart=>exact ⟨0,Nat.zero_le _,rfl,HB1,fun j hj=>absurd hj (Nat.not_lt_zero _)⟩
   case round=>
    obtain ⟨k,hk,rfl,HB,HZ⟩:=hrel
    have hsz:=HB.out.size
    by_cases hlt:k < nw
    ·obtain ⟨b,off,hp1,hl1,hr⟩:∃ b off,pw=some ⟨b,off,none⟩∧b < w.heap.size∧Wh.Row w b off wh:=by
      rcases HA.out with h | h
      ·have:=HN.out;rw [h] at this;simp at this;omega
      ·exact h
     subst hp1
     obtain ⟨c0,c1,c2,c3,c4,c5⟩:=hr.later HB.out hl1 k (by rw [HN.out];exact hlt)
     clear hr
     have HZ2:Hid (chkP (toPl (plc (wh.getD k Wh.dm)))=0→∀ j,j < k+1→chkP (toPl (plc (wh.getD j Wh.dm)))=0):=fun h j hj=>by
      by_cases e:j=k
      ·subst e;exact h
      ·exact HZ.out j (by omega)
     have HX:Hid (chkP (toPl (plc (wh.getD k Wh.dm)))≠0→res=chkP (toPl (plc (wh.getD k Wh.dm)))):=H3'.out k hlt
     generalize wh.getD k Wh.dm=m at *
     obtain ⟨nd,x,y,z,h,s⟩:=m
     simp only at c0 c1 c2 c3 c4 c5
     have HCW:Hid (∀ W,Calls Tryz.prog 71 #[.agg #[.int .i64 x,.int .i64 y,.int .i64 z,.int .i64 h,.int .i64 s]] W fun e w'=>e=.returned (.int .i64 (chkP (toPl (plc ⟨nd,x,y,z,h,s⟩))))∧Below W.heap.size W w'):=fun W=>checkP_any ⟨x,y,z,h,s⟩ W
     generalize chkP (toPl (plc ⟨nd,x,y,z,h,s⟩))=cw2 at *
     go_wp2_with fail
     refine (HCW.out _).mono ?_
     rintro e w2 ⟨rfl,hb2⟩
     have HB2:Hid (Below w.heap.size w w2):=(HB.out.alloc hsz _).trans (hb2.mono (by simp<;>omega))
     clear hb2
     by_cases hz:cw2=0
     ·have HZ3:=HZ2.out hz
      have HZ4:Hid (∀ j,j < k+1→chkP (toPl (plc (wh.getD j Wh.dm)))=0):=HZ3
      clear HZ3 HZ2 HX
      subst hz
      go_wp2_with fail
      go_roundw
      case rel=>exact ⟨k+1,by omega,by go_num,HB2,HZ4⟩
      case measure=>simp [intOf];omega
     ·have HR:Hid (res=cw2):=HX.out hz
      have hz':(cw2 != 0)=true:=by simpa using hz
      clear HZ2 HX
      go_wp2_with fail
      go_ret
      exact ⟨ret_int HR.out.symm,HB2.out⟩
    ·have HR:Hid (res=0):=H5.out (fun j hj=>HZ.out j (by omega))
     go_wp2_with fail
     go_ret
     exact ⟨ret_int HR.out.symm,HB.out⟩
  ·have HR:Hid (res=cp):=H2'.out h0
   have h0':(cp != 0)=true:=by simpa using h0
   go_wp2_with fail
   go_ret
   exact ⟨ret_int HR.out.symm,HB1.out⟩
set_option maxHeartbeats 6400000 in
set_option maxRecDepth 100000 in
theorem kcheck_any (here:ByteArray) (ps pm pw:Option Addr) (ns cs nm cm nw cw:Nat) (px py pz ph pq:Int) (sv:List Sv.Svc) (ms:List Mem) (wh:List Wh.Whe) (w:World) (hh:here.size≤maxLen) (hs:Sv.Sl w (.slice ps ns cs) sv) (hm:Sl w (.slice pm nm cm) ms) (hw:Wh.Sl w (.slice pw nw cw) wh) :
 Calls Tryz.prog 12 #[.agg (knA here (.slice ps ns cs) (.slice pm nm cm) px py pz ph pq (.slice pw nw cw))] w fun e w'=>e=.returned (.int .i64 (knE here sv ms ⟨px,py,pz,ph,pq⟩ wh))∧Below w.heap.size w w':=by
 have HS:Hid (Sv.Sl w (.slice ps ns cs) sv):=hs
 have HM:Hid (Sl w (.slice pm nm cm) ms):=hm
 have HW:Hid (Wh.Sl w (.slice pw nw cw) wh):=hw
 have HK:Hid (knE here sv ms ⟨px,py,pz,ph,pq⟩ wh=if labB here=true then (if Sv.chk sv=0 then (if chk ms=0 then plE ⟨px,py,pz,ph,pq⟩ wh else chk ms) else Sv.chk sv) else 1):=rfl
 have HC1:Hid (∀ W v,Sv.Sl W v sv→Calls Tryz.prog 27 #[v] W fun e w'=>e=.returned (.int .i64 (Sv.chk sv))∧Below W.heap.size W w'):=fun W v h=>Sv.check_any sv v W h
 have HC2:Hid (∀ W v,Sl W v ms→Calls Tryz.prog 28 #[v] W fun e w'=>e=.returned (.int .i64 (chk ms))∧Below W.heap.size W w'):=fun W v h=>check_any ms v W h
 have HC3:Hid (∀ W,Wh.Sl W (.slice pw nw cw) wh→Calls Tryz.prog 29 #[.agg (knA here (.slice ps ns cs) (.slice pm nm cm) px py pz ph pq (.slice pw nw cw))] W fun e w'=>e=.returned (.int .i64 (plE ⟨px,py,pz,ph,pq⟩ wh))∧Below W.heap.size W w'):=fun W h=>kplaces_any here ps pm pw ns cs nm cm nw cw px py pz ph pq wh W h
 clear hs hm hw
 generalize knE here sv ms ⟨px,py,pz,ph,pq⟩ wh=res at *
 generalize plE ⟨px,py,pz,ph,pq⟩ wh=pe at *
 generalize Sv.chk sv=ce at *
 generalize chk ms=me at *
 have hbl:∀ W,Calls Tryz.prog 26 #[.string here] W fun e w'=>e=.returned (.bool (labB here))∧w'=W:=fun W=>label_any here W hh
 rcases hl:labB here with _ | _
 ·have HR:Hid (res=1):=HK.out.trans (by rw [hl];rfl)
  rw [hl] at hbl
  go_enter Tryz.func12,Tryz.ntmps12
  go_wp2_with fail
  refine (hbl _).mono ?_
  rintro e w' ⟨rfl,rfl⟩
  go_wp2_with fail
  go_ret
  exact ⟨ret_int HR.out.symm,(Below.refl _ _).alloc (Nat.le_refl _) _⟩
 ·have HK2:Hid (res=if ce=0 then (if me=0 then pe else me) else ce):=HK.out.trans (by rw [hl];rfl)
  rw [hl] at hbl
  clear HK
  go_enter Tryz.func12,Tryz.ntmps12
  go_wp2_with fail
  refine (hbl _).mono ?_
  rintro e w' ⟨rfl,rfl⟩
  have hb0:Below w.heap.size w (w.alloc (.cells (knA here (.slice ps ns cs) (.slice pm nm cm) px py pz ph pq (.slice pw nw cw)) 45)):=(Below.refl _ _).alloc (Nat.le_refl _) _
  go_wp2_with fail
  refine (HC1.out _ _ (HS.out.below hb0)).mono ?_
  rintro e w1 ⟨rfl,hb1⟩
  have HB1:Hid (Below w.heap.size w w1):=hb0.trans (hb1.mono (by simp))
  have hg:w1.heap[w.heap.size]?=some (.cells (knA here (.slice ps ns cs) (.slice pm nm cm) px py pz ph pq (.slice pw nw cw)) 45 (0,0)):=(hb1.block _ (by simp)).trans (heap_alloc_new w _)
  have d0:w1.cell? ⟨w.heap.size,0,none⟩=some (.string here):=cellsAt hg 0
  have d1:w1.cell? ⟨w.heap.size,1,none⟩=some (.slice ps ns cs):=cellsAt hg 1
  have d2:w1.cell? ⟨w.heap.size,2,none⟩=some (.slice pm nm cm):=cellsAt hg 2
  have d3:w1.cell? ⟨w.heap.size,3,none⟩=some (.int .i64 px):=cellsAt hg 3
  have d4:w1.cell? ⟨w.heap.size,4,none⟩=some (.int .i64 py):=cellsAt hg 4
  have d5:w1.cell? ⟨w.heap.size,5,none⟩=some (.int .i64 pz):=cellsAt hg 5
  have d6:w1.cell? ⟨w.heap.size,6,none⟩=some (.int .i64 ph):=cellsAt hg 6
  have d7:w1.cell? ⟨w.heap.size,7,none⟩=some (.int .i64 pq):=cellsAt hg 7
  have d8:w1.cell? ⟨w.heap.size,8,none⟩=some (.slice pw nw cw):=cellsAt hg 8
  have HG1:Hid (w1.heap[w.heap.size]?=some (.cells (knA here (.slice ps ns cs) (.slice pm nm cm) px py pz ph pq (.slice pw nw cw)) 45 (0,0))):=hg
  have hlt1:w.heap.size < w1.heap.size:=(Array.getElem?_eq_some_iff.1 hg).1
  clear hb0 hb1 hg
  by_cases h1:ce=0
  ·have HK3:Hid (res=if me=0 then pe else me):=HK2.out.trans (if_pos h1)
   clear HK2
   subst h1
   go_wp2_with fail
   refine (HC2.out _ _ (HM.out.below HB1.out)).mono ?_
   rintro e w2 ⟨rfl,hb2⟩
   have HB2:Hid (Below w.heap.size w w2):=HB1.out.trans (hb2.mono (by omega))
   have hg:w2.heap[w.heap.size]?=some (.cells (knA here (.slice ps ns cs) (.slice pm nm cm) px py pz ph pq (.slice pw nw cw)) 45 (0,0)):=(hb2.block _ (by omega)).trans HG1.out
   clear d0 d1 d2 d3 d4 d5 d6 d7 d8
   have d0:w2.cell? ⟨w.heap.size,0,none⟩=some (.string here):=cellsAt hg 0
   have d1:w2.cell? ⟨w.heap.size,1,none⟩=some (.slice ps ns cs):=cellsAt hg 1
   have d2:w2.cell? ⟨w.heap.size,2,none⟩=some (.slice pm nm cm):=cellsAt hg 2
   have d3:w2.cell? ⟨w.heap.size,3,none⟩=some (.int .i64 px):=cellsAt hg 3
   have d4:w2.cell? ⟨w.heap.size,4,none⟩=some (.int .i64 py):=cellsAt hg 4
   have d5:w2.cell? ⟨w.heap.size,5,none⟩=some (.int .i64 pz):=cellsAt hg 5
   have d6:w2.cell? ⟨w.heap.size,6,none⟩=some (.int .i64 ph):=cellsAt hg 6
   have d7:w2.cell? ⟨w.heap.size,7,none⟩=some (.int .i64 pq):=cellsAt hg 7
   have d8:w2.cell? ⟨w.heap.size,8,none⟩=some (.slice pw nw cw):=cellsAt hg 8
   clear hb2 hg HG1
   by_cases h2:me=0
   ·have HK4:Hid (res=pe):=HK3.out.trans (if_pos h2)
    subst h2
    clear HK3
    go_wp2_with fail
    refine (HC3.out _ (HW.out.below HB2.out)).mono ?_
    rintro e w3 ⟨rfl,hb3⟩
    have HB3:Hid (Below w.heap.size w w3):=HB2.out.trans (hb3.mono HB2.out.size)
    clear hb3
    go_wp2_with fail
    go_ret
    exact ⟨ret_int HK4.out.symm,HB3.out⟩
   ·have HR:Hid (res=me):=HK3.out.trans (if_neg h2)
    have h2':(me != 0)=true:=by simpa using h2
    go_wp2_with fail
    go_ret
    exact ⟨ret_int HR.out.symm,HB2.out⟩
  ·have HR:Hid (res=ce):=HK2.out.trans (if_neg h1)
   have h1':(ce != 0)=true:=by simpa using h1
   go_wp2_with fail
   go_ret
   exact ⟨ret_int HR.out.symm,HB1.out⟩
def asE (q:Qu) (t:Int):Int:=if chkQ q=0 then (if typB t=true then 0 else 7) else chkQ q
set_option maxHeartbeats 3200000 in
theorem asked_any (q:Qu) (t:Int) (w:World) (hq:q.ok) :
 Calls Tryz.prog 49 #[.agg #[.string q.service,.string q.tag,.string q.node,.string q.centre],.int .i64 t] w fun e w'=>e=.returned (.int .i64 (asE q t))∧Below w.heap.size w w':=by
 have HK:Hid (asE q t=if chkQ q=0 then (if typB t=true then 0 else 7) else chkQ q):=rfl
 have HC:Hid (∀ W,Calls Tryz.prog 82 #[.agg #[.string q.service,.string q.tag,.string q.node,.string q.centre]] W fun e w'=>e=.returned (.int .i64 (chkQ q))∧Below W.heap.size W w'):=fun W=>qCheck_any q W hq
 have HT:Hid (∀ W,Calls Tryz.prog 55 #[.int .i64 t] W fun e w'=>e=.returned (.bool (typB t))∧w'=W):=fun W=>rtype_any t W
 generalize asE q t=res at *
 generalize chkQ q=ce at *
 generalize typB t=tb at *
 go_enter Tryz.func49,Tryz.ntmps49
 go_wp2_with fail
 refine (HC.out _).mono ?_
 rintro e w1 ⟨rfl,hb1⟩
 have HB1:Hid (Below w.heap.size w w1):=((Below.refl _ _).alloc (Nat.le_refl _) _).trans (hb1.mono (by simp))
 clear hb1
 by_cases h1:ce=0
 ·have HK2:Hid (res=if tb=true then 0 else 7):=HK.out.trans (if_pos h1)
  subst h1
  go_wp2_with fail
  refine (HT.out _).mono ?_
  rintro e w2 ⟨rfl,rfl⟩
  cases tb
  ·have HR:Hid (res=7):=HK2.out
   go_wp2_with fail
   go_ret
   exact ⟨ret_int HR.out.symm,HB1.out⟩
  ·have HR:Hid (res=0):=HK2.out
   go_wp2_with fail
   go_ret
   exact ⟨ret_int HR.out.symm,HB1.out⟩
 ·have HR:Hid (res=ce):=HK.out.trans (if_neg h1)
  have h1':(ce != 0)=true:=by simpa using h1
  go_wp2_with fail
  go_ret
  exact ⟨ret_int HR.out.symm,HB1.out⟩
theorem rcI:(Tryz.prog.info? 59).map (fun i=>(i.zero,i.size,i.bytes))=some (some (.agg #[.string ⟨#[]⟩,.int .i64 0,.int .i64 0,.int .i64 0,.string ⟨#[]⟩,.int .i64 0,.string ⟨#[]⟩]),7,80):=by kernel_rfl
theorem map_snoc {L:List Sv.Svc} {f:Sv.Svc→Rc.Rec} {k:Nat} (h:k < L.length):(L.take (k+1)).map f=(L.take k).map f++[f (L.getD k Sv.dm)]:=by
 rw [take_snocS h];simp
theorem findE_ok {q:Qu} {tag:ByteArray} (h:chkQ q=0) (hn:q.node.size=0) (ht:tag=q.tag∨tag=⟨#[]⟩):Sv.findE q.service tag=0:=by
 obtain ⟨z0,z1,z2,_,_,_⟩:=chkQ_zero h
 have hs:q.service.size≠0:=fun e=>by unfold frmQ at z0;simp [e,hn] at z0
 have hl:labB q.service=true:=by
  have h1:(decide (q.service=ByteArray.empty) || labB q.service)=true:=z1
  have h2:decide (q.service=ByteArray.empty)=false:=by simpa using fun e=>hs (by rw [e];rfl)
  rw [h2] at h1
  simpa using h1
 have htg:Sv.tagB tag=true:=by
  rcases ht with rfl | rfl
  ·exact z2
  ·rfl
 unfold Sv.findE
 rw [hl,htg];rfl
theorem svown_slice {B:Nat} {w:World} {v:Value} {ms:List Sv.Svc} (h:Sv.Own B w v ms):∃ p c,v=.slice p ms.length c:=by
 rcases h.2 with ⟨hv,h0⟩ | ⟨g,c,cur,hv,_⟩
 ·exact ⟨none,0,by rw [hv,h0]⟩
 ·exact ⟨_,c,hv⟩
structure KnOk (here:ByteArray) (sv:List Sv.Svc) (ms:List Mem) (p:Pl) (wh:List Wh.Whe):Prop where
 lab:labB here=true
 sv:Sv.chk sv=0
 ms:chk ms=0
 pl:plE p wh=0
theorem knOk {here:ByteArray} {sv:List Sv.Svc} {ms:List Mem} {p:Pl} {wh:List Wh.Whe} (h:knE here sv ms p wh=0):KnOk here sv ms p wh:=by
 unfold knE at h
 by_cases h1:labB here=true
 ·rw [if_pos h1] at h
  by_cases h2:Sv.chk sv=0
  ·rw [if_pos h2] at h
   by_cases h3:chk ms=0
   ·rw [if_pos h3] at h
    exact ⟨h1,h2,h3,h⟩
   ·rw [if_neg h3] at h;exact absurd h h3
  ·rw [if_neg h2] at h;exact absurd h h2
 ·rw [if_neg h1] at h;omega
theorem KnOk.sort {here:ByteArray} {sv:List Sv.Svc} {ms:List Mem} {p:Pl} {wh:List Wh.Whe} (h:KnOk here sv ms p wh) {ns:List ByteArray} (hn:ns.length≤100):sortE p wh ns=0∧sortL p wh ns=srt p wh ns:=by
 have h1:=h.pl
 unfold plE at h1
 by_cases hm:20 < wh.length
 ·rw [if_pos hm] at h1;omega
 ·rw [if_neg hm] at h1
  have e:sortE p wh ns=0:=by unfold sortE;rw [if_neg (by omega)];exact h1
  exact ⟨e,by unfold sortL;rw [if_pos e]⟩
theorem srt_len (p:Pl) (wh:List Wh.Whe) (ns:List ByteArray):(srt p wh ns).length=ns.length:=by
 unfold srt
 have:=So.insAll_len (ltN (dV (Dd (farW p) wh wh.length))) ns (swoN _) ns.length (Nat.le_refl _)
 rwa [List.take_length] at this
theorem lab_max {s:ByteArray} (h:labB s=true):s.size≤maxLen:=by
 unfold labB at h
 simp at h
 unfold maxLen
 omega
theorem near_any (here:ByteArray) (ps pm pw:Option Addr) (ns cs nm cm nw cw:Nat) (px py pz ph pq:Int) (sv:List Sv.Svc) (ms:List Mem) (wh:List Wh.Whe) (found:List Sv.Svc) (vf:Value) (w:World) (hk:KnOk here sv ms ⟨px,py,pz,ph,pq⟩ wh) (hm:Sl w (.slice pm nm cm) ms) (hw:Wh.Sl w (.slice pw nw cw) wh) (hf:Sv.Sl w vf found) (hfl:found.length≤40) :
 Calls Tryz.prog 110 #[.agg (knA here (.slice ps ns cs) (.slice pm nm cm) px py pz ph pq (.slice pw nw cw)),vf] w fun e w'=>∃ v',e=.returned v'∧Sv.Sl w' v' (nearL ⟨px,py,pz,ph,pq⟩ wh ms found)∧Below w.heap.size w w':=by
 have hl:=live_len ms found
 have hl2:=nodesP_len (liveL ms found)
 have hn:nm≤1000:=by
  obtain ⟨_,_,he,_,_⟩:=id hm
  simp only [Value.slice.injEq] at he
  have:=(chk_zero hk.ms).1
  omega
 obtain ⟨hE,hL⟩:=hk.sort (ns:=nodesP (liveL ms found)) (by omega)
 refine nearest_any here ps pm pw ns cs nm cm nw cw px py pz ph pq ms found wh (srt ⟨px,py,pz,ph,pq⟩ wh (nodesP (liveL ms found))) vf w hm hf hw hn hfl (fun vn W h1 h2=>?_) (fun x hx=>srt_mem.1 hx) (by rw [srt_len];omega)
 refine (Sort_any ⟨px,py,pz,ph,pq⟩ wh (.slice pw nw cw) vn _ W h1 h2).mono ?_
 rintro e w' ⟨v',rfl,h3,_,h4⟩
 rw [hL] at h3
 exact ⟨v',_,rfl,h3,h4⟩
set_option maxHeartbeats 12800000 in
set_option maxRecDepth 100000 in
theorem ofService_any (here:ByteArray) (ps pm pw:Option Addr) (ns cs nm cm nw cw:Nat) (px py pz ph pq:Int) (q:Qu) (name:ByteArray) (t:Int) (sv:List Sv.Svc) (ms:List Mem) (wh:List Wh.Whe) (w:World) (hq:q.ok) (h0:chkQ q=0) (hn0:q.node.size=0) (hk:KnOk here sv ms ⟨px,py,pz,ph,pq⟩ wh) (hs:Sv.Sl w (.slice ps ns cs) sv) (hm:Sl w (.slice pm nm cm) ms) (hw:Wh.Sl w (.slice pw nw cw) wh) (hname:name=prS q) :
 Calls Tryz.prog 85 #[.agg (knA here (.slice ps ns cs) (.slice pm nm cm) px py pz ph pq (.slice pw nw cw)),.agg #[.string q.service,.string q.tag,.string q.node,.string q.centre],.agg #[.string name,.int .i64 t,.int .i64 0,.int .i64 0,.string ⟨#[]⟩,.int .i64 0,.string ⟨#[]⟩]] w fun e w'=>∃ v,e=.returned (.tuple #[v,.int .i64 (ofSv q t here sv ms ⟨px,py,pz,ph,pq⟩ wh).code,.int .i64 (ofSv q t here sv ms ⟨px,py,pz,ph,pq⟩ wh).e])∧Rc.Own w.heap.size w' v (ofSv q t here sv ms ⟨px,py,pz,ph,pq⟩ wh).rs∧Below w.heap.size w w':=by
 obtain ⟨i0,hi0,hz0,hzs,hzb⟩:=info_parts rcI
 have hF1:=fun (W:World) (h:Sv.Sl W (.slice ps ns cs) sv)=>Sv.findS_good sv (.slice ps ns cs) q.service ⟨#[]⟩ W h hk.sv hq.1 (by decide) (findE_ok h0 hn0 (.inr rfl))
 have hF2:=fun (W:World) (h:Sv.Sl W (.slice ps ns cs) sv)=>Sv.findS_good sv (.slice ps ns cs) q.service q.tag W h hk.sv hq.1 hq.2.1 (findE_ok h0 hn0 (.inl rfl))
 have HF1:Hid _:=hF1
 have HF2:Hid _:=hF2
 have hfl:(Sv.findL sv q.service q.tag).length≤40:=by have h1:=Sv.findL_len sv q.service q.tag;have h2:=(Sv.chk_zero hk.sv).1;omega
 have HFO:Hid (∀ x∈Sv.findL sv q.service q.tag,x.ok):=Sv.findL_ok (by obtain ⟨_,_,_,h,_⟩:=hs;exact Sv.ns_mem h)
 have HNE:Hid (∀ W vf,Sl W (.slice pm nm cm) ms→Wh.Sl W (.slice pw nw cw) wh→Sv.Sl W vf (Sv.findL sv q.service q.tag)→Calls Tryz.prog 110 #[.agg (knA here (.slice ps ns cs) (.slice pm nm cm) px py pz ph pq (.slice pw nw cw)),vf] W fun e w'=>∃ v',e=.returned v'∧Sv.Sl w' v' (nearL ⟨px,py,pz,ph,pq⟩ wh ms (Sv.findL sv q.service q.tag))∧Below W.heap.size W w'):=fun W vf h1 h2 h3=>near_any here ps pm pw ns cs nm cm nw cw px py pz ph pq sv ms wh _ vf W hk h1 h2 h3 hfl
 have HA1:Hid (Sv.findL sv q.service ⟨#[]⟩=[]→ofSv q t here sv ms ⟨px,py,pz,ph,pq⟩ wh=⟨[],3,0⟩):=fun h=>by unfold ofSv;rw [if_pos h]
 have HA2:Hid (Sv.findL sv q.service ⟨#[]⟩≠[]→recsE here t (nearL ⟨px,py,pz,ph,pq⟩ wh ms (Sv.findL sv q.service q.tag))=0→ofSv q t here sv ms ⟨px,py,pz,ph,pq⟩ wh=⟨(nearL ⟨px,py,pz,ph,pq⟩ wh ms (Sv.findL sv q.service q.tag)).map (rec1 name here t),0,0⟩):=fun h h2=>by unfold ofSv;rw [if_neg h,if_pos h2,hname]
 have HA3:Hid (Sv.findL sv q.service ⟨#[]⟩≠[]→recsE here t (nearL ⟨px,py,pz,ph,pq⟩ wh ms (Sv.findL sv q.service q.tag))≠0→ofSv q t here sv ms ⟨px,py,pz,ph,pq⟩ wh=⟨[],0,recsE here t (nearL ⟨px,py,pz,ph,pq⟩ wh ms (Sv.findL sv q.service q.tag))⟩):=fun h h2=>by unfold ofSv;rw [if_neg h,if_neg h2]
 have hnl:=near_len ⟨px,py,pz,ph,pq⟩ wh ms (Sv.findL sv q.service q.tag)
 have HREC:Hid (∀ (s:Sv.Svc) (W:World),s.node.size≤maxLen→Calls Tryz.prog 111 #[.agg (knA here (.slice ps ns cs) (.slice pm nm cm) px py pz ph pq (.slice pw nw cw)),.agg #[.string name,.int .i64 t,.int .i64 0,.int .i64 0,.string ⟨#[]⟩,.int .i64 0,.string ⟨#[]⟩],.agg #[.string s.node,.string s.idn,.string s.name,.string s.tag,.int .i64 s.addr,.int .i64 s.port,.bool s.passing,.int .i64 s.version,.bool s.gone]] W fun e w'=>∃ r:Rc.Rec,e=.returned (.tuple #[.agg #[.string r.name,.int .i64 r.typ,.int .i64 r.lasts,.int .i64 r.addr,.string r.text,.int .i64 r.port,.string r.target],.int .i64 (recE here t s)])∧(recE here t s=0→r=rec1 name here t s)∧Below W.heap.size W w'):=fun s W h=>krecord_any here ps pm pw ns cs nm cm nw cw px py pz ph pq name t s W (lab_max hk.lab) h
 have HS:Hid (Sv.Sl w (.slice ps ns cs) sv):=hs
 have HM:Hid (Sl w (.slice pm nm cm) ms):=hm
 have HW:Hid (Wh.Sl w (.slice pw nw cw) wh):=hw
 clear hF1 hF2 hs hm hw hk hn0 h0 hname
 generalize ofSv q t here sv ms ⟨px,py,pz,ph,pq⟩ wh=A at *
 generalize nearL ⟨px,py,pz,ph,pq⟩ wh ms (Sv.findL sv q.service q.tag)=NL at *
 generalize Sv.findL sv q.service q.tag=FL at *
 generalize Sv.findL sv q.service ⟨#[]⟩=F0 at *
 obtain ⟨qs,qt,qn,qc⟩:=q
 simp only at *
 go_enter Tryz.func85,Tryz.ntmps85
 go_wp2_with fail
 obtain ⟨W,hW⟩:∃ W,W=((w.alloc (.cells (knA here (.slice ps ns cs) (.slice pm nm cm) px py pz ph pq (.slice pw nw cw)) 45)).alloc (.cells #[.string qs,.string qt,.string qn,.string qc] 50)).alloc (.cells #[.string name,.int .i64 t,.int .i64 0,.int .i64 0,.string ⟨#[]⟩,.int .i64 0,.string ⟨#[]⟩] 59):=⟨_,rfl⟩
 rw [← hW]
 have hbW:Below w.heap.size w W:=by rw [hW];exact (((Below.refl _ _).alloc (Nat.le_refl _) _).alloc (by simp) _).alloc (by simp<;>omega) _
 have HG0:Hid (W.heap[w.heap.size]?=some (.cells (knA here (.slice ps ns cs) (.slice pm nm cm) px py pz ph pq (.slice pw nw cw)) 45 (0,0))):=by
  rw [hW,Below.heap_alloc _ _ _ (by simp<;>omega),Below.heap_alloc _ _ _ (by simp)];exact heap_alloc_new w _
 have hG1:W.heap[w.heap.size+1]?=some (.cells #[.string qs,.string qt,.string qn,.string qc] 50 (0,0)):=by
  rw [hW,Below.heap_alloc _ _ _ (by simp)]
  have h:=heap_alloc_new (w.alloc (.cells (knA here (.slice ps ns cs) (.slice pm nm cm) px py pz ph pq (.slice pw nw cw)) 45)) (.cells #[.string qs,.string qt,.string qn,.string qc] 50)
  simpa using h
 have hG2:W.heap[w.heap.size+2]?=some (.cells #[.string name,.int .i64 t,.int .i64 0,.int .i64 0,.string ⟨#[]⟩,.int .i64 0,.string ⟨#[]⟩] 59 (0,0)):=by
  rw [hW]
  have h:=heap_alloc_new ((w.alloc (.cells (knA here (.slice ps ns cs) (.slice pm nm cm) px py pz ph pq (.slice pw nw cw)) 45)).alloc (.cells #[.string qs,.string qt,.string qn,.string qc] 50)) (.cells #[.string name,.int .i64 t,.int .i64 0,.int .i64 0,.string ⟨#[]⟩,.int .i64 0,.string ⟨#[]⟩] 59)
  simpa using h
 have HG1:Hid _:=hG1
 have HG2:Hid _:=hG2
 clear hG1 hG2
 have hsW:w.heap.size+3≤W.heap.size:=by rw [hW];simp
 clear hW
 refine Calls.mono (HF1.out W (HS.out.below hbW)) ?_
 rintro e w1 ⟨v1,rfl,ho1,hb1⟩
 obtain ⟨p1,c1,rfl⟩:=svown_slice ho1
 have HB1:Hid (Below w.heap.size w w1):=hbW.trans (hb1.mono (by omega))
 have HX1:Hid (Below W.heap.size W w1):=hb1
 have hs1:=hb1.size
 clear ho1 hb1
 by_cases he:F0=[]
 ·have HR:Hid (A=⟨[],3,0⟩):=HA1.out he
  have h00:F0.length=0:=by rw [he];rfl
  clear he HA1 HA2 HA3
  generalize F0.length=n0 at *
  subst h00
  go_wp2_with fail
  go_ret3
  exact ⟨.slice none 0 0,by rw [HR.out];rfl,by rw [HR.out];exact Rc.own_nil _ _,HB1.out⟩
 ·have h00:(((F0.length:Nat):Int) == 0)=false:=by
   have:F0.length≠0:=fun h=>he (List.eq_nil_of_length_eq_zero h)
   simpa using this
  have HA2':Hid _:=HA2.out he
  have HA3':Hid _:=HA3.out he
  clear HA1 HA2 HA3 he
  generalize F0.length=n0 at *
  have k0:w1.heap[w.heap.size]?=some (.cells (knA here (.slice ps ns cs) (.slice pm nm cm) px py pz ph pq (.slice pw nw cw)) 45 (0,0)):=(HX1.out.block _ (by omega)).trans HG0.out
  have k1:w1.heap[w.heap.size+1]?=some (.cells #[.string qs,.string qt,.string qn,.string qc] 50 (0,0)):=(HX1.out.block _ (by omega)).trans HG1.out
  have d0:w1.cell? ⟨w.heap.size,0,none⟩=some (.string here):=cellsAt k0 0
  have d1:w1.cell? ⟨w.heap.size,1,none⟩=some (.slice ps ns cs):=cellsAt k0 1
  have d2:w1.cell? ⟨w.heap.size,2,none⟩=some (.slice pm nm cm):=cellsAt k0 2
  have d3:w1.cell? ⟨w.heap.size,3,none⟩=some (.int .i64 px):=cellsAt k0 3
  have d4:w1.cell? ⟨w.heap.size,4,none⟩=some (.int .i64 py):=cellsAt k0 4
  have d5:w1.cell? ⟨w.heap.size,5,none⟩=some (.int .i64 pz):=cellsAt k0 5
  have d6:w1.cell? ⟨w.heap.size,6,none⟩=some (.int .i64 ph):=cellsAt k0 6
  have d7:w1.cell? ⟨w.heap.size,7,none⟩=some (.int .i64 pq):=cellsAt k0 7
  have d8:w1.cell? ⟨w.heap.size,8,none⟩=some (.slice pw nw cw):=cellsAt k0 8
  have q0:w1.cell? ⟨w.heap.size+1,0,none⟩=some (.string qs):=cellsAt k1 0
  have q1:w1.cell? ⟨w.heap.size+1,1,none⟩=some (.string qt):=cellsAt k1 1
  have q2:w1.cell? ⟨w.heap.size+1,2,none⟩=some (.string qn):=cellsAt k1 2
  have q3:w1.cell? ⟨w.heap.size+1,3,none⟩=some (.string qc):=cellsAt k1 3
  clear k0 k1
  go_wp2_with fail
  refine Calls.mono (HF2.out w1 (HS.out.below HB1.out)) ?_
  rintro e w2 ⟨v2,rfl,ho2,hb2⟩
  have hs2:=hb2.size
  have HX2:Hid (Below W.heap.size W w2):=HX1.out.trans (hb2.mono hs1)
  have HB2:Hid (Below w.heap.size w w2):=HB1.out.trans (hb2.mono (by omega))
  have HSF:Hid (Sv.Sl w2 v2 FL):=Sv.own_names ho2 HFO.out
  clear d0 d1 d2 d3 d4 d5 d6 d7 d8 q0 q1 q2 q3 ho2 hb2
  have k0:w2.heap[w.heap.size]?=some (.cells (knA here (.slice ps ns cs) (.slice pm nm cm) px py pz ph pq (.slice pw nw cw)) 45 (0,0)):=(HX2.out.block _ (by omega)).trans HG0.out
  have d0:w2.cell? ⟨w.heap.size,0,none⟩=some (.string here):=cellsAt k0 0
  have d1:w2.cell? ⟨w.heap.size,1,none⟩=some (.slice ps ns cs):=cellsAt k0 1
  have d2:w2.cell? ⟨w.heap.size,2,none⟩=some (.slice pm nm cm):=cellsAt k0 2
  have d3:w2.cell? ⟨w.heap.size,3,none⟩=some (.int .i64 px):=cellsAt k0 3
  have d4:w2.cell? ⟨w.heap.size,4,none⟩=some (.int .i64 py):=cellsAt k0 4
  have d5:w2.cell? ⟨w.heap.size,5,none⟩=some (.int .i64 pz):=cellsAt k0 5
  have d6:w2.cell? ⟨w.heap.size,6,none⟩=some (.int .i64 ph):=cellsAt k0 6
  have d7:w2.cell? ⟨w.heap.size,7,none⟩=some (.int .i64 pq):=cellsAt k0 7
  have d8:w2.cell? ⟨w.heap.size,8,none⟩=some (.slice pw nw cw):=cellsAt k0 8
  clear k0
  go_wp2_with fail
  refine Calls.mono (HNE.out w2 v2 (HM.out.below HB2.out) (HW.out.below HB2.out) HSF.out) ?_
  rintro e X ⟨v3,rfl,hsl,hb3⟩
  have hs3:=hb3.size
  have HX3:Hid (Below W.heap.size W X):=HX2.out.trans (hb3.mono (by omega))
  have HB3:Hid (Below w.heap.size w X):=HB2.out.trans (hb3.mono (by omega))
  clear d0 d1 d2 d3 d4 d5 d6 d7 d8 hb3
  obtain ⟨pn,cn,rfl,hnz,hna⟩:=hsl
  have HNA:Hid (NL=[]∨∃ b off,pn=some ⟨b,off,none⟩∧b < X.heap.size∧Sv.Row X b off NL):=hna
  have HNZ:Hid (∀ j,(NL.getD j Sv.dm).ok):=hnz
  have K0:Hid (X.heap[w.heap.size]?=some (.cells (knA here (.slice ps ns cs) (.slice pm nm cm) px py pz ph pq (.slice pw nw cw)) 45 (0,0))):=(HX3.out.block _ (by omega)).trans HG0.out
  have K2:Hid (X.heap[w.heap.size+2]?=some (.cells #[.string name,.int .i64 t,.int .i64 0,.int .i64 0,.string ⟨#[]⟩,.int .i64 0,.string ⟨#[]⟩] 59 (0,0))):=(HX3.out.block _ (by omega)).trans HG2.out
  have hKX:w.heap.size+3≤X.heap.size:=by omega
  clear hna hnz
  generalize hnn:NL.length=n at *
  have HNN:Hid (NL.length=n):=hnn
  clear hnn
  go_wp2_with fail
  go_loopw [13,43] (fun vl i wr=>∃ k:Nat,k≤n∧i=.int .i64 k∧Hid (Rc.Own X.heap.size wr vl ((NL.take k).map (rec1 name here t)))∧Hid (Below X.heap.size X wr)∧Hid (∀ j,j < k→recE here t (NL.getD j Sv.dm)=0)) (fun _ i _=>n - (intOf i).toNat)
  case atStart=>exact ⟨0,Nat.zero_le _,rfl,Rc.own_nil _ _,Below.refl _ _,fun j hj=>absurd hj (Nat.not_lt_zero _)⟩
  case round=>
   obtain ⟨k,hk,rfl,HO,HB,HZ⟩:=hrel
   have hsr:=HB.out.size
   by_cases hlt:k < n
   ·obtain ⟨b,off,hp1,hl1,hr⟩:∃ b off,pn=some ⟨b,off,none⟩∧b < X.heap.size∧Sv.Row X b off NL:=by
     rcases HNA.out with h | h
     ·have:=HNN.out;rw [h] at this;simp at this;omega
     ·exact h
    subst hp1
    have hkl:k < NL.length:=by rw [HNN.out];exact hlt
    obtain ⟨c0,c1,c2,c3,c4,c5,c6,c7,c8⟩:=hr.later HB.out hl1 k hkl
    clear hr
    have HMS:Hid ((NL.take (k+1)).map (rec1 name here t)=(NL.take k).map (rec1 name here t)++[rec1 name here t (NL.getD k Sv.dm)]):=map_snoc hkl
    have hnd:(NL.getD k Sv.dm).node.size≤maxLen:=(HNZ.out k).1
    have HER:Hid (recE here t (NL.getD k Sv.dm)≠0→recsE here t NL=recE here t (NL.getD k Sv.dm)):=fun h=>recsE_at hkl HZ.out h
    have HZ2:Hid (recE here t (NL.getD k Sv.dm)=0→∀ j,j < k+1→recE here t (NL.getD j Sv.dm)=0):=fun h j hj=>by
     by_cases e:j=k
     ·subst e;exact h
     ·exact HZ.out j (by omega)
    have hRC:=fun W=>HREC.out (NL.getD k Sv.dm) W hnd
    have HRC:Hid _:=hRC
    clear hRC
    have hln:((NL.take k).map (rec1 name here t)).length≤20:=by rw [List.length_map];have:=List.length_take_le k NL;omega
    generalize NL.getD k Sv.dm=x at *
    generalize recE here t x=ek at *
    generalize rec1 name here t x=rk at *
    generalize (NL.take k).map (rec1 name here t)=DL at *
    obtain ⟨nd,idn,snm,tag,ad,po,pa1,ver,gon⟩:=x
    simp only at c0 c1 c2 c3 c4 c5 c6 c7 c8 hnd
    have hd:∀ ob,(wr.alloc ob).heap[w.heap.size]?=some (.cells (knA here (.slice ps ns cs) (.slice pm nm cm) px py pz ph pq (.slice pw nw cw)) 45 (0,0)):=fun ob=>by rw [Below.heap_alloc _ _ _ (by omega),HB.out.block _ (by omega)];exact K0.out
    have hd2:∀ ob,(wr.alloc ob).heap[w.heap.size+2]?=some (.cells #[.string name,.int .i64 t,.int .i64 0,.int .i64 0,.string ⟨#[]⟩,.int .i64 0,.string ⟨#[]⟩] 59 (0,0)):=fun ob=>by rw [Below.heap_alloc _ _ _ (by omega),HB.out.block _ (by omega)];exact K2.out
    have d0:∀ ob,(wr.alloc ob).cell? ⟨w.heap.size,0,none⟩=some (.string here):=fun ob=>cellsAt (hd ob) 0
    have d1:∀ ob,(wr.alloc ob).cell? ⟨w.heap.size,1,none⟩=some (.slice ps ns cs):=fun ob=>cellsAt (hd ob) 1
    have d2:∀ ob,(wr.alloc ob).cell? ⟨w.heap.size,2,none⟩=some (.slice pm nm cm):=fun ob=>cellsAt (hd ob) 2
    have d3:∀ ob,(wr.alloc ob).cell? ⟨w.heap.size,3,none⟩=some (.int .i64 px):=fun ob=>cellsAt (hd ob) 3
    have d4:∀ ob,(wr.alloc ob).cell? ⟨w.heap.size,4,none⟩=some (.int .i64 py):=fun ob=>cellsAt (hd ob) 4
    have d5:∀ ob,(wr.alloc ob).cell? ⟨w.heap.size,5,none⟩=some (.int .i64 pz):=fun ob=>cellsAt (hd ob) 5
    have d6:∀ ob,(wr.alloc ob).cell? ⟨w.heap.size,6,none⟩=some (.int .i64 ph):=fun ob=>cellsAt (hd ob) 6
    have d7:∀ ob,(wr.alloc ob).cell? ⟨w.heap.size,7,none⟩=some (.int .i64 pq):=fun ob=>cellsAt (hd ob) 7
    have d8:∀ ob,(wr.alloc ob).cell? ⟨w.heap.size,8,none⟩=some (.slice pw nw cw):=fun ob=>cellsAt (hd ob) 8
    have l0:∀ ob,(wr.alloc ob).cell? ⟨w.heap.size+1+1,0,none⟩=some (.string name):=fun ob=>cellsAt (hd2 ob) 0
    have l1:∀ ob,(wr.alloc ob).cell? ⟨w.heap.size+1+1,1,none⟩=some (.int .i64 t):=fun ob=>cellsAt (hd2 ob) 1
    have l2:∀ ob,(wr.alloc ob).cell? ⟨w.heap.size+1+1,2,none⟩=some (.int .i64 0):=fun ob=>cellsAt (hd2 ob) 2
    have l3:∀ ob,(wr.alloc ob).cell? ⟨w.heap.size+1+1,3,none⟩=some (.int .i64 0):=fun ob=>cellsAt (hd2 ob) 3
    have l4:∀ ob,(wr.alloc ob).cell? ⟨w.heap.size+1+1,4,none⟩=some (.string ⟨#[]⟩):=fun ob=>cellsAt (hd2 ob) 4
    have l5:∀ ob,(wr.alloc ob).cell? ⟨w.heap.size+1+1,5,none⟩=some (.int .i64 0):=fun ob=>cellsAt (hd2 ob) 5
    have l6:∀ ob,(wr.alloc ob).cell? ⟨w.heap.size+1+1,6,none⟩=some (.string ⟨#[]⟩):=fun ob=>cellsAt (hd2 ob) 6
    clear hd hd2
    go_wp2_with fail
    refine Calls.mono (HRC.out _) ?_
    rintro e w5 ⟨r,rfl,hrr,hb5⟩
    have hs5:wr.heap.size+1≤w5.heap.size:=by have:=hb5.size;simpa using this
    have HB5:Hid (Below X.heap.size X w5):=(HB.out.alloc hsr _).trans (hb5.mono (by simp<;>omega))
    have HO5:Hid (Rc.Own X.heap.size w5 u13 DL):=(HO.out.below ((Below.refl _ _).alloc (Nat.le_refl _) _)).below hb5
    clear hb5 d0 d1 d2 d3 d4 d5 d6 d7 d8 l0 l1 l2 l3 l4 l5 l6
    by_cases hz:ek=0
    ·have HZ3:Hid (∀ j,j < k+1→recE here t (NL.getD j Sv.dm)=0):=HZ2.out hz
     have HRR:Hid (r=rk):=hrr hz
     clear hrr HZ2 HER
     subst hz
     obtain ⟨rn,rt1,rl,ra,rx,rp,rg⟩:=r
     go_wp2_with (at_builtin;refine wpList_append_own _ rfl _ _ 36 rfl X.heap.size 59 i0 _ 7 80 Tryz.underlying36 hi0 hz0 hzs hzb rfl (by omega) _ DL.length (Rc.fl DL) rfl ?hown ⟨w5.heap.size+1,0,none⟩ 1 1 [.string rn,.int .i64 rt1,.int .i64 rl,.int .i64 ra,.string rx,.int .i64 rp,.string rg] rfl rfl ?hnews (Rc.cs_one ⟨rn,rt1,rl,ra,rx,rp,rg⟩) ?h63 ?hbytes ?hbase ?_)
     case hown=>exact HO5.out.below (((Below.refl _ _).alloc (Nat.le_refl _) _).alloc (by simp) _)
     case hnews=>(intro j u hj;rw [Addr.add_lit];exact (cell_topL (by simp)).trans (by simpa using hj))
     case h63=>(unfold maxLen;omega)
     case hbytes=>omega
     case hbase=>(simp;omega)
     intro v' w6 r1 r2 r3
     have HB6:Hid (Below X.heap.size X w6):=((HB5.out.alloc (by omega) _).alloc (by simp<;>omega) _).grown r2 (by simp<;>omega) (fun j hj=>(HO5.out.lt j hj).1)
     have HO6:Hid (Rc.Own X.heap.size w6 v' (DL++[⟨rn,rt1,rl,ra,rx,rp,rg⟩])):=Rc.own_snoc r1
     clear r1 r2 r3
     go_wp2_with fail
     go_roundw
     case rel=>exact ⟨k+1,by omega,by go_num,by rw [HMS.out,← HRR.out];exact HO6.out,HB6,HZ3⟩
     case measure=>simp [intOf];omega
    ·have HE:Hid (recsE here t NL=ek):=HER.out hz
     have HR:Hid (A=⟨[],0,ek⟩):=by have h:=HA3'.out (by rw [HE.out];exact hz);rw [HE.out] at h;exact h
     have hz':(ek != 0)=true:=by simpa using hz
     have HBE:Hid (Below w.heap.size w w5):=HB3.out.trans (HB5.out.mono (by omega))
     obtain ⟨rn,rt1,rl,ra,rx,rp,rg⟩:=r
     go_wp2_with fail
     go_ret3
     exact ⟨.slice none 0 0,by rw [HR.out];rfl,by rw [HR.out];exact Rc.own_nil _ _,HBE.out.alloc (by omega) _⟩
   ·have HE:Hid (recsE here t NL=0):=recsE_all fun j hj=>HZ.out j (by have:=HNN.out;omega)
    have HR:Hid (A=⟨NL.map (rec1 name here t),0,0⟩):=HA2'.out HE.out
    have HOE:Hid (Rc.Own w.heap.size wr u13 (NL.map (rec1 name here t))):=by
     have h:=HO.out
     rw [List.take_of_length_le (by rw [HNN.out];omega)] at h
     exact h.mono (by omega)
    have HBE:Hid (Below w.heap.size w wr):=HB3.out.trans (HB.out.mono (by omega))
    go_wp2_with fail
    go_ret3
    exact ⟨u13,by rw [HR.out];rfl,by rw [HR.out];exact HOE.out,HBE.out⟩
end Go.Proofs.YtignmeaeibaejaaGreatDoor
