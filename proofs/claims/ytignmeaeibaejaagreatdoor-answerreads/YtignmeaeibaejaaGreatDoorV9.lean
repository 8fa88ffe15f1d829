import Derived.Maps.OwnSet
import Derived.WalkKit
import Derived.Test.YtignmeaeibaejaaGreatDoorV5
import Derived.Test.YtignmeaeibaejaaGreatDoorV8
namespace Go.Proofs.YtignmeaeibaejaaGreatDoor
open Go.RowKit Go.WideMaps Go.Maps
abbrev kS (s:ByteArray):Lit:=.string s.data.toList
theorem kS_key (s:ByteArray):WideAt.IsKeyLit (kS s):=by simp [WideAt.IsKeyLit]
theorem kS_ne {a b:ByteArray} (h:a≠b):kS a≠kS b:=fun e=>h (by
 have h2:a.data.toList=b.data.toList:=by injection e
 obtain ⟨⟨a⟩⟩:=a
 obtain ⟨⟨b⟩⟩:=b
 simp at h2
 rw [h2])
def Dd (f:Wh.Whe→Int) (ms:List Wh.Whe):Nat→DataW Unit
 | 0=>.map []
 | k+1=>if Maps.has (Dd f ms k) (kS (ms.getD k Wh.dm).node)=true then Dd f ms k else (Dd f ms k).put (kS (ms.getD k Wh.dm).node) (.lit (.int .i64 (f (ms.getD k Wh.dm))))
theorem law9:Keyed Tryz.prog 9:=string_keyed Tryz.underlying9
theorem zero3' (w:World):(zeroValue 3).run Tryz.prog w=.ok (.int .i64 0) w:=by kernel_rfl
theorem run_makeMapHint (n:Int) (w:World):(Instr.makeMap 179 (some (.int .i64 n))).run Tryz.prog w=.ok (.map (some w.heap.size)) (w.alloc (.map #[] 0)):=by
 have h:=run_underlying Tryz.underlying179
 simp [Instr.makeMap,h,asInt,newObj]
 rfl
theorem look_any {w:World} {b n:Nat} {D:DataW Unit} (h:w.ownsMap Tryz.prog 9 (plainElem (H:=Unit) Tryz.prog 3) b n D) {s:ByteArray} (hs:s.size≤maxLen) :
 ∃ c:Int,(Instr.lookup 179 (.map (some b)) (.string s) true).run Tryz.prog w=.ok (.tuple #[.int .i64 c,.bool (Maps.has D (kS s))]) w∧D.atKey (kS s) (.lit (.int .i64 0))=.lit (.int .i64 c):=by
 obtain ⟨v,ps,hrun,hv⟩:=h.look_ok law9 Tryz.underlying179 (zero3' _) (plainElem_int Tryz.underlying3 (by decide)) (keyOf_string_mk Tryz.underlying9 hs)
 obtain ⟨c,rfl,hc,_⟩:=plainElem_int_inv Tryz.underlying3 hv
 exact ⟨c,hrun,congrArg Prod.fst hc⟩
def farW (p:Pl) (m:Wh.Whe):Int:=farI p (toPl (plc m))
theorem farW_bd {p:Pl} {m:Wh.Whe} (hp:OkP p) (hm:OkP (toPl (plc m))):0≤farW p m∧farW p m≤1000000000:=by
 obtain ⟨h1,h2⟩:=apartI_bd hp hm
 have h3:farW p m=apartI p (toPl (plc m))+p.h+(toPl (plc m)).h:=rfl
 have h4:=hp.h0
 have h5:=hp.h1
 have h6:=hm.h0
 have h7:=hm.h1
 omega
theorem wf_of {d:Int} (h0 : -9223372036854775808≤d) (h1:d≤9223372036854775807):(Lit.int .i64 d).wf=true:=by
 show (decide (IntKind.i64.min≤d) && decide (d≤IntKind.i64.max))=true
 rw [Bool.and_eq_true,decide_eq_true_eq,decide_eq_true_eq]
 exact ⟨h0,h1⟩
theorem map_below {w w':World} {b n:Nat} {D:DataW Unit} (h:w.ownsMap Tryz.prog 9 (plainElem (H:=Unit) Tryz.prog 3) b n D) (hb:Below w.heap.size w w'):w'.ownsMap Tryz.prog 9 (plainElem (H:=Unit) Tryz.prog 3) b n D:=by
 have hl:=h.lt
 obtain ⟨es,clock,h1,h2⟩:=h
 exact ⟨es,clock,(hb.block b hl).trans h1,h2⟩
set_option maxHeartbeats 6400000 in
set_option maxRecDepth 100000 in
theorem distances_any (p:Pl) (ms:List Wh.Whe) (v:Value) (w:World) (hv:Wh.Sl w v ms) (hn:ms.length≤100) (hp:OkP p) (hok:∀ j,j < ms.length→OkP (toPl (plc (ms.getD j Wh.dm)))) :
 Calls Tryz.prog 150 #[.agg #[.int .i64 p.x,.int .i64 p.y,.int .i64 p.z,.int .i64 p.h,.int .i64 p.s],v] w fun e w'=>∃ g,e=.returned (.map (some g))∧w'.ownsMap Tryz.prog 9 (plainElem (H:=Unit) Tryz.prog 3) g ms.length (Dd (farW p) ms ms.length)∧w.heap.size≤g∧g < w'.heap.size∧Below w.heap.size w w':=by
 obtain ⟨pa,ca,rfl,hsz,ha⟩:=hv
 have HA:Hid (ms=[]∨∃ b off,pa=some ⟨b,off,none⟩∧b < w.heap.size∧Wh.Row w b off ms):=ha
 have HS:Hid (∀ j,(ms.getD j Wh.dm).ok):=hsz
 have HOK:Hid (∀ j,j < ms.length→OkP (toPl (plc (ms.getD j Wh.dm)))):=hok
 have HPO:Hid (OkP p):=hp
 clear ha hsz hok hp
 generalize hN:ms.length=n at *
 have HN:Hid (ms.length=n):=hN
 clear hN
 have hmm:=run_makeMapHint
 go_enter Tryz.func150,Tryz.ntmps150
 go_wp2_with fail
 have hga:((w.alloc (.cells #[.int .i64 p.x,.int .i64 p.y,.int .i64 p.z,.int .i64 p.h,.int .i64 p.s] 25)).alloc (.map #[] 0)).heap[w.heap.size]?=some (.cells #[.int .i64 p.x,.int .i64 p.y,.int .i64 p.z,.int .i64 p.h,.int .i64 p.s] 25 (0,0)):=by
  rw [Below.heap_alloc _ _ _ (by simp)];exact heap_alloc_new w _
 have HBW:Hid (Below w.heap.size w ((w.alloc (.cells #[.int .i64 p.x,.int .i64 p.y,.int .i64 p.z,.int .i64 p.h,.int .i64 p.s] 25)).alloc (.map #[] 0))):=((Below.refl _ _).alloc (Nat.le_refl _) _).alloc (by simp) _
 have HM0:Hid (((w.alloc (.cells #[.int .i64 p.x,.int .i64 p.y,.int .i64 p.z,.int .i64 p.h,.int .i64 p.s] 25)).alloc (.map #[] 0)).ownsMap Tryz.prog 9 (plainElem (H:=Unit) Tryz.prog 3) (w.heap.size+1) 0 (.map [])):=by
  have h:=World.ownsMap_made (w.alloc (.cells #[.int .i64 p.x,.int .i64 p.y,.int .i64 p.z,.int .i64 p.h,.int .i64 p.s] 25)) Tryz.prog 9 (plainElem (H:=Unit) Tryz.prog 3)
  rw [show (w.alloc (.cells #[.int .i64 p.x,.int .i64 p.y,.int .i64 p.z,.int .i64 p.h,.int .i64 p.s] 25)).heap.size=w.heap.size+1 by simp] at h
  exact h
 generalize (w.alloc (.cells #[.int .i64 p.x,.int .i64 p.y,.int .i64 p.z,.int .i64 p.h,.int .i64 p.s] 25)).alloc (.map #[] 0)=W at *
 go_loopw [15] (fun i wr=>∃ k:Nat,k≤n∧i=.int .i64 k∧Hid (wr.ownsMap Tryz.prog 9 (plainElem (H:=Unit) Tryz.prog 3) (w.heap.size+1) k (Dd (farW p) ms k))∧Hid (Below w.heap.size w wr)∧Hid (wr.heap[w.heap.size]?=some (.cells #[.int .i64 p.x,.int .i64 p.y,.int .i64 p.z,.int .i64 p.h,.int .i64 p.s] 25 (0,0)))) (fun i _=>n - (intOf i).toNat)
 case atStart=>exact ⟨0,Nat.zero_le _,rfl,HM0,HBW,hga⟩
 case round=>
  obtain ⟨k,hk,rfl,HO,HB,HG⟩:=hrel
  have hlm:=HO.out.lt
  by_cases hlt:k < n
  ·obtain ⟨b,off,hp1,hl1,hr⟩:∃ b off,pa=some ⟨b,off,none⟩∧b < w.heap.size∧Wh.Row w b off ms:=by
    rcases HA.out with h | h
    ·have:=HN.out;rw [h] at this;simp at this;omega
    ·exact h
   subst hp1
   obtain ⟨c0,c1,c2,c3,c4,c5⟩:=hr.later HB.out hl1 k (by rw [HN.out];exact hlt)
   have hsz:(ms.getD k Wh.dm).node.size≤maxLen:=HS.out k
   have hkey:keyOf Tryz.prog 9 (.string (ms.getD k Wh.dm).node)=some (kS (ms.getD k Wh.dm).node):=keyOf_string_mk Tryz.underlying9 hsz
   obtain ⟨lc,hlk,_⟩:=look_any (HO.out.alloc (.cells #[.string (ms.getD k Wh.dm).node,.int .i64 (ms.getD k Wh.dm).x,.int .i64 (ms.getD k Wh.dm).y,.int .i64 (ms.getD k Wh.dm).z,.int .i64 (ms.getD k Wh.dm).h,.int .i64 (ms.getD k Wh.dm).s] 73)) hsz
   have HOM:Hid (OkP (toPl (plc (ms.getD k Wh.dm)))):=HOK.out k hlt
   have HDD:Hid (Dd (farW p) ms (k+1)=if Maps.has (Dd (farW p) ms k) (kS (ms.getD k Wh.dm).node)=true then Dd (farW p) ms k else (Dd (farW p) ms k).put (kS (ms.getD k Wh.dm).node) (.lit (.int .i64 (farW p (ms.getD k Wh.dm))))):=rfl
   generalize hD2:Dd (farW p) ms (k+1)=D2 at *
   have HD2:Hid (Dd (farW p) ms (k+1)=D2):=hD2
   clear hD2 hr
   generalize Dd (farW p) ms k=D at *
   generalize ms.getD k Wh.dm=m at *
   rcases hhas:Maps.has D (kS m.node) with _ | _
   ·rw [hhas] at hlk
    have HDP:Hid (D2=D.put (kS m.node) (.lit (.int .i64 (farW p m)))):=by have h:=HDD.out;rw [hhas] at h;exact h
    clear HDD
    have HFAR:Hid (∀ W,Calls Tryz.prog 161 #[.agg #[.int .i64 p.x,.int .i64 p.y,.int .i64 p.z,.int .i64 p.h,.int .i64 p.s],.agg #[.int .i64 m.x,.int .i64 m.y,.int .i64 m.z,.int .i64 m.h,.int .i64 m.s]] W fun e w'=>e=.returned (.int .i64 (farW p m))∧Below W.heap.size W w'):=fun W=>far_any p (toPl (plc m)) W HPO.out HOM.out
    have hfb:=farW_bd HPO.out HOM.out
    have HEL:Hid (plainElem (H:=Unit) Tryz.prog 3 (.int .i64 (farW p m))=some (.lit (.int .i64 (farW p m)),[])):=plainElem_int Tryz.underlying3 (wf_of (by omega) (by omega))
    generalize farW p m=fd at *
    obtain ⟨nd,x,y,z,h,s⟩:=m
    simp only at *
    go_wp2_with fail
    obtain ⟨X,hX⟩:∃ X,X=wr.alloc (.cells #[.string nd,.int .i64 x,.int .i64 y,.int .i64 z,.int .i64 h,.int .i64 s] 73):=⟨_,rfl⟩
    rw [← hX]
    have hbX:Below wr.heap.size wr X:=by rw [hX];exact (Below.refl _ _).alloc (Nat.le_refl _) _
    have hgx:X.heap[wr.heap.size]?=some (.cells #[.string nd,.int .i64 x,.int .i64 y,.int .i64 z,.int .i64 h,.int .i64 s] 73 (0,0)):=by rw [hX];exact heap_alloc_new wr _
    have hsX:X.heap.size=wr.heap.size+1:=by rw [hX];simp
    have hgf:X.heap[w.heap.size]?=some (.cells #[.int .i64 p.x,.int .i64 p.y,.int .i64 p.z,.int .i64 p.h,.int .i64 p.s] 25 (0,0)):=(hbX.block _ (by omega)).trans HG.out
    have HOX:Hid (X.ownsMap Tryz.prog 9 (plainElem (H:=Unit) Tryz.prog 3) (w.heap.size+1) k D):=map_below HO.out hbX
    have HBX:Hid (Below w.heap.size w X):=HB.out.trans (hbX.mono HB.out.size)
    have f0:X.cell? ⟨w.heap.size,0,none⟩=some (.int .i64 p.x):=cellsAt hgf 0
    have f1:X.cell? ⟨w.heap.size,1,none⟩=some (.int .i64 p.y):=cellsAt hgf 1
    have f2:X.cell? ⟨w.heap.size,2,none⟩=some (.int .i64 p.z):=cellsAt hgf 2
    have f3:X.cell? ⟨w.heap.size,3,none⟩=some (.int .i64 p.h):=cellsAt hgf 3
    have f4:X.cell? ⟨w.heap.size,4,none⟩=some (.int .i64 p.s):=cellsAt hgf 4
    have q0:X.cell? ⟨wr.heap.size,0,none⟩=some (.string nd):=cellsAt hgx 0
    have q1:X.cell? ⟨wr.heap.size,1,none⟩=some (.int .i64 x):=cellsAt hgx 1
    have q2:X.cell? ⟨wr.heap.size,2,none⟩=some (.int .i64 y):=cellsAt hgx 2
    have q3:X.cell? ⟨wr.heap.size,3,none⟩=some (.int .i64 z):=cellsAt hgx 3
    have q4:X.cell? ⟨wr.heap.size,4,none⟩=some (.int .i64 h):=cellsAt hgx 4
    have q5:X.cell? ⟨wr.heap.size,5,none⟩=some (.int .i64 s):=cellsAt hgx 5
    have HGF:Hid (X.heap[w.heap.size]?=some (.cells #[.int .i64 p.x,.int .i64 p.y,.int .i64 p.z,.int .i64 p.h,.int .i64 p.s] 25 (0,0))):=hgf
    have hkm:k < maxLen:=by unfold maxLen;omega
    clear hX hbX hgx hgf HG HO
    go_region_held3 (fun w'=>w'.cell? ⟨w.heap.size,0,none⟩=some (.int .i64 p.x)∧w'.cell? ⟨w.heap.size,1,none⟩=some (.int .i64 p.y)∧w'.cell? ⟨w.heap.size,2,none⟩=some (.int .i64 p.z)∧w'.cell? ⟨w.heap.size,3,none⟩=some (.int .i64 p.h)∧w'.cell? ⟨w.heap.size,4,none⟩=some (.int .i64 p.s)∧w'.cell? ⟨wr.heap.size,0,none⟩=some (.string nd)∧w'.cell? ⟨wr.heap.size,1,none⟩=some (.int .i64 x)∧w'.cell? ⟨wr.heap.size,2,none⟩=some (.int .i64 y)∧w'.cell? ⟨wr.heap.size,3,none⟩=some (.int .i64 z)∧w'.cell? ⟨wr.heap.size,4,none⟩=some (.int .i64 h)∧w'.cell? ⟨wr.heap.size,5,none⟩=some (.int .i64 s))
     (first
       | go_keep
       | (go_split_ands
          refine ⟨?_,?_,?_,?_,?_,?_,?_,?_,?_,?_,?_⟩
          all_goals ((rw [hgrow9.cell_far _ (by first | (show w.heap.size < _;have h9:=hb8.size;simp at h9;omega) | (show wr.heap.size < _;have h9:=hb8.size;simp at h9;omega)) (by intro e;have e2:=Option.some.inj e;first | omega | (simp only at e2;omega))];assumption)))
       | (go_split_ands
          refine ⟨?_,?_,?_,?_,?_,?_,?_,?_,?_,?_,?_⟩
          all_goals ((rw [hb8.cell (by first | (show w.heap.size < _;simp;omega) | (show wr.heap.size < _;simp;omega))];first | assumption | simp [*]))))
     (first
       | (go_at_call 161;refine (HFAR.out _).mono ?_;rintro e w8 ⟨rfl,hb8⟩;obtain ⟨w9,hrun9,hown9,hgrow9⟩:=(map_below (show X.drew.ownsMap _ _ _ _ _ _ from HOX.out.drew) hb8).update law9 Tryz.underlying179 hkm hkey HEL.out))
    have h8s:X.heap.size≤w8.heap.size:=by have h9:=hb8.size;simpa using h9
    have HB9:Hid (Below w.heap.size w w9):=(HBX.out.drew.trans (hb8.mono (by simp;omega))).grown hgrow9 (by omega) (fun j hj=>by cases hj;omega)
    have HG9:Hid (w9.heap[w.heap.size]?=some (.cells #[.int .i64 p.x,.int .i64 p.y,.int .i64 p.z,.int .i64 p.h,.int .i64 p.s] 25 (0,0))):=by
     have h1:=hgrow9.block w.heap.size (by omega) (by intro e;have e2:=Option.some.inj e;omega)
     have h2:=hb8.block w.heap.size (by simp;omega)
     exact h1.trans (h2.trans HGF.out)
    have HO9:Hid (w9.ownsMap Tryz.prog 9 (plainElem (H:=Unit) Tryz.prog 3) (w.heap.size+1) (k+1) (D.put (kS nd) (.lit (.int .i64 fd)))):=hown9
    clear hb8 hrun9 hown9 hgrow9
    go_wp2_with fail
    exact ⟨⟨k+1,by omega,by go_num,by rw [HD2.out,HDP.out];exact HO9.out,HB9,HG9⟩,by simp [intOf];omega⟩
   ·rw [hhas] at hlk
    have HDP:Hid (D2=D):=by have h:=HDD.out;rw [hhas] at h;exact h
    clear HDD
    obtain ⟨nd,x,y,z,h,s⟩:=m
    simp only at *
    go_wp2_with fail
    have hba:Below wr.heap.size wr (wr.alloc (.cells #[.string nd,.int .i64 x,.int .i64 y,.int .i64 z,.int .i64 h,.int .i64 s] 73)):=(Below.refl _ _).alloc (Nat.le_refl _) _
    exact ⟨⟨k+1,by omega,by go_num,by rw [HD2.out,HDP.out];exact (HO.out.alloc _).mono (by omega),HB.out.alloc HB.out.size _,(hba.block _ (by omega)).trans HG.out⟩,by simp [intOf];omega⟩
  ·have hkn:k=n:=by omega
   subst hkn
   go_wp2_with fail
   go_ret
   exact ⟨_,rfl,HO.out,by omega,hlm,HB.out⟩
def cmpZ (a b:Int):Int:=if a < b then -1 else if b < a then 1 else 0
set_option maxHeartbeats 800000 in
theorem compareZ_any (a b:Int) (w:World) :
 Calls Tryz.prog 155 #[.int .i64 a,.int .i64 b] w fun e w'=>e=.returned (.int .i64 (cmpZ a b))∧w'=w:=by
 go_enter Tryz.func155,Tryz.ntmps155
 go_wp2
 all_goals
  go_ret
  exact ⟨ret_int (by unfold cmpZ;(repeat' split)<;>omega),rfl⟩
def orZ (a b:Int):Int:=if a=0 then b else a
set_option maxHeartbeats 800000 in
theorem or_any (a b:Int) (g:Nat) (c:Nat) (w:World) (h0:w.cell? ⟨g,0,none⟩=some (.int .i64 a)) (h1:w.cell? ⟨g,1,none⟩=some (.int .i64 b)) :
 Calls Tryz.prog 100 #[.slice (some ⟨g,0,none⟩) 2 c] w fun e w'=>e=.returned (.int .i64 (orZ a b))∧w'=w:=by
 by_cases ha:a=0
 ·subst ha
  by_cases hb:b=0
  ·subst hb
   go_enter Tryz.func100,Tryz.ntmps100
   go_wp2_with fail
   refine wp_loop_rounds 3 ?_
   rw [rounds_succ]
   go_wp2_with fail
   rw [rounds_succ]
   go_wp2_with fail
   rw [rounds_succ]
   go_wp2_with fail
   go_ret
   exact ⟨rfl,rfl⟩
  ·have hb':(b != 0)=true:=by simpa using hb
   go_enter Tryz.func100,Tryz.ntmps100
   go_wp2_with fail
   refine wp_loop_rounds 3 ?_
   rw [rounds_succ]
   go_wp2_with fail
   rw [rounds_succ]
   go_wp2_with fail
   go_ret
   exact ⟨rfl,rfl⟩
 ·have ha':(a != 0)=true:=by simpa using ha
  go_enter Tryz.func100,Tryz.ntmps100
  go_wp2_with fail
  refine wp_loop_rounds 3 ?_
  rw [rounds_succ]
  go_wp2_with fail
  go_ret
  exact ⟨ret_int (by unfold orZ;rw [if_neg ha]),rfl⟩
def dV (D:DataW Unit) (s:ByteArray):Int:=if Maps.has D (kS s)=true then (match D.atKey (kS s) (.lit (.int .i64 0)) with | .lit (.int _ c)=>c | _=>0) else 9223372036854775807
set_option maxHeartbeats 800000 in
theorem dist_any (s:ByteArray) (kb g n:Nat) (D:DataW Unit) (w:World) (hs:s.size≤maxLen) (hk:w.cell? ⟨kb,0,none⟩=some (.map (some g))) (hm:w.ownsMap Tryz.prog 9 (plainElem (H:=Unit) Tryz.prog 3) g n D) :
 Calls Tryz.prog 151 #[.string s,.pointer (some ⟨kb,0,none⟩)] w fun e w'=>e=.returned (.int .i64 (dV D s))∧w'=w:=by
 obtain ⟨c,hl,hc⟩:=look_any hm hs
 have HV:Hid (dV D s=if Maps.has D (kS s)=true then c else 9223372036854775807):=by
  show dV D s=_
  unfold dV;rw [hc]
 clear hc hm
 rcases hh:Maps.has D (kS s) with _ | _
 ·rw [hh] at hl
  have HV2:Hid (dV D s=9223372036854775807):=by have h:=HV.out;rw [hh] at h;exact h
  clear HV
  go_enter Tryz.func151,Tryz.ntmps151
  go_wp2_with fail
  go_ret
  exact ⟨ret_int HV2.out.symm,rfl⟩
 ·rw [hh] at hl
  have HV2:Hid (dV D s=c):=by have h:=HV.out;rw [hh] at h;exact h
  clear HV
  go_enter Tryz.func151,Tryz.ntmps151
  go_wp2_with fail
  go_ret
  exact ⟨ret_int HV2.out.symm,rfl⟩
set_option maxHeartbeats 3200000 in
set_option maxRecDepth 100000 in
theorem cmp2_any (a b:ByteArray) (db kb g n:Nat) (D:DataW Unit) (w:World) (ha:a.size≤maxLen) (hb:b.size≤maxLen) (hd:w.cell? ⟨db,0,none⟩=some (.func (.func 151) #[] #[.pointer (some ⟨kb,0,none⟩)])) (hk:w.cell? ⟨kb,0,none⟩=some (.map (some g))) (hm:w.ownsMap Tryz.prog 9 (plainElem (H:=Unit) Tryz.prog 3) g n D) :
 Calls Tryz.prog 154 #[.string a,.string b,.pointer (some ⟨db,0,none⟩)] w fun e w'=>e=.returned (.int .i64 (orZ (cmpZ (dV D a) (dV D b)) (cmpI a b)))∧w'=(w.alloc (.cells #[.int .i64 (cmpZ (dV D a) (dV D b)),.int .i64 (cmpI a b)] 3)).drew:=by
 have HD:Hid (∀ s:ByteArray,(s=a∨s=b)→∀ W:World,W.heap=w.heap→Calls Tryz.prog 151 #[.string s,.pointer (some ⟨kb,0,none⟩)] W fun e w'=>e=.returned (.int .i64 (dV D s))∧w'=W):=fun s hs W hW=>by
  have hsz:s.size≤maxLen:=by rcases hs with rfl | rfl<;>assumption
  refine dist_any s kb g n D W hsz ?_ ?_
  ·rw [← hk];unfold World.cell?;rw [hW]
  ·obtain ⟨es,cl,h1,h2⟩:=hm
   exact ⟨es,cl,by rw [hW];exact h1,h2⟩
 have h1:=World.new_ne w _ hd
 clear hm hk
 go_enter Tryz.func154,Tryz.ntmps154
 go_wp2_with fail
 go_region_held3 (fun w'=>w'.cell? ⟨db,0,none⟩=some (.func (.func 151) #[] #[.pointer (some ⟨kb,0,none⟩)])) (go_keep) (first | (go_at_call 151;refine (HD.out _ ?_ _ ?_).mono ?_;(focus simp);(focus rfl);rintro e w' ⟨rfl,rfl⟩) | (go_at_call 155;refine (compareZ_any _ _ _).mono ?_;rintro e w' ⟨rfl,rfl⟩) | (go_at_call 101;refine (compare_any _ _ _).mono ?_;rintro e w' ⟨rfl,rfl⟩) | (go_at_call 100;refine (or_any (cmpZ (dV D a) (dV D b)) (cmpI a b) _ _ _ (cell_topL rfl) (cell_topL rfl)).mono ?_;rintro e w' ⟨rfl,rfl⟩))
 go_wp2_with fail
 go_ret
 exact ⟨rfl,rfl⟩
end Go.Proofs.YtignmeaeibaejaaGreatDoor
namespace Go.Proofs.YtignmeaeibaejaaGreatDoor
open Go.RowKit
theorem below_drewN {B:Nat} {w w1:World} (h:Below B w w1) (m:Nat):Below B w (w1.drewN m):=⟨h.os,h.tape,h.output,h.size,h.block⟩
def TRow (w:World) (b off:Nat) (ss:List ByteArray):Prop:=∀ j,j < ss.length→w.cell? ⟨b,off+j,none⟩=some (.string (ss.getD j ByteArray.empty))
def TSl (w:World) (v:Value) (ss:List ByteArray):Prop:=
 ∃ (a:Option Addr) (cap:Nat),v=.slice a ss.length cap∧(∀ j,(ss.getD j ByteArray.empty).size≤maxLen)∧(ss=[]∨∃ b off,a=some ⟨b,off,none⟩∧b < w.heap.size∧TRow w b off ss)
theorem TSl.below {w w':World} {v:Value} {ss:List ByteArray} (h:TSl w v ss) (hb:Below w.heap.size w w'):TSl w' v ss:=by
 obtain ⟨a,c,hv,hn,h⟩:=h
 refine ⟨a,c,hv,hn,?_⟩
 rcases h with h | ⟨b,off,ha,hlt,hr⟩
 ·exact .inl h
 ·exact .inr ⟨b,off,ha,Nat.lt_of_lt_of_le hlt hb.size,fun j hj=>(hb.cell (p:=⟨b,off+j,none⟩) hlt).trans (hr j hj)⟩
set_option maxHeartbeats 800000 in
theorem tclone_any (ss:List ByteArray) (v:Value) (w:World) (h:TSl w v ss) (hn:ss.length≤1000) :
 Calls Tryz.prog 152 #[v] w fun e w'=>∃ v',e=.returned v'∧OwnS w.heap.size w' v' ss∧Below w.heap.size w w':=by
 obtain ⟨a,cap,rfl,hs,h⟩:=h
 obtain ⟨i0,hi0,hz0,hzs,hzb⟩:=info_parts Tryz.info9
 cases a with
 | none=>
   have he:ss=[]:=by
    rcases h with h | ⟨b,off,h,_⟩
    ·exact h
    ·cases h
   subst he
   clear h hs
   have hnil:=fun (w:World)=>Lib.run_eql_slice_nil (P:=Tryz.prog) w 81 9 none 0 cap 0 0 Tryz.underlying81
   simp only [List.length_nil,Option.isNone_none] at hnil ⊢
   go_enter Tryz.func152,Tryz.ntmps152
   go_wp2_with fail
   go_ret
   exact ⟨_,rfl,ownS_nil _ _,Below.refl _ _⟩
 | some a=>
   have hnil:=fun (w:World)=>Lib.run_eql_slice_nil (P:=Tryz.prog) w 81 9 (some a) ss.length cap 0 0 Tryz.underlying81
   simp only [Option.isNone_some] at hnil
   have hnews:Hid (∀ j u,(ss.map Value.string)[j]?=some u→(w.alloc (.cells #[] 9)).cell? (a.add j)=some u):=by
    intro j u hj
    rcases h with h | ⟨b,off,h,hb,hr⟩
    ·subst h;simp at hj
    ·cases h
     have hl:j < ss.length:=by have:=(List.getElem?_eq_some_iff.1 hj).1;simpa using this
     rw [Addr.add_lit,World.cell?_alloc_past (w:=w) _ b _ hb,hr j hl]
     simpa [List.getD,List.getElem?_eq_getElem hl] using hj
   have HO:Hid ((w.alloc (.cells #[] 9)).ownsRow w.heap.size 9 1 (.slice (some ⟨w.heap.size,0,none⟩) 0 0) 0 []):=World.ownsRow_made w #[] 0 (Nat.le_refl _) (by unfold maxLen;omega) rfl
   clear h hs
   go_enter Tryz.func152,Tryz.ntmps152
   go_wp2_with (at_builtin;refine wpList_append_own _ rfl _ _ 81 rfl w.heap.size 9 i0 _ 1 16 Tryz.underlying81 hi0 hz0 hzs hzb rfl (by omega) _ 0 [] rfl HO.out a ss.length cap (ss.map Value.string) rfl (by simp) hnews.out (strs_one ss) (by unfold maxLen;omega) (by omega) (by simp) ?_)
   intro v' w' r1 r2 r3
   go_wp2_with fail
   go_ret
   refine ⟨v',rfl,?_,?_⟩
   ·simpa using r1
   ·exact ((Below.refl _ _).alloc (Nat.le_refl _) _).grown r2 (by simp) (fun k hk=>by simp [Value.ownBlock] at hk;omega)
end Go.Proofs.YtignmeaeibaejaaGreatDoor
