import Derived.Test.YtffdoiokmiklgaaGreatDoorX30
import Derived.Deep.Cut
import Derived.WalkKit
import Derived.Test.YtffdoiokmiklgaaGreatDoorX24
namespace Go.Proofs.YtffdoiokmiklgaaGreatDoor
open Go.RowKit
theorem IsQ.lt {c:Nat} {s:ByteArray} {o:Option (List UInt8)} {w:World} (h:IsQ c s o w):c < w.heap.size:=by
 obtain ⟨a,_,_,hq⟩:=h
 exact (Array.getElem?_eq_some_iff.1 hq).1
theorem cnum_any {c:Nat} {s:ByteArray} {o:Option (List UInt8)} {w:World} (h:IsQ c s o w) (hs:s.size≤16777216) :
 Calls Tryz.prog 52 #[.pointer (some ⟨c,0,none⟩)] w fun e w'=>e=.returned (.int .i64 (cN o).1)∧IsQ c s (cN o).2 w'∧Rp c w w':=by
 obtain ⟨a,ha,hl,hq⟩:=h
 refine (cnum_walk c a s o.isNone w hq hs ha).mono ?_
 rintro e w' ⟨hr,⟨⟨h1,h2,h3⟩,rfl,h5⟩ | ⟨h1,rfl,b,hb,h5⟩⟩
 ·cases o with
  | none=>cases h1
  | some l=>
    have e0:=hl l rfl
    rw [e0] at h2 h3 h5 ⊢
    have hd:cN (some l)=(val l,some (l.drop (far l+1))):=by unfold cN;rw [Option.bind_some,dN_yes h3]
    rw [hd]
    refine ⟨rfl,⟨a+far l+1,?_,?_,h5⟩,hr⟩
    ·have:=congrArg List.length e0
     rw [List.length_drop] at this
     have h6:s.data.toList.length=s.size:=rfl
     omega
    ·intro l' hl'
     simp only [Option.some.injEq] at hl'
     subst hl'
     rw [← e0,List.drop_drop]
     congr 1
 ·cases o with
  | none=>exact ⟨rfl,⟨b,hb,fun l hl=>(by cases hl),h5⟩,hr⟩
  | some l=>
    have e0:=hl l rfl
    rw [e0] at h1
    have hd:cN (some l)=(0,none):=by
     unfold cN
     rw [Option.bind_some,dN_no (fun h=>h1 ⟨rfl,h⟩)]
    rw [hd]
    exact ⟨rfl,⟨b,hb,fun l hl=>(by cases hl),h5⟩,hr⟩
theorem cN_in (o:Option (List UInt8)):In63 (cN o).1:=by
 cases hn:(cN o).2 with
 | some r=>exact sm_in (cN_eq hn).2
 | none=>
   unfold cN at hn ⊢
   split
   ·rename_i a ha
    rw [ha] at hn
    cases hn
   ·exact ⟨by omega,by omega⟩
theorem cN_bad {o:Option (List UInt8)} (h:(cN o).2=none):(cN o).1=0:=by
 unfold cN at h ⊢
 split
 ·rename_i a ha
  rw [ha] at h
  cases h
 ·rfl
set_option maxHeartbeats 3200000 in
set_option maxRecDepth 100000 in
theorem cyes_any {c:Nat} {s:ByteArray} {o:Option (List UInt8)} {w:World} (h:IsQ c s o w) (hs:s.size≤16777216) :
 Calls Tryz.prog 50 #[.pointer (some ⟨c,0,none⟩)] w fun e w'=>e=.returned (.bool (cY o).1)∧IsQ c s (cY o).2 w'∧Rp c w w':=by
 have HN:Hid (Calls Tryz.prog 52 #[.pointer (some ⟨c,0,none⟩)] w fun e w'=>e=.returned (.int .i64 (cN o).1)∧IsQ c s (cN o).2 w'∧Rp c w w'):=cnum_any h hs
 have HY:Hid (cY o=match (cN o).2 with
  | some r=>if (cN o).1=0 then (false,some r) else if (cN o).1=1 then (true,some r) else (false,none)
  | none=>(false,none)):=rfl
 have HB0:Hid ((cN o).2=none→(cN o).1=0):=cN_bad
 clear h
 generalize cY o=Y at *
 generalize (cN o).1=n at *
 generalize (cN o).2=q at *
 obtain ⟨y,q'⟩:=Y
 simp only
 go_enter Tryz.func50,Tryz.ntmps50
 go_wp2_with fail
 refine HN.out.mono ?_
 rintro e w1 ⟨rfl,hq,hr⟩
 obtain ⟨a,ha,hl,hc⟩:=hq
 have HC:Hid (a≤s.size∧(∀ l,q=some l→s.data.toList.drop a=l)∧QC c s a q.isNone w1∧Rp c w w1):=⟨ha,hl,hc,hr⟩
 obtain ⟨y0,y1,y2⟩:=cells3 hc
 have z2:=free3 hc 2
 clear hl hc hr HN
 cases q with
 | none=>
   have h0:n=0:=HB0.out rfl
   subst h0
   have hY:=HY.out
   simp only [Prod.mk.injEq] at hY
   obtain ⟨rfl,rfl⟩:=hY
   clear HY HB0
   have y2':w1.cell? ⟨c,2,none⟩=some (.bool true):=y2
   clear y2
   go_wp2_with fail
   go_ret
   exact ⟨rfl,⟨a,HC.out.1,fun l hl=>(by cases hl),HC.out.2.2.1.spoil true⟩,HC.out.2.2.2.one _⟩
 | some r=>
   have y2':w1.cell? ⟨c,2,none⟩=some (.bool false):=y2
   clear y2 HB0
   have hY:=HY.out
   simp only at hY
   clear HY
   by_cases h0:n=0
   ·subst h0
    rw [if_pos rfl] at hY
    simp only [Prod.mk.injEq] at hY
    obtain ⟨rfl,rfl⟩:=hY
    go_wp2_with fail
    go_ret
    exact ⟨rfl,⟨a,HC.out.1,HC.out.2.1,HC.out.2.2.1.spoil false⟩,HC.out.2.2.2.one _⟩
   ·rw [if_neg h0] at hY
    by_cases h1:n=1
    ·subst h1
     rw [if_pos rfl] at hY
     simp only [Prod.mk.injEq] at hY
     obtain ⟨rfl,rfl⟩:=hY
     go_wp2_with fail
     go_ret
     exact ⟨rfl,⟨a,HC.out.1,HC.out.2.1,HC.out.2.2.1.spoil false⟩,HC.out.2.2.2.one _⟩
    ·rw [if_neg h1] at hY
     simp only [Prod.mk.injEq] at hY
     obtain ⟨rfl,rfl⟩:=hY
     have e1:(n == 1)=false:=by simpa using h1
     by_cases hn:n < 0
     ·have d1:decide (n < 0)=true:=by simpa using hn
      go_wp2_with fail
      go_ret
      exact ⟨by first | rfl | (rw [e1];rfl) | simp [e1],⟨a,HC.out.1,fun l hl=>(by cases hl),HC.out.2.2.1.spoil true⟩,HC.out.2.2.2.one _⟩
     ·have d1:decide (n < 0)=false:=by simpa using hn
      have d2:decide (1 < n)=true:=by simp;omega
      go_wp2_with fail
      go_ret
      exact ⟨by first | rfl | (rw [e1];rfl) | simp [e1],⟨a,HC.out.1,fun l hl=>(by cases hl),HC.out.2.2.1.spoil true⟩,HC.out.2.2.2.one _⟩
set_option maxHeartbeats 3200000 in
set_option maxRecDepth 100000 in
theorem ccount_any {c:Nat} {s:ByteArray} {o:Option (List UInt8)} {w:World} (m:Int) (h:IsQ c s o w) (hs:s.size≤16777216) (hm:0≤m) :
 Calls Tryz.prog 51 #[.pointer (some ⟨c,0,none⟩),.int .i64 m] w fun e w'=>e=.returned (.int .i64 (cC m o).1)∧IsQ c s (cC m o).2 w'∧Rp c w w':=by
 have HN:Hid (Calls Tryz.prog 52 #[.pointer (some ⟨c,0,none⟩)] w fun e w'=>e=.returned (.int .i64 (cN o).1)∧IsQ c s (cN o).2 w'∧Rp c w w'):=cnum_any h hs
 have HY:Hid (cC m o=match (cN o).2 with
  | some r=>if 0≤(cN o).1∧(cN o).1≤m then ((cN o).1,some r) else (0,none)
  | none=>(0,none)):=rfl
 have HB0:Hid ((cN o).2=none→(cN o).1=0):=cN_bad
 clear h
 generalize cC m o=Y at *
 generalize (cN o).1=n at *
 generalize (cN o).2=q at *
 obtain ⟨y,q'⟩:=Y
 simp only
 go_enter Tryz.func51,Tryz.ntmps51
 go_wp2_with fail
 refine HN.out.mono ?_
 rintro e w1 ⟨rfl,hq,hr⟩
 obtain ⟨a,ha,hl,hc⟩:=hq
 have HC:Hid (a≤s.size∧(∀ l,q=some l→s.data.toList.drop a=l)∧QC c s a q.isNone w1∧Rp c w w1):=⟨ha,hl,hc,hr⟩
 obtain ⟨y0,y1,y2⟩:=cells3 hc
 have z2:=free3 hc 2
 clear hl hc hr HN
 cases q with
 | none=>
   have h0:n=0:=HB0.out rfl
   subst h0
   have hY:=HY.out
   simp only [Prod.mk.injEq] at hY
   obtain ⟨rfl,rfl⟩:=hY
   clear HY HB0
   have y2':w1.cell? ⟨c,2,none⟩=some (.bool true):=y2
   clear y2
   have d1:decide (m < (0:Int))=false:=by simp;omega
   go_wp2_with fail
   go_ret
   exact ⟨rfl,⟨a,HC.out.1,fun l hl=>(by cases hl),HC.out.2.2.1⟩,HC.out.2.2.2⟩
 | some r=>
   have y2':w1.cell? ⟨c,2,none⟩=some (.bool false):=y2
   clear y2 HB0
   have hY:=HY.out
   simp only at hY
   clear HY
   by_cases h0:0≤n∧n≤m
   ·rw [if_pos h0] at hY
    simp only [Prod.mk.injEq] at hY
    obtain ⟨rfl,rfl⟩:=hY
    have d1:decide (y < 0)=false:=by simp;omega
    have d2:decide (m < y)=false:=by simp;omega
    clear h0
    go_wp2_with fail
    go_ret
    exact ⟨rfl,⟨a,HC.out.1,HC.out.2.1,HC.out.2.2.1⟩,HC.out.2.2.2⟩
   ·rw [if_neg h0] at hY
    simp only [Prod.mk.injEq] at hY
    obtain ⟨rfl,rfl⟩:=hY
    have HE:Hid (IsQ c s none (w1.setCell ⟨c,2,none⟩ (.bool true))∧Rp c w (w1.setCell ⟨c,2,none⟩ (.bool true))):=⟨⟨a,HC.out.1,fun l hl=>(by cases hl),HC.out.2.2.1.spoil true⟩,HC.out.2.2.2.one _⟩
    have c2n:(w1.setCell ⟨c,2,none⟩ (.bool true)).cell? ⟨c,2,none⟩=some (.bool true):=World.cell?_setCell_same _ _ _ y2'
    by_cases hn:n < 0
    ·have d1:decide (n < 0)=true:=by simpa using hn
     clear h0
     go_wp2_with fail
     go_ret
     exact ⟨rfl,HE.out⟩
    ·have d1:decide (n < 0)=false:=by simpa using hn
     have d2:decide (m < n)=true:=by simp;omega
     clear h0
     go_wp2_with fail
     go_ret
     exact ⟨rfl,HE.out⟩
set_option maxHeartbeats 6400000 in
set_option maxRecDepth 100000 in
theorem ctext_any {c:Nat} {s:ByteArray} {o:Option (List UInt8)} {w:World} (h:IsQ c s o w) (hs:s.size≤16777216) :
 Calls Tryz.prog 49 #[.pointer (some ⟨c,0,none⟩)] w fun e w'=>e=.returned (.string (cT o).1)∧IsQ c s (cT o).2 w'∧Rp c w w':=by
 have HN:Hid (Calls Tryz.prog 52 #[.pointer (some ⟨c,0,none⟩)] w fun e w'=>e=.returned (.int .i64 (cN o).1)∧IsQ c s (cN o).2 w'∧Rp c w w'):=cnum_any h hs
 have HY:Hid (cT o=match (cN o).2 with
  | some r=>if 0≤(cN o).1∧(cN o).1≤r.length then (bstr (r.take (cN o).1.toNat),some (r.drop (cN o).1.toNat)) else (⟨#[]⟩,none)
  | none=>(⟨#[]⟩,none)):=rfl
 have hin:=cN_in o
 clear h
 generalize cT o=Y at *
 generalize (cN o).1=n at *
 generalize (cN o).2=q at *
 obtain ⟨y,q'⟩:=Y
 simp only
 go_enter Tryz.func49,Tryz.ntmps49
 go_wp2_with fail
 refine HN.out.mono ?_
 rintro e w1 ⟨rfl,hq,hr⟩
 obtain ⟨a,ha,hl,hc⟩:=hq
 have HC:Hid (a≤s.size∧(∀ l,q=some l→s.data.toList.drop a=l)∧QC c s a q.isNone w1∧Rp c w w1):=⟨ha,hl,hc,hr⟩
 obtain ⟨y0,y1,y2⟩:=cells3 hc
 have z1:=free3 hc 1
 have z2:=free3 hc 2
 clear hc hr HN
 cases q with
 | none=>
   have hY:=HY.out
   simp only [Prod.mk.injEq] at hY
   obtain ⟨rfl,rfl⟩:=hY
   clear HY hl
   have y2':w1.cell? ⟨c,2,none⟩=some (.bool true):=y2
   clear y2
   go_wp2_with fail
   go_quiet (fail)
   go_wp2_with fail
   go_ret
   exact ⟨rfl,⟨a,HC.out.1,fun l hl=>(by cases hl),(show QC c s a true (w1.drewN nq) from HC.out.2.2.1).spoil true⟩,(HC.out.2.2.2.drewN _).one _⟩
 | some r=>
   have y2':w1.cell? ⟨c,2,none⟩=some (.bool false):=y2
   clear y2
   have hY:=HY.out
   simp only at hY
   clear HY
   have hrl:r.length=s.size - a:=by
    rw [← hl r rfl,List.length_drop];rfl
   have HLR:Hid (s.data.toList.drop a=r):=hl r rfl
   clear hl
   have hw1:IntKind.i64.wrap ((s.size:Int) - (a:Int))=(s.size:Int) - (a:Int):=by rw [IntKind.wrap_i64];omega
   by_cases h0:0≤n∧n≤r.length
   ·rw [if_pos h0] at hY
    obtain ⟨k,rfl⟩:∃ k:Nat,n=(k:Int):=⟨n.toNat,by omega⟩
    rw [Int.toNat_natCast] at hY
    simp only [Prod.mk.injEq] at hY
    obtain ⟨hy,rfl⟩:=hY
    have HYY:Hid (y=bstr (r.take k)):=hy
    have hk:a+k≤s.size:=by omega
    have d1:decide ((k:Int) < 0)=false:=by simp
    have d2:decide ((s.size:Int) - (a:Int) < (k:Int))=false:=by simp;omega
    have hw2:IntKind.i64.wrap ((a:Int)+(k:Int))=((a+k:Nat):Int):=by rw [IntKind.wrap_i64];omega
    have HX:Hid (s.extract a (a+k)=y):=by
     show _=_
     rw [HYY.out,← HLR.out,← bstr_mk (s.extract a (a+k)),ext_take,show a+k - a=k by omega]
    have HE:Hid (∀ W,QC c s a false W→Rp c w W→IsQ c s (some (r.drop k)) (W.setCell ⟨c,1,none⟩ (.int .i64 ((a+k:Nat):Int)))∧Rp c w (W.setCell ⟨c,1,none⟩ (.int .i64 ((a+k:Nat):Int)))):=fun W hW hR=>⟨⟨a+k,hk,fun l hl=>by
     simp only [Option.some.injEq] at hl
     subst hl
     rw [← HLR.out,List.drop_drop],hW.at (a+k)⟩,hR.one _⟩
    clear h0 hy hin hrl
    go_wp2_with fail
    go_quiet (fail)
    go_upto_region 6 with fail
    obtain ⟨W2,hW2⟩:∃ W2,W2=(w1.drewN nq).setCell ⟨c,1,none⟩ (.int .i64 ((a:Int)+(k:Int))):=⟨_,rfl⟩
    have HE2:Hid (IsQ c s (some (r.drop k)) W2∧Rp c w W2∧QC c s (a+k) false W2):=by
     rw [hW2]
     exact ⟨(HE.out (w1.drewN nq) HC.out.2.2.1 (HC.out.2.2.2.drewN _)).1,(HE.out (w1.drewN nq) HC.out.2.2.1 (HC.out.2.2.2.drewN _)).2,(show QC c s a false (w1.drewN nq) from HC.out.2.2.1).at (a+k)⟩
    rw [← hW2]
    clear hW2 y0 y1 y2' z1 z2 d1 d2 hw1 HE
    obtain ⟨y0,y1,y2⟩:=cells3 HE2.out.2.2
    have e1:IntKind.i64.wrap (((a+k:Nat):Int) - (k:Int))=(a:Int):=by rw [IntKind.wrap_i64];omega
    have e2:(0:Int)≤(a:Int):=by omega
    have e3:(a:Int)≤((a+k:Nat):Int):=by omega
    have e4:((a+k:Nat):Int)≤(s.size:Int):=by omega
    have e5:((a:Int)).toNat=a:=by omega
    have e6:(((a+k:Nat):Int)).toNat=a+k:=by omega
    generalize ((a+k:Nat):Int)=ak at *
    go_quiet (fail)
    go_wp2_with fail
    go_ret
    exact ⟨by first | (rw [HX.out];rfl) | (simp [HX.out]),HE2.out.1,HE2.out.2.1.drewN _⟩
   ·rw [if_neg h0] at hY
    simp only [Prod.mk.injEq] at hY
    obtain ⟨rfl,rfl⟩:=hY
    by_cases hn:n < 0
    ·have d1:decide (n < 0)=true:=by simpa using hn
     clear h0
     go_wp2_with fail
     go_quiet (fail)
     go_wp2_with fail
     go_ret
     exact ⟨rfl,⟨a,HC.out.1,fun l hl=>(by cases hl),(show QC c s a false (w1.drewN nq) from HC.out.2.2.1).spoil true⟩,(HC.out.2.2.2.drewN _).one _⟩
    ·have d1:decide (n < 0)=false:=by simpa using hn
     have d2:decide ((s.size:Int) - (a:Int) < n)=true:=by simp;omega
     clear h0
     go_wp2_with fail
     go_quiet (fail)
     go_wp2_with fail
     go_ret
     exact ⟨rfl,⟨a,HC.out.1,fun l hl=>(by cases hl),(show QC c s a false (w1.drewN nq) from HC.out.2.2.1).spoil true⟩,(HC.out.2.2.2.drewN _).one _⟩
def regIn (n:Nat):Code→Option Code
 | .region m ops d=>if m=n then some (.region m ops d) else none
 | .loop c=>regIn n c
 | .seq a b=>match regIn n a with
   | some c=>some c
   | none=>regIn n b
 | .block _ c=>regIn n c
 | .cond _ a b=>match regIn n a with
   | some c=>some c
   | none=>regIn n b
 | _=>none
def blkIn (n:Nat):Code→Option Code
 | .loop c=>blkIn n c
 | .seq a b=>match blkIn n a with
   | some c=>some c
   | none=>blkIn n b
 | .block m c=>if m=n then some (.block m c) else blkIn n c
 | .cond _ a b=>match blkIn n a with
   | some c=>some c
   | none=>blkIn n b
 | _=>none
structure R2 (c p:Nat) (w w':World):Prop where
 os:w'.os=w.os
 tape:w'.tape=w.tape
 output:w'.output=w.output
 size:w.heap.size≤w'.heap.size
 block:∀ k:Nat,k < w.heap.size→k≠c→k≠p→w'.heap[k]?=w.heap[k]?
theorem R2.refl (c p:Nat) (w:World):R2 c p w w:=⟨rfl,rfl,rfl,Nat.le_refl _,fun _ _ _ _=>rfl⟩
theorem R2.rp {c p:Nat} {w w1 w2:World} (h:R2 c p w w1) (h2:Rp c w1 w2):R2 c p w w2:=
 ⟨h2.os.trans h.os,h2.tape.trans h.tape,h2.output.trans h.output,Nat.le_trans h.size h2.size,fun k hk hc hp=>(h2.block k (Nat.lt_of_lt_of_le hk h.size) hc).trans (h.block k hk hc hp)⟩
theorem R2.set {c p:Nat} {w w1:World} (h:R2 c p w w1) (j:Nat) (v:Value):R2 c p w (w1.setCell ⟨p,j,none⟩ v):=
 ⟨h.os,h.tape,h.output,by simpa using h.size,fun k hk hc hp=>(Below.heap_setCell _ _ _ k hp).trans (h.block k hk hc hp)⟩
theorem R2.below {c p B:Nat} {w w1 w2:World} (h:R2 c p w w1) (h2:Below B w1 w2) (hB:w.heap.size≤B):R2 c p w w2:=
 ⟨h2.os.trans h.os,h2.tape.trans h.tape,h2.output.trans h.output,Nat.le_trans h.size h2.size,fun k hk hc hp=>(h2.block k (by omega)).trans (h.block k hk hc hp)⟩
theorem Rp.new {c b j:Nat} {w w1:World} (h:Rp c w w1) (hb:w.heap.size≤b) (v:Value):Rp c w (w1.setCell ⟨b,j,none⟩ v):=
 ⟨h.os,h.tape,h.output,by simpa using h.size,fun k hk hc=>(Below.heap_setCell _ _ _ k (by show k≠b;omega)).trans (h.block k hk hc)⟩
theorem IsQ.set {c b j:Nat} {s:ByteArray} {o:Option (List UInt8)} {w:World} (h:IsQ c s o w) (hb:c≠b) (v:Value):IsQ c s o (w.setCell ⟨b,j,none⟩ v):=by
 obtain ⟨a,h1,h2,hq⟩:=h
 exact ⟨a,h1,h2,(Below.heap_setCell _ _ _ c hb).trans hq⟩
theorem IsQ.below {c B:Nat} {s:ByteArray} {o:Option (List UInt8)} {w w':World} (h:IsQ c s o w) (hb:Below B w w') (hc:c < B):IsQ c s o w':=by
 obtain ⟨a,h1,h2,hq⟩:=h
 exact ⟨a,h1,h2,(hb.block c hc).trans hq⟩
theorem IsQ.bad {c:Nat} {s:ByteArray} {o:Option (List UInt8)} {w:World} (h:IsQ c s o w):w.cell? ⟨c,2,none⟩=some (.bool o.isNone):=by
 obtain ⟨a,h1,h2,hq⟩:=h
 exact cellsAt hq 2
end Go.Proofs.YtffdoiokmiklgaaGreatDoor
namespace Go.Proofs.YtffdoiokmiklgaaGreatDoor
namespace Sv
open Go.RowKit
theorem cLs_end {n:Nat} {o:Option (List UInt8)} {D:List Svc} (h:n=0∨o=none):cLs n o D=(D,o):=by
 rcases h with rfl | rfl
 ·cases o<;>rfl
 ·exact cLs_bad n D
set_option maxHeartbeats 100000000 in
set_option maxRecDepth 1000000 in
theorem loop_c {u0 u1 u2 u3 u7 u8 ac ae af ai aj an ap av ay az aA aB aC aD aE aF aI aJ aK aL aM aN aO aP aQ aR aT aU aV aW aX aY aZ ba bb bc bd be bf bi bj bk bl bo bp bq bt bu bv bz bA bB bC bD bE bF bJ bK bL bM bN bO bP bQ bR bT bU bV bW bX bY bZ cd cf ci cj cv cy cz cA cB cD cE cF cG cH cI cJ cK cL cM cO cP cQ cR cS cU cV cW cX cZ da db dd de df dg dh di dj dk dn dp dt du dv dw dx dy dz dA dB dC dD dE dF dG dH dI dJ dK dL dM dO dP dQ dR dS dU dV dW dX dY dZ ea eb ec ed ee ei ej ek el en eo ep eq et eu ey ez eA eB eC eD eE eF eG eH eI eJ eK eL eM eN eO eP eQ eR eS eT eU eV eW eX eY eZ fa:Value} (w:World) (s:ByteArray) (c pb M:Nat) (o:Option (List UInt8)) (p0 p1 p2 p4 p5:Value) (hs:s.size≤16777216) (hM:M≤40) (hq:IsQ c s o w) (hcp:c≠pb) (hp:w.heap[pb]?=some (.cells #[p0,p1,p2,.slice none 0 0,p4,p5] 67 (0,0))) (Q:Exit→Act→World→Prop)
 (hN:∀ (y9 fb fc fe ff fg fh fj fk fm fo fp fq ft fu fw fx fy fA fB fC fD fE fF fG fH fI fJ fK fL fM fN fO fP fQ fR fS fT fU fV fW fX fY fZ ga gb gc:Value) (ao:Option Addr) (lo co:Nat) (W:World),Hid (IsQ c s (cLs M o []).2 W)→Hid (W.heap[pb]?=some (.cells #[p0,p1,p2,.slice ao lo co,p4,p5] 67 (0,0)))→Hid (Own w.heap.size W (.slice ao lo co) (cLs M o []).1)→Hid (R2 c pb w W)→Q .normal ⟨#[u0,u1,u2,u3,.pointer (some ⟨c,0,none⟩),.pointer (some ⟨pb,0,none⟩),.int .i64 (M:Int),u7,u8,y9,fb,ae,af,ai,aj,an,ap,av,ay,az,aA,aB,aC,aD,aE,aF,aI,aJ,aK,aL,aM,aN,aO,aP,aQ,aR,aT,aU,aV,aW,aX,aY,aZ,ba,bb,bc,bd,be,bf,bi,bj,bk,bl,bo,bp,bq,bt,bu,bv,bz,bA,fc,fe,ff,fg,fh,fj,fk,fm,fo,fp,fq,ft,fu,fw,fx,fy,fA,fB,fC,fD,fE,fF,fG,fH,fI,fJ,fK,fL,fM,fN,fO,fP,fQ,fR,fS,fT,fU,fV,fW,fX,fY,fZ,ga,gb,gc,cU,cV,cW,cX,cZ,da,db,dd,de,df,dg,dh,di,dj,dk,dn,dp,dt,du,dv,dw,dx,dy,dz,dA,dB,dC,dD,dE,dF,dG,dH,dI,dJ,dK,dL,dM,dO,dP,dQ,dR,dS,dU,dV,dW,dX,dY,dZ,ea,eb,ec,ed,ee,ei,ej,ek,el,en,eo,ep,eq,et,eu,ey,ez,eA,eB,eC,eD,eE,eF,eG,eH,eI,eJ,eK,eL,eM,eN,eO,eP,eQ,eR,eS,eT,eU,eV,eW,eX,eY,eZ,fa],[]⟩ W) :
 Code.wp Tryz.prog ((Tryz.f23.body.bind (blkIn 2)).getD .skip) Q ⟨#[u0,u1,u2,u3,.pointer (some ⟨c,0,none⟩),.pointer (some ⟨pb,0,none⟩),.int .i64 (M:Int),u7,u8,.int .i64 0,ac,ae,af,ai,aj,an,ap,av,ay,az,aA,aB,aC,aD,aE,aF,aI,aJ,aK,aL,aM,aN,aO,aP,aQ,aR,aT,aU,aV,aW,aX,aY,aZ,ba,bb,bc,bd,be,bf,bi,bj,bk,bl,bo,bp,bq,bt,bu,bv,bz,bA,bB,bC,bD,bE,bF,bJ,bK,bL,bM,bN,bO,bP,bQ,bR,bT,bU,bV,bW,bX,bY,bZ,cd,cf,ci,cj,cv,cy,cz,cA,cB,cD,cE,cF,cG,cH,cI,cJ,cK,cL,cM,cO,cP,cQ,cR,cS,cU,cV,cW,cX,cZ,da,db,dd,de,df,dg,dh,di,dj,dk,dn,dp,dt,du,dv,dw,dx,dy,dz,dA,dB,dC,dD,dE,dF,dG,dH,dI,dJ,dK,dL,dM,dO,dP,dQ,dR,dS,dU,dV,dW,dX,dY,dZ,ea,eb,ec,ed,ee,ei,ej,ek,el,en,eo,ep,eq,et,eu,ey,ez,eA,eB,eC,eD,eE,eF,eG,eH,eI,eJ,eK,eL,eM,eN,eO,eP,eQ,eR,eS,eT,eU,eV,eW,eX,eY,eZ,fa],[]⟩ w:=by
 obtain ⟨i0,hi0,hz0,hzs,hzb⟩:=info_parts Tryz.info42
 conv=>arg 2;whnf
 have HQN:Hid _:=hN
 clear hN
 obtain ⟨RS,hRS⟩:∃ RS,RS=cLs M o []:=⟨_,rfl⟩
 rw [← hRS] at HQN
 have HRS0:Hid (cLs (M - 0) o []=RS):=hRS.symm
 have hcl:=hq.lt
 have hpl:pb < w.heap.size:=(Array.getElem?_eq_some_iff.1 hp).1
 have HQ0:Hid (IsQ c s o w∧w.heap[pb]?=some (.cells #[p0,p1,p2,.slice none 0 0,p4,p5] 67 (0,0))∧R2 c pb w w):=⟨hq,hp,R2.refl _ _ _⟩
 clear hRS hq hp
 go_wp2_with fail
 go_loopw [9] (fun i wr=>∃ (k:Nat) (D:List Svc) (o:Option (List UInt8)) (ao:Option Addr) (lo co:Nat),k≤M∧D.length=k∧i=.int .i64 k∧Hid (cLs (M - k) o D=RS)∧Hid (IsQ c s o wr∧wr.heap[pb]?=some (.cells #[p0,p1,p2,.slice ao lo co,p4,p5] 67 (0,0))∧R2 c pb w wr)∧Hid (Own w.heap.size wr (.slice ao lo co) D)) (fun i _=>M - (intOf i).toNat)
 case atStart=>exact ⟨0,[],o,none,0,0,Nat.zero_le _,rfl,rfl,HRS0,HQ0,own_nil _ _⟩
 case round=>
  obtain ⟨k,D,o,ao,lo,co,hk,hDk0,rfl,HRS,HS,HO⟩:=hrel
  have HDK:Hid (D.length=k):=hDk0
  have hDl:D.length≤40:=by omega
  clear hDk0
  have y2:=HS.out.1.bad
  by_cases hlt:k < M
  ·have hd:decide ((k:Int) < (M:Int))=true:=by simp;omega
   cases o with
   | none=>
     have y2':wr.cell? ⟨c,2,none⟩=some (.bool true):=y2
     clear y2
     have HFN:Hid (RS=(D,none)):=(show _=_ by rw [← HRS.out,cLs_end (.inr rfl)])
     clear HRS
     go_wp2_with fail
     refine HQN.out _ _ _ _ _ _ _ _ _ _ _ _ _ _ _ _ _ _ _ _ _ _ _ _ _ _ _ _ _ _ _ _ _ _ _ _ _ _ _ _ _ _ _ _ _ _ _ ao lo co wr ?_ HS.out.2.1 ?_ HS.out.2.2
     ·show IsQ _ _ _ _
      rw [HFN.out];exact HS.out.1
     ·show Own _ _ _ _
      rw [HFN.out];exact HO.out
   | some l=>
     have y2':wr.cell? ⟨c,2,none⟩=some (.bool false):=y2
     clear y2
     obtain ⟨x0,o1,hx0⟩:∃ x o',cT (some l)=(x,o'):=⟨_,_,rfl⟩
     obtain ⟨x1,o2,hx1⟩:∃ x o',cT o1=(x,o'):=⟨_,_,rfl⟩
     obtain ⟨x2,o3,hx2⟩:∃ x o',cT o2=(x,o'):=⟨_,_,rfl⟩
     obtain ⟨x3,o4,hx3⟩:∃ x o',cT o3=(x,o'):=⟨_,_,rfl⟩
     obtain ⟨x4,o5,hx4⟩:∃ x o',cN o4=(x,o'):=⟨_,_,rfl⟩
     obtain ⟨x5,o6,hx5⟩:∃ x o',cN o5=(x,o'):=⟨_,_,rfl⟩
     obtain ⟨x6,o7,hx6⟩:∃ x o',cY o6=(x,o'):=⟨_,_,rfl⟩
     obtain ⟨x7,o8,hx7⟩:∃ x o',cN o7=(x,o'):=⟨_,_,rfl⟩
     obtain ⟨x8,o9,hx8⟩:∃ x o',cY o8=(x,o'):=⟨_,_,rfl⟩
     have hel:cEl (some l)=(⟨x0,x1,x2,x3,x4,x5,x6,x7,x8⟩,o9):=by simp only [cEl,hx0,hx1,hx2,hx3,hx4,hx5,hx6,hx7,hx8]
     have HRS2:Hid (cLs (M - (k+1)) o9 (D++[⟨x0,x1,x2,x3,x4,x5,x6,x7,x8⟩])=RS):=(show _=_ by
      rw [← HRS.out,cLs_go (by omega),hel,show M - (k+1)=M - k - 1 by omega])
     clear hel HRS
     obtain ⟨W0,hW0⟩:∃ W0,W0=wr.alloc (.cells #[.string ⟨#[]⟩,.string ⟨#[]⟩,.string ⟨#[]⟩,.string ⟨#[]⟩,.int .i64 0,.int .i64 0,.bool false,.int .i64 0,.bool false] 42):=⟨_,rfl⟩
     have hb0:Below wr.heap.size wr W0:=by rw [hW0];exact (Below.refl _ _).alloc (Nat.le_refl _) _
     have hsz:=HS.out.2.2.size
     have hcw:c < wr.heap.size:=HS.out.1.lt
     have hpw:pb < wr.heap.size:=(Array.getElem?_eq_some_iff.1 HS.out.2.1).1
     have HE0:Hid (IsQ c s (some l) W0∧Rp c wr W0∧W0.heap[wr.heap.size]?=some (.cells #[.string ⟨#[]⟩,.string ⟨#[]⟩,.string ⟨#[]⟩,.string ⟨#[]⟩,.int .i64 0,.int .i64 0,.bool false,.int .i64 0,.bool false] 42 (0,0))):=⟨HS.out.1.below hb0 hcw,Rp.of_below hb0 (Nat.le_refl _),by rw [hW0];exact heap_alloc_new wr _⟩
     have HC0:Hid (∀ W,IsQ c s (some l) W→Calls Tryz.prog 49 #[.pointer (some ⟨c,0,none⟩)] W fun e w'=>e=.returned (.string x0)∧IsQ c s o1 w'∧Rp c W w'):=fun W hW=>by
      have h:=ctext_any hW hs
      rw [hx0] at h
      exact h
     have HC1:Hid (∀ W,IsQ c s o1 W→Calls Tryz.prog 49 #[.pointer (some ⟨c,0,none⟩)] W fun e w'=>e=.returned (.string x1)∧IsQ c s o2 w'∧Rp c W w'):=fun W hW=>by
      have h:=ctext_any hW hs
      rw [hx1] at h
      exact h
     have HC2:Hid (∀ W,IsQ c s o2 W→Calls Tryz.prog 49 #[.pointer (some ⟨c,0,none⟩)] W fun e w'=>e=.returned (.string x2)∧IsQ c s o3 w'∧Rp c W w'):=fun W hW=>by
      have h:=ctext_any hW hs
      rw [hx2] at h
      exact h
     have HC3:Hid (∀ W,IsQ c s o3 W→Calls Tryz.prog 49 #[.pointer (some ⟨c,0,none⟩)] W fun e w'=>e=.returned (.string x3)∧IsQ c s o4 w'∧Rp c W w'):=fun W hW=>by
      have h:=ctext_any hW hs
      rw [hx3] at h
      exact h
     have HC4:Hid (∀ W,IsQ c s o4 W→Calls Tryz.prog 52 #[.pointer (some ⟨c,0,none⟩)] W fun e w'=>e=.returned (.int .i64 x4)∧IsQ c s o5 w'∧Rp c W w'):=fun W hW=>by
      have h:=cnum_any hW hs
      rw [hx4] at h
      exact h
     have HC5:Hid (∀ W,IsQ c s o5 W→Calls Tryz.prog 52 #[.pointer (some ⟨c,0,none⟩)] W fun e w'=>e=.returned (.int .i64 x5)∧IsQ c s o6 w'∧Rp c W w'):=fun W hW=>by
      have h:=cnum_any hW hs
      rw [hx5] at h
      exact h
     have HC6:Hid (∀ W,IsQ c s o6 W→Calls Tryz.prog 50 #[.pointer (some ⟨c,0,none⟩)] W fun e w'=>e=.returned (.bool x6)∧IsQ c s o7 w'∧Rp c W w'):=fun W hW=>by
      have h:=cyes_any hW hs
      rw [hx6] at h
      exact h
     have HC7:Hid (∀ W,IsQ c s o7 W→Calls Tryz.prog 52 #[.pointer (some ⟨c,0,none⟩)] W fun e w'=>e=.returned (.int .i64 x7)∧IsQ c s o8 w'∧Rp c W w'):=fun W hW=>by
      have h:=cnum_any hW hs
      rw [hx7] at h
      exact h
     have HC8:Hid (∀ W,IsQ c s o8 W→Calls Tryz.prog 50 #[.pointer (some ⟨c,0,none⟩)] W fun e w'=>e=.returned (.bool x8)∧IsQ c s o9 w'∧Rp c W w'):=fun W hW=>by
      have h:=cyes_any hW hs
      rw [hx8] at h
      exact h
     clear hb0 hx0 hx1 hx2 hx3 hx4 hx5 hx6 hx7 hx8
     go_wp2_with fail
     rw [← hW0]
     clear hW0 y2'
     refine (HC0.out W0 HE0.out.1).mono ?_
     rintro e W1 ⟨rfl,h1,h2⟩
     have hm0:W1.heap[wr.heap.size]?=some (.cells #[.string ⟨#[]⟩,.string ⟨#[]⟩,.string ⟨#[]⟩,.string ⟨#[]⟩,.int .i64 0,.int .i64 0,.bool false,.int .i64 0,.bool false] 42 (0,0)):=h2.block' (by omega) HE0.out.2.2
     have HE1:Hid (IsQ c s o1 (W1.setCell ⟨wr.heap.size,0,none⟩ (.string x0))∧Rp c wr (W1.setCell ⟨wr.heap.size,0,none⟩ (.string x0))∧(W1.setCell ⟨wr.heap.size,0,none⟩ (.string x0)).heap[wr.heap.size]?=some (.cells #[.string x0,.string ⟨#[]⟩,.string ⟨#[]⟩,.string ⟨#[]⟩,.int .i64 0,.int .i64 0,.bool false,.int .i64 0,.bool false] 42 (0,0))):=⟨h1.set (by omega) _,(HE0.out.2.1.trans h2).new (Nat.le_refl _) _,Joins.block_setCell (i:=0) hm0 _⟩
     have g0:W1.cell? ⟨wr.heap.size,0,none⟩=some (.string ⟨#[]⟩):=cellsAt hm0 0
     have z0:W1.frozen? ⟨wr.heap.size,0,none⟩=false:=free3 hm0 0
     clear hm0 h1 h2 HC0 HE0
     go_wp2_with fail
     refine (HC1.out (W1.setCell ⟨wr.heap.size,0,none⟩ (.string x0)) HE1.out.1).mono ?_
     rintro e W2 ⟨rfl,h1,h2⟩
     have hm1:W2.heap[wr.heap.size]?=some (.cells #[.string x0,.string ⟨#[]⟩,.string ⟨#[]⟩,.string ⟨#[]⟩,.int .i64 0,.int .i64 0,.bool false,.int .i64 0,.bool false] 42 (0,0)):=h2.block' (by omega) HE1.out.2.2
     have HE2:Hid (IsQ c s o2 (W2.setCell ⟨wr.heap.size,1,none⟩ (.string x1))∧Rp c wr (W2.setCell ⟨wr.heap.size,1,none⟩ (.string x1))∧(W2.setCell ⟨wr.heap.size,1,none⟩ (.string x1)).heap[wr.heap.size]?=some (.cells #[.string x0,.string x1,.string ⟨#[]⟩,.string ⟨#[]⟩,.int .i64 0,.int .i64 0,.bool false,.int .i64 0,.bool false] 42 (0,0))):=⟨h1.set (by omega) _,(HE1.out.2.1.trans h2).new (Nat.le_refl _) _,Joins.block_setCell (i:=1) hm1 _⟩
     have g1:W2.cell? ⟨wr.heap.size,1,none⟩=some (.string ⟨#[]⟩):=cellsAt hm1 1
     have z1:W2.frozen? ⟨wr.heap.size,1,none⟩=false:=free3 hm1 1
     clear hm1 h1 h2 HC1 HE1
     go_wp2_with fail
     refine (HC2.out (W2.setCell ⟨wr.heap.size,1,none⟩ (.string x1)) HE2.out.1).mono ?_
     rintro e W3 ⟨rfl,h1,h2⟩
     have hm2:W3.heap[wr.heap.size]?=some (.cells #[.string x0,.string x1,.string ⟨#[]⟩,.string ⟨#[]⟩,.int .i64 0,.int .i64 0,.bool false,.int .i64 0,.bool false] 42 (0,0)):=h2.block' (by omega) HE2.out.2.2
     have HE3:Hid (IsQ c s o3 (W3.setCell ⟨wr.heap.size,2,none⟩ (.string x2))∧Rp c wr (W3.setCell ⟨wr.heap.size,2,none⟩ (.string x2))∧(W3.setCell ⟨wr.heap.size,2,none⟩ (.string x2)).heap[wr.heap.size]?=some (.cells #[.string x0,.string x1,.string x2,.string ⟨#[]⟩,.int .i64 0,.int .i64 0,.bool false,.int .i64 0,.bool false] 42 (0,0))):=⟨h1.set (by omega) _,(HE2.out.2.1.trans h2).new (Nat.le_refl _) _,Joins.block_setCell (i:=2) hm2 _⟩
     have g2:W3.cell? ⟨wr.heap.size,2,none⟩=some (.string ⟨#[]⟩):=cellsAt hm2 2
     have z2:W3.frozen? ⟨wr.heap.size,2,none⟩=false:=free3 hm2 2
     clear hm2 h1 h2 HC2 HE2
     go_wp2_with fail
     refine (HC3.out (W3.setCell ⟨wr.heap.size,2,none⟩ (.string x2)) HE3.out.1).mono ?_
     rintro e W4 ⟨rfl,h1,h2⟩
     have hm3:W4.heap[wr.heap.size]?=some (.cells #[.string x0,.string x1,.string x2,.string ⟨#[]⟩,.int .i64 0,.int .i64 0,.bool false,.int .i64 0,.bool false] 42 (0,0)):=h2.block' (by omega) HE3.out.2.2
     have HE4:Hid (IsQ c s o4 (W4.setCell ⟨wr.heap.size,3,none⟩ (.string x3))∧Rp c wr (W4.setCell ⟨wr.heap.size,3,none⟩ (.string x3))∧(W4.setCell ⟨wr.heap.size,3,none⟩ (.string x3)).heap[wr.heap.size]?=some (.cells #[.string x0,.string x1,.string x2,.string x3,.int .i64 0,.int .i64 0,.bool false,.int .i64 0,.bool false] 42 (0,0))):=⟨h1.set (by omega) _,(HE3.out.2.1.trans h2).new (Nat.le_refl _) _,Joins.block_setCell (i:=3) hm3 _⟩
     have g3:W4.cell? ⟨wr.heap.size,3,none⟩=some (.string ⟨#[]⟩):=cellsAt hm3 3
     have z3:W4.frozen? ⟨wr.heap.size,3,none⟩=false:=free3 hm3 3
     clear hm3 h1 h2 HC3 HE3
     go_wp2_with fail
     refine (HC4.out (W4.setCell ⟨wr.heap.size,3,none⟩ (.string x3)) HE4.out.1).mono ?_
     rintro e W5 ⟨rfl,h1,h2⟩
     have hm4:W5.heap[wr.heap.size]?=some (.cells #[.string x0,.string x1,.string x2,.string x3,.int .i64 0,.int .i64 0,.bool false,.int .i64 0,.bool false] 42 (0,0)):=h2.block' (by omega) HE4.out.2.2
     have HE5:Hid (IsQ c s o5 (W5.setCell ⟨wr.heap.size,4,none⟩ (.int .i64 x4))∧Rp c wr (W5.setCell ⟨wr.heap.size,4,none⟩ (.int .i64 x4))∧(W5.setCell ⟨wr.heap.size,4,none⟩ (.int .i64 x4)).heap[wr.heap.size]?=some (.cells #[.string x0,.string x1,.string x2,.string x3,.int .i64 x4,.int .i64 0,.bool false,.int .i64 0,.bool false] 42 (0,0))):=⟨h1.set (by omega) _,(HE4.out.2.1.trans h2).new (Nat.le_refl _) _,Joins.block_setCell (i:=4) hm4 _⟩
     have g4:W5.cell? ⟨wr.heap.size,4,none⟩=some (.int .i64 0):=cellsAt hm4 4
     have z4:W5.frozen? ⟨wr.heap.size,4,none⟩=false:=free3 hm4 4
     clear hm4 h1 h2 HC4 HE4
     go_wp2_with fail
     refine (HC5.out (W5.setCell ⟨wr.heap.size,4,none⟩ (.int .i64 x4)) HE5.out.1).mono ?_
     rintro e W6 ⟨rfl,h1,h2⟩
     have hm5:W6.heap[wr.heap.size]?=some (.cells #[.string x0,.string x1,.string x2,.string x3,.int .i64 x4,.int .i64 0,.bool false,.int .i64 0,.bool false] 42 (0,0)):=h2.block' (by omega) HE5.out.2.2
     have HE6:Hid (IsQ c s o6 (W6.setCell ⟨wr.heap.size,5,none⟩ (.int .i64 x5))∧Rp c wr (W6.setCell ⟨wr.heap.size,5,none⟩ (.int .i64 x5))∧(W6.setCell ⟨wr.heap.size,5,none⟩ (.int .i64 x5)).heap[wr.heap.size]?=some (.cells #[.string x0,.string x1,.string x2,.string x3,.int .i64 x4,.int .i64 x5,.bool false,.int .i64 0,.bool false] 42 (0,0))):=⟨h1.set (by omega) _,(HE5.out.2.1.trans h2).new (Nat.le_refl _) _,Joins.block_setCell (i:=5) hm5 _⟩
     have g5:W6.cell? ⟨wr.heap.size,5,none⟩=some (.int .i64 0):=cellsAt hm5 5
     have z5:W6.frozen? ⟨wr.heap.size,5,none⟩=false:=free3 hm5 5
     clear hm5 h1 h2 HC5 HE5
     go_wp2_with fail
     refine (HC6.out (W6.setCell ⟨wr.heap.size,5,none⟩ (.int .i64 x5)) HE6.out.1).mono ?_
     rintro e W7 ⟨rfl,h1,h2⟩
     have hm6:W7.heap[wr.heap.size]?=some (.cells #[.string x0,.string x1,.string x2,.string x3,.int .i64 x4,.int .i64 x5,.bool false,.int .i64 0,.bool false] 42 (0,0)):=h2.block' (by omega) HE6.out.2.2
     have HE7:Hid (IsQ c s o7 (W7.setCell ⟨wr.heap.size,6,none⟩ (.bool x6))∧Rp c wr (W7.setCell ⟨wr.heap.size,6,none⟩ (.bool x6))∧(W7.setCell ⟨wr.heap.size,6,none⟩ (.bool x6)).heap[wr.heap.size]?=some (.cells #[.string x0,.string x1,.string x2,.string x3,.int .i64 x4,.int .i64 x5,.bool x6,.int .i64 0,.bool false] 42 (0,0))):=⟨h1.set (by omega) _,(HE6.out.2.1.trans h2).new (Nat.le_refl _) _,Joins.block_setCell (i:=6) hm6 _⟩
     have g6:W7.cell? ⟨wr.heap.size,6,none⟩=some (.bool false):=cellsAt hm6 6
     have z6:W7.frozen? ⟨wr.heap.size,6,none⟩=false:=free3 hm6 6
     clear hm6 h1 h2 HC6 HE6
     go_wp2_with fail
     refine (HC7.out (W7.setCell ⟨wr.heap.size,6,none⟩ (.bool x6)) HE7.out.1).mono ?_
     rintro e W8 ⟨rfl,h1,h2⟩
     have hm7:W8.heap[wr.heap.size]?=some (.cells #[.string x0,.string x1,.string x2,.string x3,.int .i64 x4,.int .i64 x5,.bool x6,.int .i64 0,.bool false] 42 (0,0)):=h2.block' (by omega) HE7.out.2.2
     have HE8:Hid (IsQ c s o8 (W8.setCell ⟨wr.heap.size,7,none⟩ (.int .i64 x7))∧Rp c wr (W8.setCell ⟨wr.heap.size,7,none⟩ (.int .i64 x7))∧(W8.setCell ⟨wr.heap.size,7,none⟩ (.int .i64 x7)).heap[wr.heap.size]?=some (.cells #[.string x0,.string x1,.string x2,.string x3,.int .i64 x4,.int .i64 x5,.bool x6,.int .i64 x7,.bool false] 42 (0,0))):=⟨h1.set (by omega) _,(HE7.out.2.1.trans h2).new (Nat.le_refl _) _,Joins.block_setCell (i:=7) hm7 _⟩
     have g7:W8.cell? ⟨wr.heap.size,7,none⟩=some (.int .i64 0):=cellsAt hm7 7
     have z7:W8.frozen? ⟨wr.heap.size,7,none⟩=false:=free3 hm7 7
     clear hm7 h1 h2 HC7 HE7
     go_wp2_with fail
     refine (HC8.out (W8.setCell ⟨wr.heap.size,7,none⟩ (.int .i64 x7)) HE8.out.1).mono ?_
     rintro e W9 ⟨rfl,h1,h2⟩
     have hm8:W9.heap[wr.heap.size]?=some (.cells #[.string x0,.string x1,.string x2,.string x3,.int .i64 x4,.int .i64 x5,.bool x6,.int .i64 x7,.bool false] 42 (0,0)):=h2.block' (by omega) HE8.out.2.2
     have HE9:Hid (IsQ c s o9 (W9.setCell ⟨wr.heap.size,8,none⟩ (.bool x8))∧Rp c wr (W9.setCell ⟨wr.heap.size,8,none⟩ (.bool x8))∧(W9.setCell ⟨wr.heap.size,8,none⟩ (.bool x8)).heap[wr.heap.size]?=some (.cells #[.string x0,.string x1,.string x2,.string x3,.int .i64 x4,.int .i64 x5,.bool x6,.int .i64 x7,.bool x8] 42 (0,0))):=⟨h1.set (by omega) _,(HE8.out.2.1.trans h2).new (Nat.le_refl _) _,Joins.block_setCell (i:=8) hm8 _⟩
     have g8:W9.cell? ⟨wr.heap.size,8,none⟩=some (.bool false):=cellsAt hm8 8
     have z8:W9.frozen? ⟨wr.heap.size,8,none⟩=false:=free3 hm8 8
     clear hm8 h1 h2 HC8 HE8
     go_upto_region 30 with fail
     obtain ⟨WX,hWX⟩:∃ WX,WX=W9.setCell ⟨wr.heap.size,8,none⟩ (.bool x8):=⟨_,rfl⟩
     rw [← hWX] at HE9 ⊢
     clear hWX g8 z8
     have hpx:WX.heap[pb]?=some (.cells #[p0,p1,p2,.slice ao lo co,p4,p5] 67 (0,0)):=HE9.out.2.1.block' (by omega) HS.out.2.1
     have HOX:Hid (Own w.heap.size WX (.slice ao lo co) D):=HE9.out.2.1.row HO.out (by omega)
     have q0:WX.cell? ⟨pb,3,none⟩=some (.slice ao lo co):=cellsAt hpx 3
     have HR2X:Hid (R2 c pb w WX):=HS.out.2.2.rp HE9.out.2.1
     have HPX:Hid (WX.heap[pb]?=some (.cells #[p0,p1,p2,.slice ao lo co,p4,p5] 67 (0,0))):=hpx
     have hcx:c < WX.heap.size:=HE9.out.1.lt
     have hszx:w.heap.size≤WX.heap.size:=HR2X.out.size
     have m0:WX.cell? ⟨wr.heap.size,0,none⟩=some (.string x0):=cellsAt HE9.out.2.2 0
     have m1:WX.cell? ⟨wr.heap.size,1,none⟩=some (.string x1):=cellsAt HE9.out.2.2 1
     have m2:WX.cell? ⟨wr.heap.size,2,none⟩=some (.string x2):=cellsAt HE9.out.2.2 2
     have m3:WX.cell? ⟨wr.heap.size,3,none⟩=some (.string x3):=cellsAt HE9.out.2.2 3
     have m4:WX.cell? ⟨wr.heap.size,4,none⟩=some (.int .i64 x4):=cellsAt HE9.out.2.2 4
     have m5:WX.cell? ⟨wr.heap.size,5,none⟩=some (.int .i64 x5):=cellsAt HE9.out.2.2 5
     have m6:WX.cell? ⟨wr.heap.size,6,none⟩=some (.bool x6):=cellsAt HE9.out.2.2 6
     have m7:WX.cell? ⟨wr.heap.size,7,none⟩=some (.int .i64 x7):=cellsAt HE9.out.2.2 7
     have m8:WX.cell? ⟨wr.heap.size,8,none⟩=some (.bool x8):=cellsAt HE9.out.2.2 8
     clear hpx HS HO
     go_wp2_with (at_builtin;refine wpList_append_own _ rfl _ _ 47 rfl w.heap.size 42 i0 _ 9 104 Tryz.underlying47 hi0 hz0 hzs hzb rfl (by omega) _ D.length (fl D) rfl ?hown ⟨WX.heap.size,0,none⟩ 1 1 (Svc.cs ⟨x0,x1,x2,x3,x4,x5,x6,x7,x8⟩) rfl rfl ?hnews (cs_one _) ?h63 ?hbytes ?hbase ?_)
     case hown=>(refine HOX.out.below ?_;repeat (first | exact Below.refl _ _ | refine below_drewN ?_ _ | refine Below.alloc ?_ (by simp) _ | refine Below.drew ?_))
     case hnews=>(intro j u hj;rw [Addr.add_lit];exact (cellsAt (heap_alloc_new WX (.cells #[.string x0,.string x1,.string x2,.string x3,.int .i64 x4,.int .i64 x5,.bool x6,.int .i64 x7,.bool x8] 42)) (0+j)).trans (by simpa [Svc.cs] using hj))
     case h63=>(unfold maxLen;omega)
     case hbytes=>omega
     case hbase=>(simp;omega)
     intro v' w6 r1 r2 r3
     have hb6:Below w.heap.size WX w6:=((Below.refl w.heap.size WX).alloc hszx (.cells #[.string x0,.string x1,.string x2,.string x3,.int .i64 x4,.int .i64 x5,.bool x6,.int .i64 x7,.bool x8] 42)).trans ((Below.refl _ _).grown (w:=WX.alloc (.cells #[.string x0,.string x1,.string x2,.string x3,.int .i64 x4,.int .i64 x5,.bool x6,.int .i64 x7,.bool x8] 42)) ⟨r2.os,r2.tape,r2.output,r2.size,r2.block⟩ (by simp;omega) (fun j hj=>(HOX.out.lt j hj).1))
     have HO6:Hid (Own w.heap.size w6 v' (D++[⟨x0,x1,x2,x3,x4,x5,x6,x7,x8⟩])):=own_snoc (by first | exact r1 | (rw [List.length_append];exact r1))
     obtain ⟨a6,l6,c6,hv6⟩:∃ a l c,v'=.slice a l c:=by
      rcases r1.2 with ⟨hv,_⟩ | ⟨_,_,_,hv,_⟩
      ·exact ⟨_,_,_,hv⟩
      ·exact ⟨_,_,_,hv⟩
     subst hv6
     have hp6:w6.heap[pb]?=some (.cells #[p0,p1,p2,.slice ao lo co,p4,p5] 67 (0,0)):=(hb6.block pb hpl).trans HPX.out
     have HS6:Hid (IsQ c s o9 (w6.setCell ⟨pb,3,none⟩ (.slice a6 l6 c6))∧(w6.setCell ⟨pb,3,none⟩ (.slice a6 l6 c6)).heap[pb]?=some (.cells #[p0,p1,p2,.slice a6 l6 c6,p4,p5] 67 (0,0))∧R2 c pb w (w6.setCell ⟨pb,3,none⟩ (.slice a6 l6 c6))):=⟨(HE9.out.1.below hb6 hcl).set hcp _,Joins.block_setCell (i:=3) hp6 _,(HR2X.out.below hb6 (Nat.le_refl _)).set _ _⟩
     have HO7:Hid (Own w.heap.size (w6.setCell ⟨pb,3,none⟩ (.slice a6 l6 c6)) (.slice a6 l6 c6) (D++[⟨x0,x1,x2,x3,x4,x5,x6,x7,x8⟩])):=ownsRow_setCell_below HO6.out (a:=⟨pb,3,none⟩) hpl _
     have q6:w6.cell? ⟨pb,3,none⟩=some (.slice ao lo co):=cellsAt hp6 3
     have z6:w6.frozen? ⟨pb,3,none⟩=false:=free3 hp6 3
     clear r1 r2 r3 hb6 HO6 HOX HE9 HR2X HPX hp6 m0 m1 m2 m3 m4 m5 m6 m7 m8 q0
     go_wp2_with fail
     exact ⟨⟨k+1,D++[⟨x0,x1,x2,x3,x4,x5,x6,x7,x8⟩],o9,a6,l6,c6,by omega,by rw [List.length_append,HDK.out];rfl,by go_num,HRS2,HS6,HO7⟩,by simp [intOf];omega⟩
  ·have hd:decide ((k:Int) < (M:Int))=false:=by simp;omega
   have HFN:Hid (RS=(D,o)):=(show _=_ by rw [← HRS.out,cLs_end (.inl (by omega))])
   clear HRS y2
   go_wp2_with fail
   refine HQN.out _ _ _ _ _ _ _ _ _ _ _ _ _ _ _ _ _ _ _ _ _ _ _ _ _ _ _ _ _ _ _ _ _ _ _ _ _ _ _ _ _ _ _ _ _ _ _ ao lo co wr ?_ HS.out.2.1 ?_ HS.out.2.2
   ·show IsQ _ _ _ _
    rw [HFN.out];exact HS.out.1
   ·show Own _ _ _ _
    rw [HFN.out];exact HO.out
end Sv
namespace Gw
open Go.RowKit
theorem cLs_end {n:Nat} {o:Option (List UInt8)} {D:List Gwy} (h:n=0∨o=none):cLs n o D=(D,o):=by
 rcases h with rfl | rfl
 ·cases o<;>rfl
 ·exact cLs_bad n D
set_option maxHeartbeats 100000000 in
set_option maxRecDepth 1000000 in
theorem loop_c {u0 u1 u2 u3 u7 u8 u9 ac af ai aj an ap av ay az aA aB aC aD aE aF aI aJ aK aL aM aN aO aP aQ aR aT aU aV aW aX aY aZ ba bb bc bd be bf bi bj bk bl bo bp bq bt bu bv bz bA bB bC bD bE bF bJ bK bL bM bN bO bP bQ bR bT bU bV bW bX bY bZ cd cf ci cj cv cy cz cA cB cD cE cF cG cH cI cJ cK cL cM cO cP cQ cR cS cU cV cW cX cZ da db dd de df dg dh di dj dk dn dp dt du dv dw dx dy dz dA dB dC dD dE dF dG dH dI dJ dK dL dM dO dP dQ dR dS dU dV dW dX dY dZ ea eb ec ed ee ei ej ek el en eo ep eq et eu ey ez eA eB eC eD eE eF eG eH eI eJ eK eL eM eN eO eP eQ eR eS eT eU eV eW eX eY eZ fa:Value} (w:World) (s:ByteArray) (c pb M:Nat) (o:Option (List UInt8)) (p0 p1 p2 p3 p5:Value) (hs:s.size≤16777216) (hM:M≤6) (hq:IsQ c s o w) (hcp:c≠pb) (hp:w.heap[pb]?=some (.cells #[p0,p1,p2,p3,.slice none 0 0,p5] 67 (0,0))) (Q:Exit→Act→World→Prop)
 (hN:∀ (gd gf gh gi gj gk gl gm gn gp gq gr gu gv gx gy gz gA gC gD gE gF gG gH gI gJ gK gL gM:Value) (ao:Option Addr) (lo co:Nat) (W:World),Hid (IsQ c s (cLs M o []).2 W)→Hid (W.heap[pb]?=some (.cells #[p0,p1,p2,p3,.slice ao lo co,p5] 67 (0,0)))→Hid (Own w.heap.size W (.slice ao lo co) (cLs M o []).1)→Hid (R2 c pb w W)→Q .normal ⟨#[u0,u1,u2,u3,.pointer (some ⟨c,0,none⟩),.pointer (some ⟨pb,0,none⟩),.int .i64 (M:Int),u7,u8,u9,ac,gd,gf,ai,aj,an,ap,av,ay,az,aA,aB,aC,aD,aE,aF,aI,aJ,aK,aL,aM,aN,aO,aP,aQ,aR,aT,aU,aV,aW,aX,aY,aZ,ba,bb,bc,bd,be,bf,bi,bj,bk,bl,bo,bp,bq,bt,bu,bv,bz,bA,bB,bC,bD,bE,bF,bJ,bK,bL,bM,bN,bO,bP,bQ,bR,bT,bU,bV,bW,bX,bY,bZ,cd,cf,ci,cj,cv,cy,cz,cA,cB,cD,cE,cF,cG,cH,cI,cJ,cK,cL,cM,cO,cP,cQ,cR,cS,cU,cV,gh,gi,gj,gk,gl,gm,gn,gp,gq,gr,gu,gv,gx,gy,gz,gA,gC,gD,gE,gF,gG,gH,gI,gJ,gK,gL,gM,dF,dG,dH,dI,dJ,dK,dL,dM,dO,dP,dQ,dR,dS,dU,dV,dW,dX,dY,dZ,ea,eb,ec,ed,ee,ei,ej,ek,el,en,eo,ep,eq,et,eu,ey,ez,eA,eB,eC,eD,eE,eF,eG,eH,eI,eJ,eK,eL,eM,eN,eO,eP,eQ,eR,eS,eT,eU,eV,eW,eX,eY,eZ,fa],[]⟩ W) :
 Code.wp Tryz.prog ((Tryz.f23.body.bind (blkIn 4)).getD .skip) Q ⟨#[u0,u1,u2,u3,.pointer (some ⟨c,0,none⟩),.pointer (some ⟨pb,0,none⟩),.int .i64 (M:Int),u7,u8,u9,ac,.int .i64 0,af,ai,aj,an,ap,av,ay,az,aA,aB,aC,aD,aE,aF,aI,aJ,aK,aL,aM,aN,aO,aP,aQ,aR,aT,aU,aV,aW,aX,aY,aZ,ba,bb,bc,bd,be,bf,bi,bj,bk,bl,bo,bp,bq,bt,bu,bv,bz,bA,bB,bC,bD,bE,bF,bJ,bK,bL,bM,bN,bO,bP,bQ,bR,bT,bU,bV,bW,bX,bY,bZ,cd,cf,ci,cj,cv,cy,cz,cA,cB,cD,cE,cF,cG,cH,cI,cJ,cK,cL,cM,cO,cP,cQ,cR,cS,cU,cV,cW,cX,cZ,da,db,dd,de,df,dg,dh,di,dj,dk,dn,dp,dt,du,dv,dw,dx,dy,dz,dA,dB,dC,dD,dE,dF,dG,dH,dI,dJ,dK,dL,dM,dO,dP,dQ,dR,dS,dU,dV,dW,dX,dY,dZ,ea,eb,ec,ed,ee,ei,ej,ek,el,en,eo,ep,eq,et,eu,ey,ez,eA,eB,eC,eD,eE,eF,eG,eH,eI,eJ,eK,eL,eM,eN,eO,eP,eQ,eR,eS,eT,eU,eV,eW,eX,eY,eZ,fa],[]⟩ w:=by
 obtain ⟨i0,hi0,hz0,hzs,hzb⟩:=info_parts Tryz.info107
 conv=>arg 2;whnf
 have HQN:Hid _:=hN
 clear hN
 obtain ⟨RS,hRS⟩:∃ RS,RS=cLs M o []:=⟨_,rfl⟩
 rw [← hRS] at HQN
 have HRS0:Hid (cLs (M - 0) o []=RS):=hRS.symm
 have hcl:=hq.lt
 have hpl:pb < w.heap.size:=(Array.getElem?_eq_some_iff.1 hp).1
 have HQ0:Hid (IsQ c s o w∧w.heap[pb]?=some (.cells #[p0,p1,p2,p3,.slice none 0 0,p5] 67 (0,0))∧R2 c pb w w):=⟨hq,hp,R2.refl _ _ _⟩
 clear hRS hq hp
 go_wp2_with fail
 go_loopw [11] (fun i wr=>∃ (k:Nat) (D:List Gwy) (o:Option (List UInt8)) (ao:Option Addr) (lo co:Nat),k≤M∧D.length=k∧i=.int .i64 k∧Hid (cLs (M - k) o D=RS)∧Hid (IsQ c s o wr∧wr.heap[pb]?=some (.cells #[p0,p1,p2,p3,.slice ao lo co,p5] 67 (0,0))∧R2 c pb w wr)∧Hid (Own w.heap.size wr (.slice ao lo co) D)) (fun i _=>M - (intOf i).toNat)
 case atStart=>exact ⟨0,[],o,none,0,0,Nat.zero_le _,rfl,rfl,HRS0,HQ0,own_nil _ _⟩
 case round=>
  obtain ⟨k,D,o,ao,lo,co,hk,hDk0,rfl,HRS,HS,HO⟩:=hrel
  have HDK:Hid (D.length=k):=hDk0
  have hDl:D.length≤40:=by omega
  clear hDk0
  have y2:=HS.out.1.bad
  by_cases hlt:k < M
  ·have hd:decide ((k:Int) < (M:Int))=true:=by simp;omega
   cases o with
   | none=>
     have y2':wr.cell? ⟨c,2,none⟩=some (.bool true):=y2
     clear y2
     have HFN:Hid (RS=(D,none)):=(show _=_ by rw [← HRS.out,cLs_end (.inr rfl)])
     clear HRS
     go_wp2_with fail
     refine HQN.out _ _ _ _ _ _ _ _ _ _ _ _ _ _ _ _ _ _ _ _ _ _ _ _ _ _ _ _ _ ao lo co wr ?_ HS.out.2.1 ?_ HS.out.2.2
     ·show IsQ _ _ _ _
      rw [HFN.out];exact HS.out.1
     ·show Own _ _ _ _
      rw [HFN.out];exact HO.out
   | some l=>
     have y2':wr.cell? ⟨c,2,none⟩=some (.bool false):=y2
     clear y2
     obtain ⟨x0,o1,hx0⟩:∃ x o',cT (some l)=(x,o'):=⟨_,_,rfl⟩
     obtain ⟨x1,o2,hx1⟩:∃ x o',cN o1=(x,o'):=⟨_,_,rfl⟩
     obtain ⟨x2,o3,hx2⟩:∃ x o',cN o2=(x,o'):=⟨_,_,rfl⟩
     have hel:cEl (some l)=(⟨x0,x1,x2⟩,o3):=by simp only [cEl,hx0,hx1,hx2]
     have HRS2:Hid (cLs (M - (k+1)) o3 (D++[⟨x0,x1,x2⟩])=RS):=(show _=_ by
      rw [← HRS.out,cLs_go (by omega),hel,show M - (k+1)=M - k - 1 by omega])
     clear hel HRS
     obtain ⟨W0,hW0⟩:∃ W0,W0=wr.alloc (.cells #[.string ⟨#[]⟩,.int .i64 0,.int .i64 0] 107):=⟨_,rfl⟩
     have hb0:Below wr.heap.size wr W0:=by rw [hW0];exact (Below.refl _ _).alloc (Nat.le_refl _) _
     have hsz:=HS.out.2.2.size
     have hcw:c < wr.heap.size:=HS.out.1.lt
     have hpw:pb < wr.heap.size:=(Array.getElem?_eq_some_iff.1 HS.out.2.1).1
     have HE0:Hid (IsQ c s (some l) W0∧Rp c wr W0∧W0.heap[wr.heap.size]?=some (.cells #[.string ⟨#[]⟩,.int .i64 0,.int .i64 0] 107 (0,0))):=⟨HS.out.1.below hb0 hcw,Rp.of_below hb0 (Nat.le_refl _),by rw [hW0];exact heap_alloc_new wr _⟩
     have HC0:Hid (∀ W,IsQ c s (some l) W→Calls Tryz.prog 49 #[.pointer (some ⟨c,0,none⟩)] W fun e w'=>e=.returned (.string x0)∧IsQ c s o1 w'∧Rp c W w'):=fun W hW=>by
      have h:=ctext_any hW hs
      rw [hx0] at h
      exact h
     have HC1:Hid (∀ W,IsQ c s o1 W→Calls Tryz.prog 52 #[.pointer (some ⟨c,0,none⟩)] W fun e w'=>e=.returned (.int .i64 x1)∧IsQ c s o2 w'∧Rp c W w'):=fun W hW=>by
      have h:=cnum_any hW hs
      rw [hx1] at h
      exact h
     have HC2:Hid (∀ W,IsQ c s o2 W→Calls Tryz.prog 52 #[.pointer (some ⟨c,0,none⟩)] W fun e w'=>e=.returned (.int .i64 x2)∧IsQ c s o3 w'∧Rp c W w'):=fun W hW=>by
      have h:=cnum_any hW hs
      rw [hx2] at h
      exact h
     clear hb0 hx0 hx1 hx2
     go_wp2_with fail
     rw [← hW0]
     clear hW0 y2'
     refine (HC0.out W0 HE0.out.1).mono ?_
     rintro e W1 ⟨rfl,h1,h2⟩
     have hm0:W1.heap[wr.heap.size]?=some (.cells #[.string ⟨#[]⟩,.int .i64 0,.int .i64 0] 107 (0,0)):=h2.block' (by omega) HE0.out.2.2
     have HE1:Hid (IsQ c s o1 (W1.setCell ⟨wr.heap.size,0,none⟩ (.string x0))∧Rp c wr (W1.setCell ⟨wr.heap.size,0,none⟩ (.string x0))∧(W1.setCell ⟨wr.heap.size,0,none⟩ (.string x0)).heap[wr.heap.size]?=some (.cells #[.string x0,.int .i64 0,.int .i64 0] 107 (0,0))):=⟨h1.set (by omega) _,(HE0.out.2.1.trans h2).new (Nat.le_refl _) _,Joins.block_setCell (i:=0) hm0 _⟩
     have g0:W1.cell? ⟨wr.heap.size,0,none⟩=some (.string ⟨#[]⟩):=cellsAt hm0 0
     have z0:W1.frozen? ⟨wr.heap.size,0,none⟩=false:=free3 hm0 0
     clear hm0 h1 h2 HC0 HE0
     go_wp2_with fail
     refine (HC1.out (W1.setCell ⟨wr.heap.size,0,none⟩ (.string x0)) HE1.out.1).mono ?_
     rintro e W2 ⟨rfl,h1,h2⟩
     have hm1:W2.heap[wr.heap.size]?=some (.cells #[.string x0,.int .i64 0,.int .i64 0] 107 (0,0)):=h2.block' (by omega) HE1.out.2.2
     have HE2:Hid (IsQ c s o2 (W2.setCell ⟨wr.heap.size,1,none⟩ (.int .i64 x1))∧Rp c wr (W2.setCell ⟨wr.heap.size,1,none⟩ (.int .i64 x1))∧(W2.setCell ⟨wr.heap.size,1,none⟩ (.int .i64 x1)).heap[wr.heap.size]?=some (.cells #[.string x0,.int .i64 x1,.int .i64 0] 107 (0,0))):=⟨h1.set (by omega) _,(HE1.out.2.1.trans h2).new (Nat.le_refl _) _,Joins.block_setCell (i:=1) hm1 _⟩
     have g1:W2.cell? ⟨wr.heap.size,1,none⟩=some (.int .i64 0):=cellsAt hm1 1
     have z1:W2.frozen? ⟨wr.heap.size,1,none⟩=false:=free3 hm1 1
     clear hm1 h1 h2 HC1 HE1
     go_wp2_with fail
     refine (HC2.out (W2.setCell ⟨wr.heap.size,1,none⟩ (.int .i64 x1)) HE2.out.1).mono ?_
     rintro e W3 ⟨rfl,h1,h2⟩
     have hm2:W3.heap[wr.heap.size]?=some (.cells #[.string x0,.int .i64 x1,.int .i64 0] 107 (0,0)):=h2.block' (by omega) HE2.out.2.2
     have HE3:Hid (IsQ c s o3 (W3.setCell ⟨wr.heap.size,2,none⟩ (.int .i64 x2))∧Rp c wr (W3.setCell ⟨wr.heap.size,2,none⟩ (.int .i64 x2))∧(W3.setCell ⟨wr.heap.size,2,none⟩ (.int .i64 x2)).heap[wr.heap.size]?=some (.cells #[.string x0,.int .i64 x1,.int .i64 x2] 107 (0,0))):=⟨h1.set (by omega) _,(HE2.out.2.1.trans h2).new (Nat.le_refl _) _,Joins.block_setCell (i:=2) hm2 _⟩
     have g2:W3.cell? ⟨wr.heap.size,2,none⟩=some (.int .i64 0):=cellsAt hm2 2
     have z2:W3.frozen? ⟨wr.heap.size,2,none⟩=false:=free3 hm2 2
     clear hm2 h1 h2 HC2 HE2
     go_upto_region 39 with fail
     obtain ⟨WX,hWX⟩:∃ WX,WX=W3.setCell ⟨wr.heap.size,2,none⟩ (.int .i64 x2):=⟨_,rfl⟩
     rw [← hWX] at HE3 ⊢
     clear hWX g2 z2
     have hpx:WX.heap[pb]?=some (.cells #[p0,p1,p2,p3,.slice ao lo co,p5] 67 (0,0)):=HE3.out.2.1.block' (by omega) HS.out.2.1
     have HOX:Hid (Own w.heap.size WX (.slice ao lo co) D):=HE3.out.2.1.row HO.out (by omega)
     have q0:WX.cell? ⟨pb,4,none⟩=some (.slice ao lo co):=cellsAt hpx 4
     have HR2X:Hid (R2 c pb w WX):=HS.out.2.2.rp HE3.out.2.1
     have HPX:Hid (WX.heap[pb]?=some (.cells #[p0,p1,p2,p3,.slice ao lo co,p5] 67 (0,0))):=hpx
     have hcx:c < WX.heap.size:=HE3.out.1.lt
     have hszx:w.heap.size≤WX.heap.size:=HR2X.out.size
     have m0:WX.cell? ⟨wr.heap.size,0,none⟩=some (.string x0):=cellsAt HE3.out.2.2 0
     have m1:WX.cell? ⟨wr.heap.size,1,none⟩=some (.int .i64 x1):=cellsAt HE3.out.2.2 1
     have m2:WX.cell? ⟨wr.heap.size,2,none⟩=some (.int .i64 x2):=cellsAt HE3.out.2.2 2
     clear hpx HS HO
     go_wp2_with (at_builtin;refine wpList_append_own _ rfl _ _ 48 rfl w.heap.size 107 i0 _ 3 32 Tryz.underlying48 hi0 hz0 hzs hzb rfl (by omega) _ D.length (fl D) rfl ?hown ⟨WX.heap.size,0,none⟩ 1 1 (Gwy.cs ⟨x0,x1,x2⟩) rfl rfl ?hnews (cs_one _) ?h63 ?hbytes ?hbase ?_)
     case hown=>(refine HOX.out.below ?_;repeat (first | exact Below.refl _ _ | refine below_drewN ?_ _ | refine Below.alloc ?_ (by simp) _ | refine Below.drew ?_))
     case hnews=>(intro j u hj;rw [Addr.add_lit];exact (cellsAt (heap_alloc_new WX (.cells #[.string x0,.int .i64 x1,.int .i64 x2] 107)) (0+j)).trans (by simpa [Gwy.cs] using hj))
     case h63=>(unfold maxLen;omega)
     case hbytes=>omega
     case hbase=>(simp;omega)
     intro v' w6 r1 r2 r3
     have hb6:Below w.heap.size WX w6:=((Below.refl w.heap.size WX).alloc hszx (.cells #[.string x0,.int .i64 x1,.int .i64 x2] 107)).trans ((Below.refl _ _).grown (w:=WX.alloc (.cells #[.string x0,.int .i64 x1,.int .i64 x2] 107)) ⟨r2.os,r2.tape,r2.output,r2.size,r2.block⟩ (by simp;omega) (fun j hj=>(HOX.out.lt j hj).1))
     have HO6:Hid (Own w.heap.size w6 v' (D++[⟨x0,x1,x2⟩])):=own_snoc (by first | exact r1 | (rw [List.length_append];exact r1))
     obtain ⟨a6,l6,c6,hv6⟩:∃ a l c,v'=.slice a l c:=by
      rcases r1.2 with ⟨hv,_⟩ | ⟨_,_,_,hv,_⟩
      ·exact ⟨_,_,_,hv⟩
      ·exact ⟨_,_,_,hv⟩
     subst hv6
     have hp6:w6.heap[pb]?=some (.cells #[p0,p1,p2,p3,.slice ao lo co,p5] 67 (0,0)):=(hb6.block pb hpl).trans HPX.out
     have HS6:Hid (IsQ c s o3 (w6.setCell ⟨pb,4,none⟩ (.slice a6 l6 c6))∧(w6.setCell ⟨pb,4,none⟩ (.slice a6 l6 c6)).heap[pb]?=some (.cells #[p0,p1,p2,p3,.slice a6 l6 c6,p5] 67 (0,0))∧R2 c pb w (w6.setCell ⟨pb,4,none⟩ (.slice a6 l6 c6))):=⟨(HE3.out.1.below hb6 hcl).set hcp _,Joins.block_setCell (i:=4) hp6 _,(HR2X.out.below hb6 (Nat.le_refl _)).set _ _⟩
     have HO7:Hid (Own w.heap.size (w6.setCell ⟨pb,4,none⟩ (.slice a6 l6 c6)) (.slice a6 l6 c6) (D++[⟨x0,x1,x2⟩])):=ownsRow_setCell_below HO6.out (a:=⟨pb,4,none⟩) hpl _
     have q6:w6.cell? ⟨pb,4,none⟩=some (.slice ao lo co):=cellsAt hp6 4
     have z6:w6.frozen? ⟨pb,4,none⟩=false:=free3 hp6 4
     clear r1 r2 r3 hb6 HO6 HOX HE3 HR2X HPX hp6 m0 m1 m2 q0
     go_wp2_with fail
     exact ⟨⟨k+1,D++[⟨x0,x1,x2⟩],o3,a6,l6,c6,by omega,by rw [List.length_append,HDK.out];rfl,by go_num,HRS2,HS6,HO7⟩,by simp [intOf];omega⟩
  ·have hd:decide ((k:Int) < (M:Int))=false:=by simp;omega
   have HFN:Hid (RS=(D,o)):=(show _=_ by rw [← HRS.out,cLs_end (.inl (by omega))])
   clear HRS y2
   go_wp2_with fail
   refine HQN.out _ _ _ _ _ _ _ _ _ _ _ _ _ _ _ _ _ _ _ _ _ _ _ _ _ _ _ _ _ ao lo co wr ?_ HS.out.2.1 ?_ HS.out.2.2
   ·show IsQ _ _ _ _
    rw [HFN.out];exact HS.out.1
   ·show Own _ _ _ _
    rw [HFN.out];exact HO.out
end Gw
end Go.Proofs.YtffdoiokmiklgaaGreatDoor
