import Derived.Test.YtffdoiokmiklgaaGreatDoorX36
import Derived.Test.YtffdoiokmiklgaaGreatDoorX32
import Derived.Test.YtffdoiokmiklgaaGreatDoorX28
import Derived.Test.YtffdoiokmiklgaaGreatDoorX12
import Derived.Test.YtffdoiokmiklgaaGreatDoorX29
import Derived.Lib.QuietBelow
import Derived.Deep.Cut
import Derived.Test.YtffdoiokmiklgaaGreatDoorX27
import Derived.Laws.OwnMore
import Derived.Test.YtffdoiokmiklgaaGreatDoorRows
import Derived.ProofKit
namespace Go.Proofs.YtffdoiokmiklgaaGreatDoor
open Go.RowKit
structure NtIs (w:World) (t:Nt) (vn vl:Value):Prop where
 ns:NSl w vn t.ns
 ls:Lt.Sl w vl t.ls
theorem NtIs.below {w w':World} {t:Nt} {vn vl:Value} (h:NtIs w t vn vl) (hb:Below w.heap.size w w'):NtIs w' t vn vl:=⟨h.ns.below hb,h.ls.below hb⟩
def Nt.Short (t:Nt):Prop:=t.ls.length≤20→∀ l∈t.ls,l.text.size≤16777216
theorem Nt.e_many {t:Nt} (h:6 < t.ns.length∨20 < t.ls.length):t.e=2:=if_pos h
theorem Nt.e_nodes {t:Nt} (h:¬ (6 < t.ns.length∨20 < t.ls.length)) (hn:chkN t.ns≠0):t.e=chkN t.ns:=by unfold Nt.e;rw [if_neg h,if_neg hn]
theorem Nt.e_letters {t:Nt} (h:¬ (6 < t.ns.length∨20 < t.ls.length)) (hn:chkN t.ns=0):t.e=fstE (ltE t.ns.length) t.ls:=by unfold Nt.e;rw [if_neg h,if_pos hn]
set_option maxHeartbeats 6400000 in
set_option maxRecDepth 100000 in
theorem pcheckN_any (t:Nt) (g:Nat) (vn vl:Value) (w:World) (hV:Rv w.heap.size w) (h:NtIs w t vn vl) (hs:t.Short) (hg:w.cell? ⟨g,0,none⟩=some vn) (hg1:w.cell? ⟨g,1,none⟩=some vl) :
 Calls Tryz.prog 27 #[.pointer (some ⟨g,0,none⟩)] w fun e w'=>e=.returned (.int .i64 t.e)∧Below w.heap.size w w':=by
 have hgl:g < w.heap.size:=World.block_lt_of_cell? w _ hg
 have HCN:Hid (t.ns.length≤6→Calls Tryz.prog 58 #[.pointer (some ⟨g,0,none⟩)] w fun e w'=>e=.returned (.int .i64 (chkN t.ns))∧Below w.heap.size w w'):=fun h6=>checkNodes_any t.ns g vn w h.ns hg h6
 have HCL:Hid (t.ns.length≤6→t.ls.length≤20→∀ W,Below w.heap.size w W→Calls Tryz.prog 59 #[.pointer (some ⟨g,0,none⟩)] W fun e w'=>e=.returned (.int .i64 (fstE (ltE t.ns.length) t.ls))∧Below W.heap.size W w'):=fun h6 h20 W hW=>by
  obtain ⟨a,cap,hvn,_⟩:=h.ns
  exact checkLetters_any t.ls t.ns.length g a cap vl W (hV.after hW) (h.ls.below hW) ((hW.cell (p:=⟨g,0,none⟩) hgl).trans (by rw [hg,hvn])) ((hW.cell (p:=⟨g,1,none⟩) hgl).trans hg1) h6 h20 (hs h20)
 have HE1:Hid ((6 < t.ns.length∨20 < t.ls.length)→t.e=2):=Nt.e_many
 have HE2:Hid (¬ (6 < t.ns.length∨20 < t.ls.length)→chkN t.ns≠0→t.e=chkN t.ns):=Nt.e_nodes
 have HE3:Hid (¬ (6 < t.ns.length∨20 < t.ls.length)→chkN t.ns=0→t.e=fstE (ltE t.ns.length) t.ls):=Nt.e_letters
 obtain ⟨⟨pn,cn,hvn,_⟩,⟨pl,cl,hvl,_,_⟩⟩:=h
 subst hvn hvl
 generalize t.e=te at *
 generalize chkN t.ns=ce at *
 generalize fstE (ltE t.ns.length) t.ls=le at *
 generalize t.ns.length=n at *
 generalize t.ls.length=m at *
 clear hs hV
 by_cases h6:6 < n
 ·have d1:decide ((6:Int) < (n:Int))=true:=by simp;omega
  have HE:Hid (te=2):=HE1.out (.inl h6)
  clear HE1 HE2 HE3 h6
  go_enter Tryz.func27,Tryz.ntmps27
  go_wp2_with fail
  go_ret
  exact ⟨ret_int HE.out.symm,Below.refl _ _⟩
 have d1:decide ((6:Int) < (n:Int))=false:=by simp;omega
 by_cases h20:20 < m
 ·have d2:decide ((20:Int) < (m:Int))=true:=by simp;omega
  have HE:Hid (te=2):=HE1.out (.inr h20)
  clear HE1 HE2 HE3 h6 h20
  go_enter Tryz.func27,Tryz.ntmps27
  go_wp2_with fail
  go_ret
  exact ⟨ret_int HE.out.symm,Below.refl _ _⟩
 have d2:decide ((20:Int) < (m:Int))=false:=by simp;omega
 have HN1:Hid (Calls Tryz.prog 58 #[.pointer (some ⟨g,0,none⟩)] w fun e w'=>e=.returned (.int .i64 ce)∧Below w.heap.size w w'):=HCN.out (by omega)
 have HL1:Hid (∀ W,Below w.heap.size w W→Calls Tryz.prog 59 #[.pointer (some ⟨g,0,none⟩)] W fun e w'=>e=.returned (.int .i64 le)∧Below W.heap.size W w'):=HCL.out (by omega) (by omega)
 have HE2':Hid (ce≠0→te=ce):=HE2.out (by omega)
 have HE3':Hid (ce=0→te=le):=HE3.out (by omega)
 clear HE1 HE2 HE3 h6 h20 HCN HCL
 go_enter Tryz.func27,Tryz.ntmps27
 go_wp2_with fail
 refine HN1.out.mono ?_
 rintro e w1 ⟨rfl,hb1⟩
 have HB1:Hid (Below w.heap.size w w1):=hb1
 clear hb1
 by_cases h0:ce=0
 ·have he:(ce != 0)=false:=by simpa using h0
  have HE:Hid (te=le):=HE3'.out h0
  clear h0 HE2' HE3'
  go_wp2_with fail
  refine (HL1.out w1 HB1.out).mono ?_
  rintro e w2 ⟨rfl,hb2⟩
  have HB2:Hid (Below w.heap.size w w2):=HB1.out.trans (hb2.mono HB1.out.size)
  clear hb2
  go_wp2_with fail
  go_ret
  exact ⟨ret_int HE.out.symm,HB2.out⟩
 ·have he:(ce != 0)=true:=by simpa using h0
  have HE:Hid (te=ce):=HE2'.out h0
  clear h0 HE2' HE3'
  go_wp2_with fail
  go_ret
  exact ⟨ret_int HE.out.symm,HB1.out⟩
set_option maxHeartbeats 6400000 in
set_option maxRecDepth 100000 in
theorem netCheck_any (t:Nt) (vn vl:Value) (w:World) (hV:Rv w.heap.size w) (h:NtIs w t vn vl) (hs:t.Short) :
 Calls Tryz.prog 11 #[.agg #[vn,vl]] w fun e w'=>e=.returned (.int .i64 t.e)∧Below w.heap.size w w':=by
 have HC:Hid (∀ W g,Below w.heap.size w W→W.cell? ⟨g,0,none⟩=some vn→W.cell? ⟨g,1,none⟩=some vl→Calls Tryz.prog 27 #[.pointer (some ⟨g,0,none⟩)] W fun e w'=>e=.returned (.int .i64 t.e)∧Below W.heap.size W w'):=fun W g hW h0 h1=>pcheckN_any t g vn vl W (hV.after hW) (h.below hW) hs h0 h1
 obtain ⟨⟨pn,cn,hvn,_⟩,⟨pl,cl,hvl,_,_⟩⟩:=h
 subst hvn hvl
 generalize t.e=te at *
 generalize t.ns.length=n at *
 generalize t.ls.length=m at *
 clear hs hV
 go_enter Tryz.func11,Tryz.ntmps11
 go_wp2_with fail
 refine (HC.out _ _ (((Below.refl _ _).alloc (Nat.le_refl _) _).alloc (by simp) _) (by simp) (by simp)).mono ?_
 rintro e w1 ⟨rfl,hb1⟩
 have HB1:Hid (Below w.heap.size w w1):=((((Below.refl w.heap.size w).alloc (Nat.le_refl _) _).alloc (by simp) _).trans (hb1.mono (by simp;omega)))
 clear hb1
 go_wp2_with fail
 go_ret
 exact ⟨rfl,HB1.out⟩
end Go.Proofs.YtffdoiokmiklgaaGreatDoor
namespace Go.Proofs.YtffdoiokmiklgaaGreatDoor
namespace Sv
open Go.RowKit
set_option maxHeartbeats 800000 in
theorem equal_any (a b:List Svc) (va vb:Value) (w:World) (ha:Sl w va a) (hb:Sl w vb b) (hsm:a.length≤1000) :
 Calls Tryz.prog 55 #[va,vb] w fun e w'=>∃ r:Bool,e=.returned (.bool r)∧(r=true↔a=b)∧Below w.heap.size w w':=by
 obtain ⟨pa,ca,rfl,_,ha⟩:=ha
 obtain ⟨pv,cb,rfl,_,hb⟩:=hb
 by_cases hl:a.length=b.length
 ·have HA:Hid (a=[]∨∃ b off,pa=some ⟨b,off,none⟩∧b < w.heap.size∧Row w b off a):=ha
  have HB:Hid (b=[]∨∃ b_1 off,pv=some ⟨b_1,off,none⟩∧b_1 < w.heap.size∧Row w b_1 off b):=hb
  have HL:Hid (a.length=b.length):=hl
  clear ha hb
  rw [← hl]
  clear hl
  generalize hna:a.length=n at *
  have HN:Hid (a.length=n):=hna
  clear hna
  have hg28:Tryz.prog.eqGuardType Tryz.prog.depth 42=false:=by kernel_rfl
  go_enter Tryz.func55,Tryz.ntmps55
  go_wp2_with fail
  go_loopw [13] (fun i w'=>∃ k:Nat,k≤n∧i=.int .i64 k∧Below w.heap.size w w'∧Hid (∀ j,j < k→a.getD j dm=b.getD j dm)) (fun i _=>n - (intOf i).toNat)
  case atStart=>exact ⟨0,Nat.zero_le _,rfl,Below.refl _ _,fun j h=>absurd h (Nat.not_lt_zero _)⟩
  case round=>
   obtain ⟨k,hk,rfl,hbl,hz⟩:=hrel
   obtain ⟨hbc,hbf⟩:=bcell hbl
   have hsz:=hbl.size
   by_cases hlt:k < n
   ·obtain ⟨b1,o1,hp1,hl1,hr1⟩:∃ b off,pa=some ⟨b,off,none⟩∧b < w.heap.size∧Row w b off a:=by
     rcases HA.out with h | h
     ·have:=HN.out;rw [h] at this;simp at this;omega
     ·exact h
    obtain ⟨b2,o2,hp2,hl2,hr2⟩:∃ b_1 off,pv=some ⟨b_1,off,none⟩∧b_1 < w.heap.size∧Row w b_1 off b:=by
     rcases HB.out with h | h
     ·have h2:=HN.out;have h3:=HL.out;rw [h] at h3;simp at h3;omega
     ·exact h
    subst hp1
    subst hp2
    obtain ⟨c0,c1,c2,c3,c4,c5,c6,c7,c8⟩:=hr1 k (by rw [HN.out];exact hlt)
    obtain ⟨d0,d1,d2,d3,d4,d5,d6,d7,d8⟩:=hr2 k (by have h2:=HN.out;have h3:=HL.out;omega)
    clear hr1 hr2
    have HF:Hid (a.getD k dm≠b.getD k dm→a≠b):=fun h e=>h (by rw [e])
    have HZ:Hid (a.getD k dm=b.getD k dm→∀ j,j < k+1→a.getD j dm=b.getD j dm):=fun h j hj=>by
     rcases Nat.lt_succ_iff_lt_or_eq.1 hj with h2 | rfl
     ·exact hz.out j h2
     ·exact h
    have hneq:=neqE (a.getD k dm) (b.getD k dm)
    generalize a.getD k dm=m1 at *
    generalize b.getD k dm=m2 at *
    rcases hs:sameM m1 m2 with _ | _
    ·rw [hs] at hneq
     have hne:Hid (a≠b):=HF.out (fun e=>by rw [← sameM_iff,hs] at e;cases e)
     go_wp2_with fail
     go_quiet (fail)
     go_wp2_with fail
     go_ret
     exact ⟨false,rfl,⟨fun h=>(by cases h),fun h=>absurd h hne.out⟩,below_drewN hbl _⟩
    ·rw [hs] at hneq
     have heq:Hid (m1=m2):=(sameM_iff m1 m2).1 hs
     go_wp2_with fail
     go_quiet (fail)
     go_wp2_with fail
     go_roundw
     case rel=>exact ⟨k+1,by omega,by go_num,below_drewN hbl _,HZ.out heq.out⟩
     case measure=>simp [intOf];omega
   ·have hfin:Hid (a=b):=by
     apply List.ext_getElem (HN.out.trans HL.out)
     intro j h1 h2
     have:=hz.out j (by have:=HN.out;omega)
     simpa [List.getD,List.getElem?_eq_getElem h1,List.getElem?_eq_getElem h2] using this
    go_wp2_with fail
    go_ret
    exact ⟨true,rfl,⟨fun _=>hfin.out,fun _=>rfl⟩,hbl⟩
 ·have hne:((a.length:Int) != (b.length:Int))=true:=by rw [bne_iff_ne];omega
  have HF:Hid (a≠b):=fun e=>hl (by rw [e])
  clear ha hb
  go_enter Tryz.func55,Tryz.ntmps55
  go_wp2_with fail
  go_ret
  exact ⟨false,rfl,⟨fun h=>(by cases h),fun h=>absurd h HF.out⟩,Below.refl _ _⟩
end Sv
end Go.Proofs.YtffdoiokmiklgaaGreatDoor
namespace Go.Proofs.YtffdoiokmiklgaaGreatDoor
open Go.RowKit
def SameK (a b:Nd):Prop:=a.ms=b.ms∧a.sv=b.sv∧a.gw=b.gw
theorem boolOf (p:Prop):∃ r:Bool,r=true↔p:=by
 by_cases h:p
 ·exact ⟨true,by simp [h]⟩
 ·exact ⟨false,by simp [h]⟩
theorem bool_is {r s:Bool} {p:Prop} (h1:r=true↔p) (h2:s=true↔p):r=s:=by
 cases r<;>cases s<;>simp_all
theorem Calls.tells {f:FuncId} {args:Array Value} {w:World} {p:Prop} {r:Bool} (hr:r=true↔p) (h:Calls Tryz.prog f args w fun e w'=>∃ r:Bool,e=.returned (.bool r)∧(r=true↔p)∧Below w.heap.size w w'):Calls Tryz.prog f args w fun e w'=>e=.returned (.bool r)∧Below w.heap.size w w':=by
 refine h.mono ?_
 rintro e w' ⟨s,rfl,hs,hb⟩
 exact ⟨by rw [bool_is hs hr],hb⟩
set_option maxHeartbeats 6400000 in
set_option maxRecDepth 100000 in
theorem know_at (a0 a1:ByteArray) (ap2 ap3 ap4 ap5 ap11:Option Addr) (an2 ac2 an3 ac3 an4 ac4 an5 ac5 an11 ac11:Nat) (a6 a7 a8 a9 a10:Int) (b0 b1:ByteArray) (bp2 bp3 bp4 bp5 bp11:Option Addr) (bn2 bc2 bn3 bc3 bn4 bc4 bn5 bc5 bn11 bc11:Nat) (b6 b7 b8 b9 b10:Int) (r1 r2 r3:Bool) (w:World)
 (h1:∀ W,Below w.heap.size w W→Calls Tryz.prog 54 #[.slice ap2 an2 ac2,.slice bp2 bn2 bc2] W fun e w'=>e=.returned (.bool r1)∧Below W.heap.size W w')
 (h2:∀ W,Below w.heap.size w W→Calls Tryz.prog 55 #[.slice ap4 an4 ac4,.slice bp4 bn4 bc4] W fun e w'=>e=.returned (.bool r2)∧Below W.heap.size W w')
 (h3:∀ W,Below w.heap.size w W→Calls Tryz.prog 56 #[.slice ap5 an5 ac5,.slice bp5 bn5 bc5] W fun e w'=>e=.returned (.bool r3)∧Below W.heap.size W w') :
 Calls Tryz.prog 25 #[.agg #[.string a0,.string a1,.slice ap2 an2 ac2,.slice ap3 an3 ac3,.slice ap4 an4 ac4,.slice ap5 an5 ac5,.int .i64 a6,.int .i64 a7,.int .i64 a8,.int .i64 a9,.int .i64 a10,.slice ap11 an11 ac11],.agg #[.string b0,.string b1,.slice bp2 bn2 bc2,.slice bp3 bn3 bc3,.slice bp4 bn4 bc4,.slice bp5 bn5 bc5,.int .i64 b6,.int .i64 b7,.int .i64 b8,.int .i64 b9,.int .i64 b10,.slice bp11 bn11 bc11]] w fun e w'=>e=.returned (.bool (r1 && (r2 && r3)))∧Below w.heap.size w w':=by
 have H1:Hid _:=h1
 have H2:Hid _:=h2
 have H3:Hid _:=h3
 clear h1 h2 h3
 obtain ⟨W0,hW0⟩:∃ W0,W0=(w.alloc (.cells #[.string a0,.string a1,.slice ap2 an2 ac2,.slice ap3 an3 ac3,.slice ap4 an4 ac4,.slice ap5 an5 ac5,.int .i64 a6,.int .i64 a7,.int .i64 a8,.int .i64 a9,.int .i64 a10,.slice ap11 an11 ac11] 51)).alloc (.cells #[.string b0,.string b1,.slice bp2 bn2 bc2,.slice bp3 bn3 bc3,.slice bp4 bn4 bc4,.slice bp5 bn5 bc5,.int .i64 b6,.int .i64 b7,.int .i64 b8,.int .i64 b9,.int .i64 b10,.slice bp11 bn11 bc11] 51):=⟨_,rfl⟩
 have hb0:Below w.heap.size w W0:=by rw [hW0];exact ((Below.refl _ _).alloc (Nat.le_refl _) _).alloc (by simp) _
 have k0:W0.heap[w.heap.size]?=some (.cells #[.string a0,.string a1,.slice ap2 an2 ac2,.slice ap3 an3 ac3,.slice ap4 an4 ac4,.slice ap5 an5 ac5,.int .i64 a6,.int .i64 a7,.int .i64 a8,.int .i64 a9,.int .i64 a10,.slice ap11 an11 ac11] 51 (0,0)):=by
  rw [hW0];exact (Lib.alloc_old _ _ _ (by simp)).trans (heap_alloc_new w _)
 have k1:W0.heap[w.heap.size+1]?=some (.cells #[.string b0,.string b1,.slice bp2 bn2 bc2,.slice bp3 bn3 bc3,.slice bp4 bn4 bc4,.slice bp5 bn5 bc5,.int .i64 b6,.int .i64 b7,.int .i64 b8,.int .i64 b9,.int .i64 b10,.slice bp11 bn11 bc11] 51 (0,0)):=by
  rw [hW0]
  have:=heap_alloc_new (w.alloc (.cells #[.string a0,.string a1,.slice ap2 an2 ac2,.slice ap3 an3 ac3,.slice ap4 an4 ac4,.slice ap5 an5 ac5,.int .i64 a6,.int .i64 a7,.int .i64 a8,.int .i64 a9,.int .i64 a10,.slice ap11 an11 ac11] 51)) (.cells #[.string b0,.string b1,.slice bp2 bn2 bc2,.slice bp3 bn3 bc3,.slice bp4 bn4 bc4,.slice bp5 bn5 bc5,.int .i64 b6,.int .i64 b7,.int .i64 b8,.int .i64 b9,.int .i64 b10,.slice bp11 bn11 bc11] 51)
  simpa using this
 have HX:Hid (∀ W,Below W0.heap.size W0 W→W.cell? ⟨w.heap.size,2,none⟩=some (.slice ap2 an2 ac2)∧W.cell? ⟨w.heap.size+1,2,none⟩=some (.slice bp2 bn2 bc2)∧W.cell? ⟨w.heap.size,4,none⟩=some (.slice ap4 an4 ac4)∧W.cell? ⟨w.heap.size+1,4,none⟩=some (.slice bp4 bn4 bc4)∧W.cell? ⟨w.heap.size,5,none⟩=some (.slice ap5 an5 ac5)∧W.cell? ⟨w.heap.size+1,5,none⟩=some (.slice bp5 bn5 bc5)):=fun W hW=>by
  have g0:=(hW.block _ (Array.getElem?_eq_some_iff.1 k0).1).trans k0
  have g1:=(hW.block _ (Array.getElem?_eq_some_iff.1 k1).1).trans k1
  exact ⟨cellsAt g0 2,cellsAt g1 2,cellsAt g0 4,cellsAt g1 4,cellsAt g0 5,cellsAt g1 5⟩
 have HB0:Hid (Below w.heap.size w W0):=hb0
 obtain ⟨x2,y2,x4,y4,x5,y5⟩:=HX.out W0 (Below.refl _ _)
 clear hb0 k0 k1
 go_enter Tryz.func25,Tryz.ntmps25
 go_upto_region 1 with fail
 rw [← hW0]
 clear hW0
 go_wp2_with fail
 refine (H1.out W0 HB0.out).mono ?_
 rintro e w1 ⟨rfl,hb1⟩
 have HB01:Hid (Below W0.heap.size W0 w1):=hb1
 have HB1:Hid (Below w.heap.size w w1):=HB0.out.trans (hb1.mono HB0.out.size)
 clear hb1 x2 y2 x4 y4 x5 y5
 obtain ⟨x2,y2,x4,y4,x5,y5⟩:=HX.out w1 HB01.out
 rcases r1 with _ | _
 ·go_wp2_with fail
  go_ret
  exact ⟨rfl,HB1.out⟩
 go_wp2_with fail
 refine (H2.out w1 HB1.out).mono ?_
 rintro e w2 ⟨rfl,hb2⟩
 have HB02:Hid (Below W0.heap.size W0 w2):=HB01.out.trans (hb2.mono HB01.out.size)
 have HB2:Hid (Below w.heap.size w w2):=HB1.out.trans (hb2.mono HB1.out.size)
 clear hb2 x2 y2 x4 y4 x5 y5
 obtain ⟨x2,y2,x4,y4,x5,y5⟩:=HX.out w2 HB02.out
 rcases r2 with _ | _
 ·go_wp2_with fail
  go_ret
  exact ⟨rfl,HB2.out⟩
 go_wp2_with fail
 refine (H3.out w2 HB2.out).mono ?_
 rintro e w3 ⟨rfl,hb3⟩
 have HB3:Hid (Below w.heap.size w w3):=HB2.out.trans (hb3.mono HB2.out.size)
 clear hb3 x2 y2 x4 y4 x5 y5
 go_wp2_with fail
 go_ret
 exact ⟨rfl,HB3.out⟩
theorem know_any (a b:Nd) (am ar as_ ag aw bm br bs bg bw:Value) (r:Bool) (w:World) (ha:NdIs w a am ar as_ ag aw) (hb:NdIs w b bm br bs bg bw) (la:a.ms.length≤1000∧a.sv.length≤1000∧a.gw.length≤1000) (hr:r=true↔SameK a b) :
 Calls Tryz.prog 25 #[.agg (ndA a am ar as_ ag aw),.agg (ndA b bm br bs bg bw)] w fun e w'=>e=.returned (.bool r)∧Below w.heap.size w w':=by
 obtain ⟨r1,e1⟩:=boolOf (a.ms=b.ms)
 obtain ⟨r2,e2⟩:=boolOf (a.sv=b.sv)
 obtain ⟨r3,e3⟩:=boolOf (a.gw=b.gw)
 have hrr:r=(r1 && (r2 && r3)):=bool_is hr (by simp only [Bool.and_eq_true,e1,e2,e3,SameK])
 have HA:=ha
 have HB:=hb
 obtain ⟨⟨x2,c2,rfl,_,_⟩,⟨x3,c3,rfl,_,_⟩,⟨x4,c4,rfl,_,_⟩,⟨x5,c5,rfl,_,_⟩,⟨x6,c6,rfl,_,_⟩,_,_⟩:=ha
 obtain ⟨⟨y2,d2,rfl,_,_⟩,⟨y3,d3,rfl,_,_⟩,⟨y4,d4,rfl,_,_⟩,⟨y5,d5,rfl,_,_⟩,⟨y6,d6,rfl,_,_⟩,_,_⟩:=hb
 rw [hrr]
 exact know_at _ _ _ _ _ _ _ _ _ _ _ _ _ _ _ _ _ _ _ _ _ _ _ _ _ _ _ _ _ _ _ _ _ _ _ _ _ _ _ _ _ _ _ _ r1 r2 r3 w (fun W hW=>Calls.tells e1 (equal_any _ _ _ _ W (HA.below hW).ms (HB.below hW).ms la.1)) (fun W hW=>Calls.tells e2 (Sv.equal_any _ _ _ _ W (HA.below hW).sv (HB.below hW).sv la.2.1)) (fun W hW=>Calls.tells e3 (Gw.equal_any _ _ _ _ W (HA.below hW).gw (HB.below hW).gw la.2.2))
set_option maxHeartbeats 6400000 in
set_option maxRecDepth 100000 in
theorem agree1_at (b off n cap nx:Nat) (a0 a1:ByteArray) (ap2 ap3 ap4 ap5 ap11:Option Addr) (an2 ac2 an3 ac3 an4 ac4 an5 ac5 an11 ac11:Nat) (a6 a7 a8 a9 a10:Int) (b0 b1:ByteArray) (bp2 bp3 bp4 bp5 bp11:Option Addr) (bn2 bc2 bn3 bc3 bn4 bc4 bn5 bc5 bn11 bc11:Nat) (b6 b7 b8 b9 b10:Int) (r:Bool) (w:World) (hn:0 < n) (g0:w.cell? ⟨nx,0,none⟩=some (.slice (some ⟨b,off,none⟩) n cap))
 (c0:w.cell? ⟨b,off,none⟩=some (.string b0)) (c1:w.cell? ⟨b,off+1,none⟩=some (.string b1)) (c2:w.cell? ⟨b,off+2,none⟩=some (.slice bp2 bn2 bc2)) (c3:w.cell? ⟨b,off+3,none⟩=some (.slice bp3 bn3 bc3)) (c4:w.cell? ⟨b,off+4,none⟩=some (.slice bp4 bn4 bc4)) (c5:w.cell? ⟨b,off+5,none⟩=some (.slice bp5 bn5 bc5)) (c6:w.cell? ⟨b,off+6,none⟩=some (.int .i64 b6)) (c7:w.cell? ⟨b,off+7,none⟩=some (.int .i64 b7)) (c8:w.cell? ⟨b,off+8,none⟩=some (.int .i64 b8)) (c9:w.cell? ⟨b,off+9,none⟩=some (.int .i64 b9)) (c10:w.cell? ⟨b,off+10,none⟩=some (.int .i64 b10)) (c11:w.cell? ⟨b,off+11,none⟩=some (.slice bp11 bn11 bc11))
 (hK:∀ W,Below w.heap.size w W→Calls Tryz.prog 25 #[.agg #[.string a0,.string a1,.slice ap2 an2 ac2,.slice ap3 an3 ac3,.slice ap4 an4 ac4,.slice ap5 an5 ac5,.int .i64 a6,.int .i64 a7,.int .i64 a8,.int .i64 a9,.int .i64 a10,.slice ap11 an11 ac11],.agg #[.string b0,.string b1,.slice bp2 bn2 bc2,.slice bp3 bn3 bc3,.slice bp4 bn4 bc4,.slice bp5 bn5 bc5,.int .i64 b6,.int .i64 b7,.int .i64 b8,.int .i64 b9,.int .i64 b10,.slice bp11 bn11 bc11]] W fun e w'=>e=.returned (.bool r)∧Below W.heap.size W w') :
 Calls Tryz.prog 24 #[.agg #[.string a0,.string a1,.slice ap2 an2 ac2,.slice ap3 an3 ac3,.slice ap4 an4 ac4,.slice ap5 an5 ac5,.int .i64 a6,.int .i64 a7,.int .i64 a8,.int .i64 a9,.int .i64 a10,.slice ap11 an11 ac11],.pointer (some ⟨nx,0,none⟩)] w fun e w'=>e=.returned (.bool (!r))∧Below w.heap.size w w':=by
 have hgl:nx < w.heap.size:=World.block_lt_of_cell? w _ g0
 have hbl:b < w.heap.size:=World.block_lt_of_cell? w _ c0
 have HK:Hid _:=hK
 have hlt:(0:Int) < (n:Int):=by omega
 obtain ⟨W0,hW0⟩:∃ W0,W0=w.alloc (.cells #[.string a0,.string a1,.slice ap2 an2 ac2,.slice ap3 an3 ac3,.slice ap4 an4 ac4,.slice ap5 an5 ac5,.int .i64 a6,.int .i64 a7,.int .i64 a8,.int .i64 a9,.int .i64 a10,.slice ap11 an11 ac11] 51):=⟨_,rfl⟩
 have hb0:Below w.heap.size w W0:=by rw [hW0];exact (Below.refl _ _).alloc (Nat.le_refl _) _
 have k0:W0.heap[w.heap.size]?=some (.cells #[.string a0,.string a1,.slice ap2 an2 ac2,.slice ap3 an3 ac3,.slice ap4 an4 ac4,.slice ap5 an5 ac5,.int .i64 a6,.int .i64 a7,.int .i64 a8,.int .i64 a9,.int .i64 a10,.slice ap11 an11 ac11] 51 (0,0)):=by rw [hW0];exact heap_alloc_new w _
 have HB0:Hid (Below w.heap.size w W0):=hb0
 clear hK
 go_enter Tryz.func24,Tryz.ntmps24
 go_upto_region 1 with fail
 rw [← hW0]
 clear hW0
 have G0:∀ d os,(Go.Sort.grow (redrawn W0 d) os).cell? ⟨nx,0,none⟩=some (.slice (some ⟨b,off,none⟩) n cap):=cell_regrown ((hb0.cell (p:=⟨nx,0,none⟩) hgl).trans g0)
 have F0:∀ d os,(Go.Sort.grow (redrawn W0 d) os).cell? ⟨w.heap.size,0,none⟩=some (.string a0):=cell_regrown (cellsAt k0 0)
 have F1:∀ d os,(Go.Sort.grow (redrawn W0 d) os).cell? ⟨w.heap.size,1,none⟩=some (.string a1):=cell_regrown (cellsAt k0 1)
 have F2:∀ d os,(Go.Sort.grow (redrawn W0 d) os).cell? ⟨w.heap.size,2,none⟩=some (.slice ap2 an2 ac2):=cell_regrown (cellsAt k0 2)
 have F3:∀ d os,(Go.Sort.grow (redrawn W0 d) os).cell? ⟨w.heap.size,3,none⟩=some (.slice ap3 an3 ac3):=cell_regrown (cellsAt k0 3)
 have F4:∀ d os,(Go.Sort.grow (redrawn W0 d) os).cell? ⟨w.heap.size,4,none⟩=some (.slice ap4 an4 ac4):=cell_regrown (cellsAt k0 4)
 have F5:∀ d os,(Go.Sort.grow (redrawn W0 d) os).cell? ⟨w.heap.size,5,none⟩=some (.slice ap5 an5 ac5):=cell_regrown (cellsAt k0 5)
 have F6:∀ d os,(Go.Sort.grow (redrawn W0 d) os).cell? ⟨w.heap.size,6,none⟩=some (.int .i64 a6):=cell_regrown (cellsAt k0 6)
 have F7:∀ d os,(Go.Sort.grow (redrawn W0 d) os).cell? ⟨w.heap.size,7,none⟩=some (.int .i64 a7):=cell_regrown (cellsAt k0 7)
 have F8:∀ d os,(Go.Sort.grow (redrawn W0 d) os).cell? ⟨w.heap.size,8,none⟩=some (.int .i64 a8):=cell_regrown (cellsAt k0 8)
 have F9:∀ d os,(Go.Sort.grow (redrawn W0 d) os).cell? ⟨w.heap.size,9,none⟩=some (.int .i64 a9):=cell_regrown (cellsAt k0 9)
 have F10:∀ d os,(Go.Sort.grow (redrawn W0 d) os).cell? ⟨w.heap.size,10,none⟩=some (.int .i64 a10):=cell_regrown (cellsAt k0 10)
 have F11:∀ d os,(Go.Sort.grow (redrawn W0 d) os).cell? ⟨w.heap.size,11,none⟩=some (.slice ap11 an11 ac11):=cell_regrown (cellsAt k0 11)
 have E0:∀ d os,(Go.Sort.grow (redrawn W0 d) os).cell? ⟨b,off,none⟩=some (.string b0):=cell_regrown ((hb0.cell (p:=⟨b,off,none⟩) hbl).trans c0)
 have E1:∀ d os,(Go.Sort.grow (redrawn W0 d) os).cell? ⟨b,off+1,none⟩=some (.string b1):=cell_regrown ((hb0.cell (p:=⟨b,off+1,none⟩) hbl).trans c1)
 have E2:∀ d os,(Go.Sort.grow (redrawn W0 d) os).cell? ⟨b,off+2,none⟩=some (.slice bp2 bn2 bc2):=cell_regrown ((hb0.cell (p:=⟨b,off+2,none⟩) hbl).trans c2)
 have E3:∀ d os,(Go.Sort.grow (redrawn W0 d) os).cell? ⟨b,off+3,none⟩=some (.slice bp3 bn3 bc3):=cell_regrown ((hb0.cell (p:=⟨b,off+3,none⟩) hbl).trans c3)
 have E4:∀ d os,(Go.Sort.grow (redrawn W0 d) os).cell? ⟨b,off+4,none⟩=some (.slice bp4 bn4 bc4):=cell_regrown ((hb0.cell (p:=⟨b,off+4,none⟩) hbl).trans c4)
 have E5:∀ d os,(Go.Sort.grow (redrawn W0 d) os).cell? ⟨b,off+5,none⟩=some (.slice bp5 bn5 bc5):=cell_regrown ((hb0.cell (p:=⟨b,off+5,none⟩) hbl).trans c5)
 have E6:∀ d os,(Go.Sort.grow (redrawn W0 d) os).cell? ⟨b,off+6,none⟩=some (.int .i64 b6):=cell_regrown ((hb0.cell (p:=⟨b,off+6,none⟩) hbl).trans c6)
 have E7:∀ d os,(Go.Sort.grow (redrawn W0 d) os).cell? ⟨b,off+7,none⟩=some (.int .i64 b7):=cell_regrown ((hb0.cell (p:=⟨b,off+7,none⟩) hbl).trans c7)
 have E8:∀ d os,(Go.Sort.grow (redrawn W0 d) os).cell? ⟨b,off+8,none⟩=some (.int .i64 b8):=cell_regrown ((hb0.cell (p:=⟨b,off+8,none⟩) hbl).trans c8)
 have E9:∀ d os,(Go.Sort.grow (redrawn W0 d) os).cell? ⟨b,off+9,none⟩=some (.int .i64 b9):=cell_regrown ((hb0.cell (p:=⟨b,off+9,none⟩) hbl).trans c9)
 have E10:∀ d os,(Go.Sort.grow (redrawn W0 d) os).cell? ⟨b,off+10,none⟩=some (.int .i64 b10):=cell_regrown ((hb0.cell (p:=⟨b,off+10,none⟩) hbl).trans c10)
 have E11:∀ d os,(Go.Sort.grow (redrawn W0 d) os).cell? ⟨b,off+11,none⟩=some (.slice bp11 bn11 bc11):=cell_regrown ((hb0.cell (p:=⟨b,off+11,none⟩) hbl).trans c11)
 have C0:∀ d os,Calls Tryz.prog 25 #[.agg #[.string a0,.string a1,.slice ap2 an2 ac2,.slice ap3 an3 ac3,.slice ap4 an4 ac4,.slice ap5 an5 ac5,.int .i64 a6,.int .i64 a7,.int .i64 a8,.int .i64 a9,.int .i64 a10,.slice ap11 an11 ac11],.agg #[.string b0,.string b1,.slice bp2 bn2 bc2,.slice bp3 bn3 bc3,.slice bp4 bn4 bc4,.slice bp5 bn5 bc5,.int .i64 b6,.int .i64 b7,.int .i64 b8,.int .i64 b9,.int .i64 b10,.slice bp11 bn11 bc11]] (Go.Sort.grow (redrawn W0 d) os) fun e w''=>e=.returned (.bool r)∧∃ p:Regrown,w''=Go.Sort.grow (redrawn W0 p.d) p.os:=fun d os=>Calls.regrown_of (HK.out _ (HB0.out.trans ((below_regrown W0 d os).mono HB0.out.size)))
 clear c0 c1 c2 c3 c4 c5 c6 c7 c8 c9 c10 c11 g0 hb0 k0 hgl hbl
 refine wp_region_quiet_below (by kernel_rfl) (by kernel_rfl) ?_
 repeat (quiet_step (exact C0 _ _))
 refine wpQuiet_nil ?_
 intro _ hw'
 obtain ⟨⟨dq,osq⟩,hw''⟩:=hw'
 subst hw''
 have HBQ:Hid (Below w.heap.size w (Go.Sort.grow (redrawn W0 dq) osq)):=HB0.out.trans ((below_regrown W0 dq osq).mono HB0.out.size)
 clear C0 G0 F0 E0 F1 E1 F2 E2 F3 E3 F4 E4 F5 E5 F6 E6 F7 E7 F8 E8 F9 E9 F10 E10 F11 E11 HB0
 go_wp2_with fail
 go_ret
 exact ⟨rfl,HBQ.out⟩
structure Nx where
 n:Nd
 vm:Value
 vr:Value
 vs:Value
 vg:Value
 vw:Value
def Nx.cs (x:Nx):List Value:=(ndA x.n x.vm x.vr x.vs x.vg x.vw).toList
def nx0:Nx:=⟨ndZ,.slice none 0 0,.slice none 0 0,.slice none 0 0,.slice none 0 0,.slice none 0 0⟩
def nfl (L:List Nx):List Value:=L.flatMap Nx.cs
theorem ncs_len (x:Nx):x.cs.length=12:=rfl
theorem nfl_len:∀ L:List Nx,(nfl L).length=L.length * 12
 | []=>rfl
 | x :: L=>by
   have:=nfl_len L
   unfold nfl at this ⊢
   rw [List.flatMap_cons,List.length_append,this,ncs_len,List.length_cons];omega
theorem nfl_app (a b:List Nx):nfl (a++b)=nfl a++nfl b:=by simp [nfl]
theorem nfl_one (x:Nx):nfl [x]=x.cs:=by simp [nfl]
theorem nfl_get (L:List Nx) (j:Nat) (hj:j < L.length) (t:Nat) (ht:t < 12):(nfl L)[j * 12+t]?=(L.getD j nx0).cs[t]?:=by
 induction L generalizing j with
 | nil=>simp at hj
 | cons m r ih=>
   have e:nfl (m :: r)=m.cs++nfl r:=by simp [nfl]
   rw [e]
   cases j with
   | zero=>rw [List.getElem?_append_left (by rw [ncs_len];omega)];simp
   | succ j=>
     rw [List.getElem?_append_right (by rw [ncs_len];omega),ncs_len,show (j+1) * 12+t - 12=j * 12+t by omega,ih j (by simpa using hj)]
     simp
theorem setAll_mid {b:Nat} {T:TypeId} {f:Nat × Nat}:∀ (L pre suf post:List Value) {w:World},w.heap[b]?=some (.cells (pre++suf++post).toArray T f)→suf.length=L.length→(setAll b L pre.length w).heap[b]?=some (.cells (pre++L++post).toArray T f)
 | [],pre,suf,post,w,h,hl=>by
   have:suf=[]:=List.eq_nil_of_length_eq_zero (by simpa using hl)
   subst this;exact h
 | x :: r,pre,[],post,w,h,hl=>absurd hl (by simp)
 | x :: r,pre,y :: s,post,w,h,hl=>by
   have h1:=Joins.block_setCell (i:=pre.length) h x
   rw [List.setIfInBounds_toArray,show (pre++y :: s++post).set pre.length x=(pre++[x])++s++post by simp] at h1
   have h2:=setAll_mid r (pre++[x]) s post h1 (by simpa using hl)
   rw [show (pre++[x]).length=pre.length+1 by simp,show (pre++[x])++r++post=pre++x :: r++post by simp] at h2
   exact h2
structure NtOwn (B:Nat) (w:World) (t:Nt) (un ul:Value) (nb:Nat) (L:List Nx):Prop where
 un:un=.slice (some ⟨nb,0,none⟩) t.ns.length t.ns.length
 le:B≤nb
 ns:L.map (·.n)=t.ns
 row:w.heap[nb]?=some (.cells (nfl L).toArray 51 (0,0))
 own:∀ x∈L,NdOwn (nb+1) w x.n x.vm x.vr x.vs x.vg x.vw
 ls:Lt.Own (nb+1) w ul t.ls
theorem NdOwn.keep {B:Nat} {w w':World} {n:Nd} {vm vr vs vg vw:Value} (h:NdOwn B w n vm vr vs vg vw) (hk:∀ b,B≤b→b < w.heap.size→w'.heap[b]?=w.heap[b]?):NdOwn B w' n vm vr vs vg vw:=⟨row_keep hk h.ms,row_keep hk h.rs,row_keep hk h.sv,row_keep hk h.gw,row_keep hk h.wh⟩
theorem row_mono {base base':Nat} {w:World} {T:TypeId} {k n:Nat} {v:Value} {cs:List Value} (h:w.ownsRow base T k v n cs) (hb:base'≤base):w.ownsRow base' T k v n cs:=by
 rcases h.2 with ⟨rfl,h0⟩ | ⟨g,c,cur,rfl,hbg,r⟩
 ·exact ⟨h.1,.inl ⟨rfl,h0⟩⟩
 ·exact ⟨h.1,.inr ⟨g,c,cur,rfl,Nat.le_trans hb hbg,r⟩⟩
theorem NdOwn.mono {A B:Nat} {w:World} {n:Nd} {vm vr vs vg vw:Value} (h:NdOwn B w n vm vr vs vg vw) (hb:A≤B):NdOwn A w n vm vr vs vg vw:=⟨h.ms.mono hb,row_mono h.rs hb,h.sv.mono hb,h.gw.mono hb,h.wh.mono hb⟩
def nzV:Value:=.agg #[.string ⟨#[]⟩,.string ⟨#[]⟩,.slice none 0 0,.slice none 0 0,.slice none 0 0,.slice none 0 0,.int .i64 0,.int .i64 0,.int .i64 0,.int .i64 0,.int .i64 0,.slice none 0 0]
theorem made_n0:madeCells nzV.cells (0 * 12)=(nfl (List.replicate 0 nx0)).toArray:=by kernel_rfl
theorem made_n1:madeCells nzV.cells (1 * 12)=(nfl (List.replicate 1 nx0)).toArray:=by kernel_rfl
theorem made_n2:madeCells nzV.cells (2 * 12)=(nfl (List.replicate 2 nx0)).toArray:=by kernel_rfl
theorem made_n3:madeCells nzV.cells (3 * 12)=(nfl (List.replicate 3 nx0)).toArray:=by kernel_rfl
theorem made_n4:madeCells nzV.cells (4 * 12)=(nfl (List.replicate 4 nx0)).toArray:=by kernel_rfl
theorem made_n5:madeCells nzV.cells (5 * 12)=(nfl (List.replicate 5 nx0)).toArray:=by kernel_rfl
theorem made_n6:madeCells nzV.cells (6 * 12)=(nfl (List.replicate 6 nx0)).toArray:=by kernel_rfl
theorem made_nodes (n:Nat) (h:n≤6):madeCells nzV.cells (n * 12)=(nfl (List.replicate n nx0)).toArray:=by
 have h7:n=0∨n=1∨n=2∨n=3∨n=4∨n=5∨n=6:=by omega
 rcases h7 with rfl | rfl | rfl | rfl | rfl | rfl | rfl
 ·exact made_n0
 ·exact made_n1
 ·exact made_n2
 ·exact made_n3
 ·exact made_n4
 ·exact made_n5
 ·exact made_n6
theorem Tryz.infoNd:(Tryz.prog.info? 51).map (fun i=>(i.zero,i.size,i.bytes))=some (some (.agg #[.string ⟨#[]⟩,.string ⟨#[]⟩,.slice none 0 0,.slice none 0 0,.slice none 0 0,.slice none 0 0,.int .i64 0,.int .i64 0,.int .i64 0,.int .i64 0,.int .i64 0,.slice none 0 0]),12,192):=by kernel_rfl
set_option maxHeartbeats 12800000 in
set_option maxRecDepth 100000 in
theorem copied_any (t:Nt) (vn vl:Value) (w:World) (h:NtIs w t vn vl) (hn6:t.ns.length≤6) (hl20:t.ls.length≤20) (hsm:∀ n∈t.ns,n.ms.length≤1000∧n.rs.length≤1000∧n.sv.length≤1000∧n.gw.length≤1000∧n.wh.length≤1000) :
 Calls Tryz.prog 18 #[.agg #[vn,vl]] w fun e w'=>∃ un a l c L,e=.returned (.agg #[un,.slice a l c])∧NtOwn w.heap.size w' t un (.slice a l c) (w.heap.size+2) L∧Below w.heap.size w w':=by
 obtain ⟨i0,hi0,hz0,hzs,hzb⟩:=info_parts Tryz.infoNd
 have HCL:Hid (∀ W,Below w.heap.size w W→Calls Tryz.prog 37 #[vl] W fun e w'=>∃ v',e=.returned v'∧Lt.Own W.heap.size w' v' t.ls∧Below W.heap.size W w'):=fun W hW=>Lt.clone_any t.ls vl W (h.ls.below hW) (by omega)
 have HSM:Hid (∀ n∈t.ns,n.ms.length≤1000∧n.rs.length≤1000∧n.sv.length≤1000∧n.gw.length≤1000∧n.wh.length≤1000):=hsm
 obtain ⟨⟨pn,cn,hvn,ha⟩,⟨pl,cl,hvl,_,_⟩⟩:=h
 subst hvn hvl
 obtain ⟨ns,ls⟩:=t
 simp only at *
 have HA:Hid (ns=[]∨∃ b off,pn=some ⟨b,off,none⟩∧b < w.heap.size∧NRow w b off ns):=ha
 clear ha hsm
 generalize hN:ns.length=n at *
 have HN:Hid (ns.length=n):=hN
 clear hN
 generalize ls.length=m at *
 obtain ⟨W0,hW0⟩:∃ W0,W0=(w.alloc (.cells #[.slice pn n cn,.slice pl m cl] 25)).alloc (.cells #[.slice none 0 0,.slice none 0 0] 25):=⟨_,rfl⟩
 have hb0:Below w.heap.size w W0:=by rw [hW0];exact ((Below.refl _ _).alloc (Nat.le_refl _) _).alloc (by simp) _
 have hs0:W0.heap.size=w.heap.size+2:=by rw [hW0];simp
 have k0:W0.heap[w.heap.size]?=some (.cells #[.slice pn n cn,.slice pl m cl] 25 (0,0)):=by
  rw [hW0];exact (Lib.alloc_old _ _ _ (by simp)).trans (heap_alloc_new w _)
 have k1:W0.heap[w.heap.size+1]?=some (.cells #[.slice none 0 0,.slice none 0 0] 25 (0,0)):=by
  rw [hW0]
  have:=heap_alloc_new (w.alloc (.cells #[.slice pn n cn,.slice pl m cl] 25)) (.cells #[.slice none 0 0,.slice none 0 0] 25)
  simpa using this
 obtain ⟨W1,hW1⟩:∃ W1,W1=W0.alloc (.cells (nfl (List.replicate n nx0)).toArray 51):=⟨_,rfl⟩
 have hmk:(Instr.makeSlice 22 (.int .i64 (n:Int)) (.int .i64 (n:Int))).run Tryz.prog W0=.ok (.slice (some ⟨w.heap.size+2,0,none⟩) n n) W1:=by
  have h:=run_makeSlice (P:=Tryz.prog) (w:=W0) 22 51 i0 _ Tryz.underlying22 hi0 hz0 .i64 .i64 (n:Int) (n:Int) (by omega) (Int.le_refl _) (by rw [hzs];omega) (by rw [hzb];omega) (by omega)
  have hm:=made_nodes n hn6
  unfold nzV at hm
  rw [hzs,Int.toNat_natCast,hm,hs0] at h
  rw [hW1]
  exact h
 have hb1:Below W0.heap.size W0 W1:=by rw [hW1];exact (Below.refl _ _).alloc (Nat.le_refl _) _
 have kn:W1.heap[w.heap.size+2]?=some (.cells (nfl (List.replicate n nx0)).toArray 51 (0,0)):=by rw [hW1,← hs0];exact heap_alloc_new W0 _
 have hs1:W1.heap.size=w.heap.size+3:=by rw [hW1];simp;omega
 have HBX:Hid (W1.heap[w.heap.size]?=some (.cells #[.slice pn n cn,.slice pl m cl] 25 (0,0))∧W1.heap[w.heap.size+1]?=some (.cells #[.slice none 0 0,.slice none 0 0] 25 (0,0))∧Below w.heap.size w W1):=⟨(hb1.block _ (by omega)).trans k0,(hb1.block _ (by omega)).trans k1,hb0.trans (hb1.mono (by omega))⟩
 have HKN:Hid (W1.heap[w.heap.size+2]?=some (.cells (nfl ([]++List.replicate (n - 0) nx0)).toArray 51 (0,0))):=kn
 have HS1:Hid (W1.heap.size=w.heap.size+3):=hs1
 have x0:W0.cell? ⟨w.heap.size,0,none⟩=some (.slice pn n cn):=cellsAt k0 0
 have x1:W1.cell? ⟨w.heap.size,0,none⟩=some (.slice pn n cn):=cellsAt HBX.out.1 0
 clear hb0 hb1 k0 k1 kn hW1 hs0 hs1 hi0 hz0 hzs hzb
 go_enter Tryz.func18,Tryz.ntmps18
 go_upto_region 1 with fail
 rw [← hW0]
 clear hW0
 go_wp2_with fail
 clear hmk x0 x1
 go_loopw [13] (fun i wr=>∃ (k:Nat) (L:List Nx),k≤n∧i=.int .i64 k∧Hid (L.map (·.n)=ns.take k∧L.length=k)∧Hid (wr.heap[w.heap.size+2]?=some (.cells (nfl (L++List.replicate (n - k) nx0)).toArray 51 (0,0)))∧Hid (∀ x∈L,NdOwn (w.heap.size+3) wr x.n x.vm x.vr x.vs x.vg x.vw)∧Hid (wr.heap[w.heap.size]?=some (.cells #[.slice pn n cn,.slice pl m cl] 25 (0,0))∧wr.heap[w.heap.size+1]?=some (.cells #[.slice none 0 0,.slice none 0 0] 25 (0,0))∧Below w.heap.size w wr)∧w.heap.size+3≤wr.heap.size) (fun i _=>n - (intOf i).toNat)
 case atStart=>exact ⟨0,[],Nat.zero_le _,rfl,⟨rfl,rfl⟩,HKN,(fun x hx=>by cases hx),HBX,by have:=HS1.out;omega⟩
 case round=>
  obtain ⟨k,L,hk,rfl,HL,HK,HO,HB,hsz⟩:=hrel
  by_cases hlt:k < n
  ·obtain ⟨b,off,hp,hl,hr⟩:∃ b off,pn=some ⟨b,off,none⟩∧b < w.heap.size∧NRow w b off ns:=by
    rcases HA.out with h | h
    ·have:=HN.out;rw [h] at this;simp at this;omega
    ·exact h
   subst hp
   obtain ⟨vm,vr,vs,vg,vw,hnd,c0,c1,c2,c3,c4,c5,c6,c7,c8,c9,c10,c11⟩:=(hr.below HB.out.2.2 hl).at (by rw [HN.out];exact hlt)
   have hkl:k < ns.length:=by rw [HN.out];exact hlt
   have HTK:Hid (ns.take (k+1)=ns.take k++[ns.getD k ndZ]):=by
    show _=_
    rw [List.take_add_one,List.getD,List.getElem?_eq_getElem hkl];rfl
   have hsm5:=HSM.out (ns.getD k ndZ) (by rw [List.getD,List.getElem?_eq_getElem hkl];exact List.getElem_mem hkl)
   generalize (ns.getD k ndZ)=nk at *
   have HFR:Hid (∀ W,Below wr.heap.size wr W→Calls Tryz.prog 36 #[.agg (ndA nk vm vr vs vg vw)] W fun e w'=>∃ um ur us ug uw,e=.returned (.agg (ndA nk um ur us ug uw))∧NdOwn W.heap.size w' nk um ur us ug uw∧Below W.heap.size W w'):=fun W hW=>fresh_any nk vm vr vs vg vw W (hnd.below hW) hsm5.1 hsm5.2.1 hsm5.2.2.1 hsm5.2.2.2.1 hsm5.2.2.2.2
   obtain ⟨⟨am,cm,hvm,_,_⟩,⟨ar,cr,hvr,_,_⟩,⟨ax,cx,hvs,_,_⟩,⟨ag,cg,hvg,_,_⟩,⟨aw,cw,hvw,_,_⟩,_,_⟩:=hnd
   subst hvm hvr hvs hvg hvw
   obtain ⟨nm,ct,ms,rs,sv,gw,⟨px,py,pz,ph,pq⟩,wh⟩:=nk
   simp only [ndA] at c0 c1 c2 c3 c4 c5 c6 c7 c8 c9 c10 c11 HFR
   clear hr hsm5 hkl
   have hkn:(k:Int) < n:=by omega
   obtain ⟨W2,hW2⟩:∃ W2,W2=wr.alloc (.cells #[.string nm,.string ct,.slice am ms.length cm,.slice ar rs.length cr,.slice ax sv.length cx,.slice ag gw.length cg,.int .i64 px,.int .i64 py,.int .i64 pz,.int .i64 ph,.int .i64 pq,.slice aw wh.length cw] 51):=⟨_,rfl⟩
   have hb2:Below wr.heap.size wr W2:=by rw [hW2];exact (Below.refl _ _).alloc (Nat.le_refl _) _
   have HX2:Hid (W2.heap[wr.heap.size]?=some (.cells #[.string nm,.string ct,.slice am ms.length cm,.slice ar rs.length cr,.slice ax sv.length cx,.slice ag gw.length cg,.int .i64 px,.int .i64 py,.int .i64 pz,.int .i64 ph,.int .i64 pq,.slice aw wh.length cw] 51 (0,0))):=by rw [hW2];exact heap_alloc_new wr _
   have HB2:Hid (Below wr.heap.size wr W2):=hb2
   clear hb2
   go_upto_region 5 with fail
   rw [← hW2]
   clear hW2 c0 c1 c2 c3 c4 c5 c6 c7 c8 c9 c10 c11
   obtain ⟨d0,d1,d2,d3,d4,d5,d6,d7,d8,d9,d10,d11⟩:=cells12 HX2.out
   go_wp2_with fail
   refine (HFR.out W2 HB2.out).mono ?_
   rintro e w3 ⟨um,ur,us,ug,uw,rfl,ho3,hb3⟩
   have hb03:Below wr.heap.size wr w3:=HB2.out.trans (hb3.mono HB2.out.size)
   have hk3:w3.heap[w.heap.size+2]?=some (.cells (nfl (L++List.replicate (n - k) nx0)).toArray 51 (0,0)):=(hb03.block _ (by omega)).trans HK.out
   have HLL:=HL.out.2
   have hnk:List.replicate (n - k) nx0=nx0 :: List.replicate (n - (k+1)) nx0:=by rw [show n - k=(n - (k+1))+1 by omega,List.replicate_succ]
   have hspl:nfl (L++List.replicate (n - k) nx0)=nfl L++nx0.cs++nfl (List.replicate (n - (k+1)) nx0):=by
    rw [nfl_app,hnk,show nfl (nx0 :: List.replicate (n - (k+1)) nx0)=nx0.cs++nfl (List.replicate (n - (k+1)) nx0) by simp [nfl],List.append_assoc]
   have hlen:(nfl L).length=k * 12:=by rw [nfl_len,HLL]
   rw [hspl] at hk3
   have hz:∀ i,i < 12→w3.cell? ⟨w.heap.size+2,k * 12+i,none⟩=nx0.cs[i]? ∧ w3.frozen? ⟨w.heap.size+2,k * 12+i,none⟩=false:=fun i hi=>by
    refine ⟨?_,by simp [World.frozen?,hk3]⟩
    rw [cellsAt hk3]
    rw [List.getElem?_toArray,List.append_assoc,List.getElem?_append_right (by omega),hlen,Nat.add_sub_cancel_left,List.getElem?_append_left (by rw [ncs_len];omega)]
   have e0:w3.cell? ⟨w.heap.size+2,k * 12,none⟩=some (.string ⟨#[]⟩):=(hz 0 (by omega)).1
   have z0:w3.frozen? ⟨w.heap.size+2,k * 12,none⟩=false:=(hz 0 (by omega)).2
   have e1:w3.cell? ⟨w.heap.size+2,k * 12+1,none⟩=some (.string ⟨#[]⟩):=(hz 1 (by omega)).1
   have z1:w3.frozen? ⟨w.heap.size+2,k * 12+1,none⟩=false:=(hz 1 (by omega)).2
   have e2:w3.cell? ⟨w.heap.size+2,k * 12+2,none⟩=some (.slice none 0 0):=(hz 2 (by omega)).1
   have z2:w3.frozen? ⟨w.heap.size+2,k * 12+2,none⟩=false:=(hz 2 (by omega)).2
   have e3:w3.cell? ⟨w.heap.size+2,k * 12+3,none⟩=some (.slice none 0 0):=(hz 3 (by omega)).1
   have z3:w3.frozen? ⟨w.heap.size+2,k * 12+3,none⟩=false:=(hz 3 (by omega)).2
   have e4:w3.cell? ⟨w.heap.size+2,k * 12+4,none⟩=some (.slice none 0 0):=(hz 4 (by omega)).1
   have z4:w3.frozen? ⟨w.heap.size+2,k * 12+4,none⟩=false:=(hz 4 (by omega)).2
   have e5:w3.cell? ⟨w.heap.size+2,k * 12+5,none⟩=some (.slice none 0 0):=(hz 5 (by omega)).1
   have z5:w3.frozen? ⟨w.heap.size+2,k * 12+5,none⟩=false:=(hz 5 (by omega)).2
   have e6:w3.cell? ⟨w.heap.size+2,k * 12+6,none⟩=some (.int .i64 0):=(hz 6 (by omega)).1
   have z6:w3.frozen? ⟨w.heap.size+2,k * 12+6,none⟩=false:=(hz 6 (by omega)).2
   have e7:w3.cell? ⟨w.heap.size+2,k * 12+7,none⟩=some (.int .i64 0):=(hz 7 (by omega)).1
   have z7:w3.frozen? ⟨w.heap.size+2,k * 12+7,none⟩=false:=(hz 7 (by omega)).2
   have e8:w3.cell? ⟨w.heap.size+2,k * 12+8,none⟩=some (.int .i64 0):=(hz 8 (by omega)).1
   have z8:w3.frozen? ⟨w.heap.size+2,k * 12+8,none⟩=false:=(hz 8 (by omega)).2
   have e9:w3.cell? ⟨w.heap.size+2,k * 12+9,none⟩=some (.int .i64 0):=(hz 9 (by omega)).1
   have z9:w3.frozen? ⟨w.heap.size+2,k * 12+9,none⟩=false:=(hz 9 (by omega)).2
   have e10:w3.cell? ⟨w.heap.size+2,k * 12+10,none⟩=some (.int .i64 0):=(hz 10 (by omega)).1
   have z10:w3.frozen? ⟨w.heap.size+2,k * 12+10,none⟩=false:=(hz 10 (by omega)).2
   have e11:w3.cell? ⟨w.heap.size+2,k * 12+11,none⟩=some (.slice none 0 0):=(hz 11 (by omega)).1
   have z11:w3.frozen? ⟨w.heap.size+2,k * 12+11,none⟩=false:=(hz 11 (by omega)).2
   obtain ⟨bm,em,hum,_⟩:=own_slice ho3.ms
   obtain ⟨br,er,hur,_⟩:=own_slice ho3.rs
   obtain ⟨bx,ex,hus,_⟩:=own_slice ho3.sv
   obtain ⟨bg,eg,hug,_⟩:=own_slice ho3.gw
   obtain ⟨bw,ew,huw,_⟩:=own_slice ho3.wh
   simp only at hum hur hus hug huw
   subst hum hur hus hug huw
   clear hz hspl hnk d0 d1 d2 d3 d4 d5 d6 d7 d8 d9 d10 d11
   obtain ⟨W4,hW4⟩:∃ W4,W4=setAll (w.heap.size+2) [.string nm,.string ct,.slice bm ms.length em,.slice br rs.length er,.slice bx sv.length ex,.slice bg gw.length eg,.int .i64 px,.int .i64 py,.int .i64 pz,.int .i64 ph,.int .i64 pq,.slice bw wh.length ew] (k * 12) w3:=⟨_,rfl⟩
   have HK4:Hid (W4.heap[w.heap.size+2]?=some (.cells (nfl ((L++[⟨⟨nm,ct,ms,rs,sv,gw,⟨px,py,pz,ph,pq⟩,wh⟩,.slice bm ms.length em,.slice br rs.length er,.slice bx sv.length ex,.slice bg gw.length eg,.slice bw wh.length ew⟩])++List.replicate (n - (k+1)) nx0)).toArray 51 (0,0))):=by
    have h:=setAll_mid [.string nm,.string ct,.slice bm ms.length em,.slice br rs.length er,.slice bx sv.length ex,.slice bg gw.length eg,.int .i64 px,.int .i64 py,.int .i64 pz,.int .i64 ph,.int .i64 pq,.slice bw wh.length ew] (nfl L) nx0.cs (nfl (List.replicate (n - (k+1)) nx0)) hk3 rfl
    rw [hlen,← hW4] at h
    rw [nfl_app,nfl_app,nfl_one]
    exact h
   have hoth:∀ q,q≠w.heap.size+2→W4.heap[q]?=w3.heap[q]?:=fun q hq=>by rw [hW4];exact setAll_other hq _ _ _
   have hz4:W4.heap.size=w3.heap.size:=by rw [hW4];exact setAll_size _ _ _ _
   have HO4:Hid (∀ x∈L++[(⟨⟨nm,ct,ms,rs,sv,gw,⟨px,py,pz,ph,pq⟩,wh⟩,.slice bm ms.length em,.slice br rs.length er,.slice bx sv.length ex,.slice bg gw.length eg,.slice bw wh.length ew⟩:Nx)],NdOwn (w.heap.size+3) W4 x.n x.vm x.vr x.vs x.vg x.vw):=fun x hx=>by
    rcases List.mem_append.1 hx with hx | hx
    ·exact ((HO.out x hx).below hb03).keep (fun q hq _=>hoth q (by omega))
    ·rw [List.mem_singleton.1 hx]
     exact (ho3.mono (by have:=HB2.out.size;omega)).keep (fun q hq _=>hoth q (by omega))
   have HB4:Hid (W4.heap[w.heap.size]?=some (.cells #[.slice (some ⟨b,off,none⟩) n cn,.slice pl m cl] 25 (0,0))∧W4.heap[w.heap.size+1]?=some (.cells #[.slice none 0 0,.slice none 0 0] 25 (0,0))∧Below w.heap.size w W4):=⟨(hoth _ (by omega)).trans ((hb03.block _ (by omega)).trans HB.out.1),(hoth _ (by omega)).trans ((hb03.block _ (by omega)).trans HB.out.2.1),by rw [hW4];exact setAll_below (by omega) _ _ (HB.out.2.2.trans (hb03.mono (by omega)))⟩
   have HL4:Hid ((L++[(⟨⟨nm,ct,ms,rs,sv,gw,⟨px,py,pz,ph,pq⟩,wh⟩,.slice bm ms.length em,.slice br rs.length er,.slice bx sv.length ex,.slice bg gw.length eg,.slice bw wh.length ew⟩:Nx)]).map (·.n)=ns.take (k+1)∧(L++[(⟨⟨nm,ct,ms,rs,sv,gw,⟨px,py,pz,ph,pq⟩,wh⟩,.slice bm ms.length em,.slice br rs.length er,.slice bx sv.length ex,.slice bg gw.length eg,.slice bw wh.length ew⟩:Nx)]).length=k+1):=⟨by rw [List.map_append,HL.out.1,HTK.out];rfl,by rw [List.length_append,HLL];rfl⟩
   have hsz4:w.heap.size+3≤W4.heap.size:=by rw [hz4];have:=hb03.size;omega
   clear hoth hz4 hk3 hlen ho3 hb3 hb03 HLL HTK HO HK HL HB HB2 HX2 HFR
   go_upto_region 6 with fail
   simp only [setAll,Nat.add_assoc,Nat.reduceAdd] at hW4
   rw [← hW4]
   clear hW4 e0 e1 e2 e3 e4 e5 e6 e7 e8 e9 e10 e11 z0 z1 z2 z3 z4 z5 z6 z7 z8 z9 z10 z11
   go_wp2_with fail
   exact ⟨⟨k+1,_,by omega,by go_num,HL4,HK4,HO4,HB4,hsz4⟩,by simp [intOf];omega⟩
  ·have hkn:k=n:=by omega
   have hd:decide ((k:Int) < (n:Int))=false:=by simp;omega
   have x2:wr.cell? ⟨w.heap.size,1,none⟩=some (.slice pl m cl):=cellsAt HB.out.1 1
   go_wp2_with fail
   refine (HCL.out wr HB.out.2.2).mono ?_
   rintro e w5 ⟨v',rfl,hol,hb5⟩
   obtain ⟨al,ll,kl,rfl⟩:=slice_of_row hol
   have hg5:w5.heap[w.heap.size+1]?=some (.cells #[.slice none 0 0,.slice none 0 0] 25 (0,0)):=(hb5.block _ (by omega)).trans HB.out.2.1
   obtain ⟨W6,hW6⟩:∃ W6,W6=setAll (w.heap.size+1) [.slice (some ⟨w.heap.size+2,0,none⟩) n n,.slice al ll kl] 0 w5:=⟨_,rfl⟩
   have hg6:W6.heap[w.heap.size+1]?=some (.cells #[.slice (some ⟨w.heap.size+2,0,none⟩) n n,.slice al ll kl] 25 (0,0)):=by rw [hW6];exact setAll_block [.slice (some ⟨w.heap.size+2,0,none⟩) n n,.slice al ll kl] [] [.slice none 0 0,.slice none 0 0] hg5 rfl
   have hoth:∀ q,q≠w.heap.size+1→W6.heap[q]?=w5.heap[q]?:=fun q hq=>by rw [hW6];exact setAll_other hq _ _ _
   have HRES:Hid (∃ un a l c L,Ending.returned (.agg #[.slice (some ⟨w.heap.size+2,0,none⟩) n n,.slice al ll kl])=.returned (.agg #[un,.slice a l c])∧NtOwn w.heap.size W6 ⟨ns,ls⟩ un (.slice a l c) (w.heap.size+2) L∧Below w.heap.size w W6):=by
    have hHK:=HK.out
    rw [show n - k=0 by omega] at hHK
    simp only [List.replicate_zero,List.append_nil] at hHK
    refine ⟨_,_,_,_,L,rfl,⟨by rw [HN.out],by omega,?_,?_,?_,?_⟩,?_⟩
    ·rw [HL.out.1,hkn,← HN.out,List.take_length]
    ·exact (hoth _ (by omega)).trans ((hb5.block _ (by omega)).trans hHK)
    ·exact fun x hx=>((HO.out x hx).below hb5).keep (fun q hq _=>hoth q (by omega))
    ·exact row_keep (fun q hq _=>hoth q (by omega)) (row_mono hol (by omega))
    ·rw [hW6];exact setAll_below (by omega) _ _ (HB.out.2.2.trans (hb5.mono (by omega)))
   have g0:w5.cell? ⟨w.heap.size+1,0,none⟩=some (.slice none 0 0):=cellsAt hg5 0
   have g1:w5.cell? ⟨w.heap.size+1,1,none⟩=some (.slice none 0 0):=cellsAt hg5 1
   have f0:w5.frozen? ⟨w.heap.size+1,0,none⟩=false:=by simp [World.frozen?,hg5]
   have f1:w5.frozen? ⟨w.heap.size+1,1,none⟩=false:=by simp [World.frozen?,hg5]
   have q0:W6.cell? ⟨w.heap.size+1,0,none⟩=some (.slice (some ⟨w.heap.size+2,0,none⟩) n n):=cellsAt hg6 0
   have q1:W6.cell? ⟨w.heap.size+1,1,none⟩=some (.slice al ll kl):=cellsAt hg6 1
   clear hg5 hg6 hoth hol hb5 HB HO HK HL hkn hd x2 HCL
   go_wp2_with fail
   simp only [setAll,Nat.zero_add] at hW6
   rw [← hW6]
   clear hW6 g0 g1 f0 f1
   exact bodyPost_ret (v:=.agg #[.slice (some ⟨w.heap.size+2,0,none⟩) n n,.slice al ll kl]) (by simp [results,Tryz.results18,go_sem,q0,q1]) rfl HRES.out
theorem Nd.e_parts {n:Nd} (h:n.e=0):n.Parts:=by
 unfold Nd.e at h
 split at h
 ·rename_i h0;exact Nd.parts h0
 ·rename_i h0;exact absurd h h0
theorem Nd.e_len {n:Nd} (h:n.e=0):n.ms.length≤1000∧n.rs.length≤1000∧n.sv.length≤1000∧n.gw.length≤1000∧n.wh.length≤1000:=by
 have p:=Nd.e_parts h
 have h1:=(chk_zero p.ms).1
 have h3:=(Sv.chk_zero p.sv).1
 have h4:=(Gw.chk_zero p.gw).1
 have h5:=(Wh.chk_zero p.wh).1
 have h2:n.rs.length≤20:=by
  apply Classical.byContradiction
  intro hh
  have:=chkR_many (rs:=n.rs) (by omega)
  rw [p.rs] at this
  cases this
 omega
theorem Nt.e_zero {t:Nt} (h:t.e=0):t.ns.length≤6∧t.ls.length≤20∧(∀ n∈t.ns,n.e=0)∧ApartN t.ns∧∀ l∈t.ls,ltE t.ns.length l=0:=by
 unfold Nt.e at h
 split at h
 ·cases h
 ·rename_i h0
  split at h
  ·rename_i h1
   unfold chkN at h1
   split at h1
   ·rename_i h2
    split at h1
    ·rename_i h3
     exact ⟨by omega,by omega,fstE_mem _ h2,(apN_iff _).1 h3,fstE_mem _ h⟩
    ·cases h1
   ·rename_i h2;exact absurd h1 h2
  ·rename_i h1;exact absurd h h1
def NetSays (w:World) (te:Int) (t:Nt) (e:Ending) (w':World):Prop:=
 Below w.heap.size w w'∧((te=0∧∃ a l c d m k nb L,e=.returned (.tuple #[.agg #[.slice a l c,.slice d m k],.int .i64 0])∧NtOwn w.heap.size w' t (.slice a l c) (.slice d m k) nb L)∨(te≠0∧e=.returned (.tuple #[.agg #[.slice none 0 0,.slice none 0 0],.int .i64 te])))
set_option maxHeartbeats 6400000 in
set_option maxRecDepth 100000 in
theorem netNew_any (ns:List Nd) (vn:Value) (w:World) (hV:Rv w.heap.size w) (h:NSl w vn ns) :
 Calls Tryz.prog 6 #[vn] w (NetSays w (Nt.mk ns []).e ⟨ns,[]⟩):=by
 have hnil:∀ W:World,Lt.Sl W (.slice none 0 0) []:=fun W=>Lt.own_names (Lt.own_nil W.heap.size W) (fun m hm=>by cases hm)
 have HCK:Hid (∀ W,Below w.heap.size w W→Calls Tryz.prog 11 #[.agg #[vn,.slice none 0 0]] W fun e w'=>e=.returned (.int .i64 (Nt.mk ns []).e)∧Below W.heap.size W w'):=fun W hW=>netCheck_any ⟨ns,[]⟩ vn _ W (hV.after hW) ⟨h.below hW,hnil W⟩ (fun _ l hl=>by cases hl)
 have HCP:Hid ((Nt.mk ns []).e=0→∀ W,Below w.heap.size w W→Calls Tryz.prog 18 #[.agg #[vn,.slice none 0 0]] W fun e w'=>∃ un a l c L,e=.returned (.agg #[un,.slice a l c])∧NtOwn W.heap.size w' ⟨ns,[]⟩ un (.slice a l c) (W.heap.size+2) L∧Below W.heap.size W w'):=fun he W hW=>by
  have hz:=Nt.e_zero he
  exact copied_any ⟨ns,[]⟩ vn _ W ⟨h.below hW,hnil W⟩ hz.1 hz.2.1 (fun n hn=>Nd.e_len (hz.2.2.1 n hn))
 obtain ⟨pn,cn,hvn,_⟩:=h
 subst hvn
 generalize hte:(Nt.mk ns []).e=te at *
 clear hte
 generalize ns.length=n at *
 clear hV hnil
 obtain ⟨W0,hW0⟩:∃ W0,W0=(w.alloc (.cells #[.slice none 0 0,.slice none 0 0] 25)).alloc (.cells #[.slice pn n cn,.slice none 0 0] 25):=⟨_,rfl⟩
 have hb0:Below w.heap.size w W0:=by rw [hW0];exact ((Below.refl _ _).alloc (Nat.le_refl _) _).alloc (by simp) _
 have k0:W0.heap[w.heap.size]?=some (.cells #[.slice none 0 0,.slice none 0 0] 25 (0,0)):=by
  rw [hW0];exact (Lib.alloc_old _ _ _ (by simp)).trans (heap_alloc_new w _)
 have k1:W0.heap[w.heap.size+1]?=some (.cells #[.slice pn n cn,.slice none 0 0] 25 (0,0)):=by
  rw [hW0]
  have:=heap_alloc_new (w.alloc (.cells #[.slice none 0 0,.slice none 0 0] 25)) (.cells #[.slice pn n cn,.slice none 0 0] 25)
  simpa using this
 have HS0:Hid (w.heap.size+2≤W0.heap.size):=by show _≤_;rw [hW0];simp
 have HB0:Hid (Below w.heap.size w W0):=hb0
 have HK:Hid (∀ W,Below W0.heap.size W0 W→W.heap[w.heap.size]?=some (.cells #[.slice none 0 0,.slice none 0 0] 25 (0,0))∧W.heap[w.heap.size+1]?=some (.cells #[.slice pn n cn,.slice none 0 0] 25 (0,0))):=fun W hW=>⟨(hW.block _ (by have:=HS0.out;omega)).trans k0,(hW.block _ (by have:=HS0.out;omega)).trans k1⟩
 have x0:W0.cell? ⟨w.heap.size+1,0,none⟩=some (.slice pn n cn):=cellsAt k1 0
 have x1:W0.cell? ⟨w.heap.size+1,1,none⟩=some (.slice none 0 0):=cellsAt k1 1
 clear hb0 k0 k1
 go_enter Tryz.func6,Tryz.ntmps6
 go_upto_region 2 with fail
 rw [← hW0]
 clear hW0
 go_wp2_with fail
 refine (HCK.out W0 HB0.out).mono ?_
 rintro e w1 ⟨rfl,hb1⟩
 have HB1:Hid (Below W0.heap.size W0 w1):=hb1
 have HBW1:Hid (Below w.heap.size w w1):=HB0.out.trans (hb1.mono HB0.out.size)
 clear hb1 x0 x1 HCK
 by_cases h0:te=0
 ·subst h0
  have hcp:=HCP.out rfl
  clear HCP
  have HCP:Hid _:=hcp
  clear hcp
  have x0:w1.cell? ⟨w.heap.size+1,0,none⟩=some (.slice pn n cn):=cellsAt (HK.out w1 HB1.out).2 0
  have x1:w1.cell? ⟨w.heap.size+1,1,none⟩=some (.slice none 0 0):=cellsAt (HK.out w1 HB1.out).2 1
  go_wp2_with fail
  refine Calls.mono (HCP.out w1 HBW1.out) ?_
  rintro e w2 ⟨un,a,l,c,L,rfl,hown,hb2⟩
  have hun:=hown.un
  subst hun
  have hk2:=(HK.out w2 (HB1.out.trans (hb2.mono HB1.out.size))).1
  obtain ⟨W3,hW3⟩:∃ W3,W3=setAll w.heap.size [.slice (some ⟨w1.heap.size+2,0,none⟩) ns.length ns.length,.slice a l c] 0 w2:=⟨_,rfl⟩
  have hk3:W3.heap[w.heap.size]?=some (.cells #[.slice (some ⟨w1.heap.size+2,0,none⟩) ns.length ns.length,.slice a l c] 25 (0,0)):=by rw [hW3];exact setAll_block [.slice (some ⟨w1.heap.size+2,0,none⟩) ns.length ns.length,.slice a l c] [] [.slice none 0 0,.slice none 0 0] hk2 rfl
  have hoth:∀ q,q≠w.heap.size→W3.heap[q]?=w2.heap[q]?:=fun q hq=>by rw [hW3];exact setAll_other hq _ _ _
  have hw1s:=HBW1.out.size
  have HRES:Hid (NetSays w 0 ⟨ns,[]⟩ (.returned (.tuple #[.agg #[.slice (some ⟨w1.heap.size+2,0,none⟩) ns.length ns.length,.slice a l c],.int .i64 0])) W3):=by
   refine ⟨by rw [hW3];exact setAll_below (Nat.le_refl _) _ _ (HBW1.out.trans (hb2.mono HBW1.out.size)),.inl ⟨rfl,_,_,_,_,_,_,w1.heap.size+2,L,rfl,⟨rfl,by omega,hown.ns,?_,?_,?_⟩⟩⟩
   ·exact (hoth _ (by omega)).trans hown.row
   ·exact fun x hx=>(hown.own x hx).keep (fun q hq _=>hoth q (by omega))
   ·exact row_keep (fun q hq _=>hoth q (by omega)) hown.ls
  have g0:w2.cell? ⟨w.heap.size,0,none⟩=some (.slice none 0 0):=cellsAt hk2 0
  have g1:w2.cell? ⟨w.heap.size,1,none⟩=some (.slice none 0 0):=cellsAt hk2 1
  have f0:w2.frozen? ⟨w.heap.size,0,none⟩=false:=by simp [World.frozen?,hk2]
  have f1:w2.frozen? ⟨w.heap.size,1,none⟩=false:=by simp [World.frozen?,hk2]
  have q0:W3.cell? ⟨w.heap.size,0,none⟩=some (.slice (some ⟨w1.heap.size+2,0,none⟩) ns.length ns.length):=cellsAt hk3 0
  have q1:W3.cell? ⟨w.heap.size,1,none⟩=some (.slice a l c):=cellsAt hk3 1
  clear hk2 hk3 hoth hw1s hown hb2 HK HB1 HBW1 HB0 HS0 x0 x1 HCP
  simp only at HRES hW3 q0 ⊢
  go_wp2_with fail
  simp only [setAll,Nat.zero_add] at hW3
  rw [← hW3]
  clear hW3 g0 g1 f0 f1
  exact bodyPost_ret (v:=.tuple #[.agg #[.slice (some ⟨w1.heap.size+2,0,none⟩) ns.length ns.length,.slice a l c],.int .i64 0]) (by simp [results,Tryz.results6,go_sem,q0,q1]) rfl HRES.out
 ·have he:(te != 0)=true:=by simpa using h0
  have hk1:=(HK.out w1 HB1.out).1
  obtain ⟨W3,hW3⟩:∃ W3,W3=setAll w.heap.size [.slice none 0 0,.slice none 0 0] 0 w1:=⟨_,rfl⟩
  have hk3:W3.heap[w.heap.size]?=some (.cells #[.slice none 0 0,.slice none 0 0] 25 (0,0)):=by rw [hW3];exact setAll_block [.slice none 0 0,.slice none 0 0] [] [.slice none 0 0,.slice none 0 0] hk1 rfl
  have HRES:Hid (NetSays w te ⟨ns,[]⟩ (.returned (.tuple #[.agg #[.slice none 0 0,.slice none 0 0],.int .i64 te])) W3):=⟨by rw [hW3];exact setAll_below (Nat.le_refl _) _ _ HBW1.out,.inr ⟨h0,rfl⟩⟩
  have g0:w1.cell? ⟨w.heap.size,0,none⟩=some (.slice none 0 0):=cellsAt hk1 0
  have g1:w1.cell? ⟨w.heap.size,1,none⟩=some (.slice none 0 0):=cellsAt hk1 1
  have f0:w1.frozen? ⟨w.heap.size,0,none⟩=false:=by simp [World.frozen?,hk1]
  have f1:w1.frozen? ⟨w.heap.size,1,none⟩=false:=by simp [World.frozen?,hk1]
  have q0:W3.cell? ⟨w.heap.size,0,none⟩=some (.slice none 0 0):=cellsAt hk3 0
  have q1:W3.cell? ⟨w.heap.size,1,none⟩=some (.slice none 0 0):=cellsAt hk3 1
  clear hk1 hk3 HK HB1 HBW1 HB0 HS0 HCP h0
  go_wp2_with fail
  simp only [setAll,Nat.zero_add] at hW3
  rw [← hW3]
  clear hW3 g0 g1 f0 f1
  exact bodyPost_ret (v:=.tuple #[.agg #[.slice none 0 0,.slice none 0 0],.int .i64 te]) (by simp [results,Tryz.results6,go_sem,q0,q1]) rfl HRES.out
set_option maxHeartbeats 6400000 in
set_option maxRecDepth 100000 in
theorem indexN_any (ns:List Nd) (v:Value) (nx:Nat) (p:Nat→Bool) (w:World) (hv:NSl w v ns) (hn:ns.length≤6)
 (hp:∀ j,j < ns.length→∀ W vm vr vs vg vw,Below w.heap.size w W→NdIs W (ns.getD j ndZ) vm vr vs vg vw→Calls Tryz.prog 24 #[.agg (ndA (ns.getD j ndZ) vm vr vs vg vw),.pointer (some ⟨nx,0,none⟩)] W fun e w'=>e=.returned (.bool (p j))∧Below W.heap.size W w') :
 Calls Tryz.prog 57 #[v,.func (.func 24) #[] #[.pointer (some ⟨nx,0,none⟩)]] w fun e w'=>∃ x:Int,e=.returned (.int .i64 x)∧(0≤x↔∃ j,j < ns.length∧p j=true)∧Below w.heap.size w w':=by
 have eg:∀ (args:Array Value) (W:World),(callFunc 24 args).run Tryz.prog W=.ok (.enter 24 args) W:=enters_of Tryz.func24 (by kernel_rfl) rfl
 obtain ⟨pa,ca,rfl,ha⟩:=hv
 have HA:Hid (ns=[]∨∃ b off,pa=some ⟨b,off,none⟩∧b < w.heap.size∧NRow w b off ns):=ha
 have HP:Hid _:=hp
 clear ha hp
 generalize hN:ns.length=n at *
 have HN:Hid (ns.length=n):=hN
 clear hN
 go_enter Tryz.func57,Tryz.ntmps57
 go_wp2_with fail
 go_loopw [8] (fun i wr=>∃ k:Nat,k≤n∧i=.int .i64 k∧Hid (∀ j,j < k→p j=false)∧Hid (Below w.heap.size w wr)) (fun i _=>n - (intOf i).toNat)
 case atStart=>exact ⟨0,Nat.zero_le _,rfl,fun j hj=>absurd hj (Nat.not_lt_zero _),Below.refl _ _⟩
 case round=>
  obtain ⟨k,hk,rfl,HZ,HB⟩:=hrel
  by_cases hlt:k < n
  ·obtain ⟨b,off,hpp,hl,hr⟩:∃ b off,pa=some ⟨b,off,none⟩∧b < w.heap.size∧NRow w b off ns:=by
    rcases HA.out with h | h
    ·have:=HN.out;rw [h] at this;simp at this;omega
    ·exact h
   subst hpp
   obtain ⟨vm,vr,vs,vg,vw,hnd,c0,c1,c2,c3,c4,c5,c6,c7,c8,c9,c10,c11⟩:=(hr.below HB.out hl).at (by rw [HN.out];exact hlt)
   have HC:=HP.out k hlt wr vm vr vs vg vw HB.out hnd
   have HYES:Hid (p k=true→∃ j,j < n∧p j=true):=fun h=>⟨k,hlt,h⟩
   have HNO:Hid (p k=false→∀ j,j < k+1→p j=false):=fun h j hj=>by
    by_cases e:j=k
    ·subst e;exact h
    ·exact HZ.out j (by omega)
   generalize (ns.getD k ndZ)=nk at *
   obtain ⟨⟨am,cm,hvm,_,_⟩,⟨ar,cr,hvr,_,_⟩,⟨ax,cx,hvs,_,_⟩,⟨ag,cg,hvg,_,_⟩,⟨aw,cw,hvw,_,_⟩,_,_⟩:=hnd
   subst hvm hvr hvs hvg hvw
   obtain ⟨nm,ct,ms,rs,sv,gw,⟨px,py,pz,ph,pq⟩,wh⟩:=nk
   simp only [ndA] at c0 c1 c2 c3 c4 c5 c6 c7 c8 c9 c10 c11 HC
   generalize ms.length=nms at *
   generalize rs.length=nrs at *
   generalize sv.length=nsv at *
   generalize gw.length=ngw at *
   generalize wh.length=nwh at *
   clear hr HZ
   have hkn:(k:Int) < n:=by omega
   generalize p k=pk at *
   go_wp2_with fail
   refine HC.mono ?_
   rintro e w1 ⟨rfl,hb1⟩
   have HB1:Hid (Below w.heap.size w w1):=HB.out.trans (hb1.mono HB.out.size)
   clear hb1 HC c0 c1 c2 c3 c4 c5 c6 c7 c8 c9 c10 c11
   rcases pk with _ | _
   ·have HZ2:=HNO.out rfl
    have HZ3:Hid (∀ j,j < k+1→p j=false):=HZ2
    clear HZ2 HNO HYES
    go_wp2_with fail
    go_roundw
    case rel=>exact ⟨k+1,by omega,by go_num,HZ3,HB1⟩
    case measure=>simp [intOf];omega
   ·have HY2:Hid (∃ j,j < n∧p j=true):=HYES.out rfl
    clear HNO HYES
    go_wp2_with fail
    go_ret
    exact ⟨_,rfl,⟨fun _=>HY2.out,fun _=>by omega⟩,HB1.out⟩
  ·have hkk:k=n:=by omega
   subst hkk
   go_wp2_with fail
   go_ret
   exact ⟨-1,rfl,⟨fun h=>absurd h (by omega),fun ⟨j,hj,h⟩=>by rw [HZ.out j hj] at h;cases h⟩,HB.out⟩
set_option maxHeartbeats 6400000 in
set_option maxRecDepth 100000 in
theorem containsN_any (ns:List Nd) (v:Value) (nx:Nat) (p:Nat→Bool) (r:Bool) (w:World) (hv:NSl w v ns) (hn:ns.length≤6) (hr:r=true↔∃ j,j < ns.length∧p j=true)
 (hp:∀ j,j < ns.length→∀ W vm vr vs vg vw,Below w.heap.size w W→NdIs W (ns.getD j ndZ) vm vr vs vg vw→Calls Tryz.prog 24 #[.agg (ndA (ns.getD j ndZ) vm vr vs vg vw),.pointer (some ⟨nx,0,none⟩)] W fun e w'=>e=.returned (.bool (p j))∧Below W.heap.size W w') :
 Calls Tryz.prog 26 #[v,.func (.func 24) #[] #[.pointer (some ⟨nx,0,none⟩)]] w fun e w'=>e=.returned (.bool r)∧Below w.heap.size w w':=by
 have HI:Hid _:=indexN_any ns v nx p w hv hn hp
 have HR:Hid (r=true↔∃ j,j < ns.length∧p j=true):=hr
 obtain ⟨pa,ca,rfl,_⟩:=hv
 clear hp hr
 generalize ns.length=n at *
 go_enter Tryz.func26,Tryz.ntmps26
 go_wp2_with fail
 refine Calls.mono HI.out ?_
 rintro e w1 ⟨x,rfl,hx,hb⟩
 have HB:Hid (Below w.heap.size w w1):=hb
 have hd:decide (x≥0)=r:=bool_is (p:=0≤x) (by simp) (HR.out.trans hx.symm)
 clear hx hb HI
 go_wp2_with fail
 go_ret
 exact ⟨by rw [← hd];rfl,HB.out⟩
def AgrSays (w:World) (te:Int) (r:Bool) (e:Ending) (w':World):Prop:=(te=0∧e=.returned (.tuple #[.bool (!r),.int .i64 0])∨te≠0∧e=.returned (.tuple #[.bool false,.int .i64 te]))∧Below w.heap.size w w'
set_option maxHeartbeats 6400000 in
set_option maxRecDepth 100000 in
theorem agree_any (t:Nt) (vn vl:Value) (r:Bool) (w:World) (hV:Rv w.heap.size w) (h:NtIs w t vn vl) (hs:t.Short) (hr:t.e=0→(r=true↔∃ j,j < t.ns.length∧¬ SameK (t.ns.getD j ndZ) (t.ns.getD 0 ndZ))) :
 Calls Tryz.prog 10 #[.agg #[vn,vl]] w (AgrSays w t.e r):=by
 have hmf:∀ (fn:Fn) (first cap:Array Value) (w:World),(Instr.makeFunc fn first cap).run Tryz.prog w=.ok (.func fn first cap) w:=fun _ _ _ _=>rfl
 have HCK:Hid (∀ W,Below w.heap.size w W→Calls Tryz.prog 11 #[.agg #[vn,vl]] W fun e w'=>e=.returned (.int .i64 t.e)∧Below W.heap.size W w'):=fun W hW=>netCheck_any t vn vl W (hV.after hW) (h.below hW) hs
 have HCF:Hid (t.e=0→∀ W nx,Below w.heap.size w W→W.cell? ⟨nx,0,none⟩=some vn→Calls Tryz.prog 26 #[vn,.func (.func 24) #[] #[.pointer (some ⟨nx,0,none⟩)]] W fun e w'=>e=.returned (.bool r)∧Below W.heap.size W w'):=fun he W nx hW hx=>by
  have hz:=Nt.e_zero he
  have hN:=h.ns.below hW
  have hgl:nx < W.heap.size:=World.block_lt_of_cell? W _ hx
  have hsz:∀ j,j < t.ns.length→(t.ns.getD j ndZ).ms.length≤1000∧(t.ns.getD j ndZ).sv.length≤1000∧(t.ns.getD j ndZ).gw.length≤1000:=fun j hj=>by
   obtain ⟨h1,h2,h3,h4,h5⟩:=Nd.e_len (hz.2.2.1 (t.ns.getD j ndZ) (by rw [List.getD,List.getElem?_eq_getElem hj];exact List.getElem_mem hj))
   exact ⟨h1,h3,h4⟩
  have hq:∀ j,∃ q:Bool,q=true↔SameK (t.ns.getD j ndZ) (t.ns.getD 0 ndZ):=fun j=>boolOf _
  have hq2:=Classical.axiomOfChoice hq
  obtain ⟨q,hq⟩:=hq2
  refine containsN_any t.ns vn nx (fun j => !q j) r W hN hz.1 ((hr he).trans ⟨fun ⟨j,hj,hh⟩=>⟨j,hj,by have:=hq j;cases e:q j<;>simp_all⟩,fun ⟨j,hj,hh⟩=>⟨j,hj,fun hs=>by have:=(hq j).2 hs;simp [this] at hh⟩⟩) (fun j hj W2 vm vr vs vg vw hW2 hI=>?_)
  obtain ⟨pa,ca,hvn,hrow⟩:=hN
  rcases hrow with hnil | ⟨b,off,hpa,hbl,hrow⟩
  ·rw [hnil] at hj;simp at hj
  subst hpa
  obtain ⟨um,ur,us,ug,uw,hI0,d0,d1,d2,d3,d4,d5,d6,d7,d8,d9,d10,d11⟩:=(hrow.below hW2 hbl).at (k:=0) (by omega)
  have hx2:W2.cell? ⟨nx,0,none⟩=some (.slice (some ⟨b,off,none⟩) t.ns.length ca):=(hW2.cell (p:=⟨nx,0,none⟩) hgl).trans (by rw [hx,hvn])
  have HK:∀ W3,Below W2.heap.size W2 W3→Calls Tryz.prog 25 #[.agg (ndA (t.ns.getD j ndZ) vm vr vs vg vw),.agg (ndA (t.ns.getD 0 ndZ) um ur us ug uw)] W3 fun e w'=>e=.returned (.bool (q j))∧Below W3.heap.size W3 w':=fun W3 hW3=>know_any _ _ _ _ _ _ _ _ _ _ _ _ (q j) W3 (hI.below hW3) (hI0.below hW3) (hsz j hj) (hq j)
  generalize q j=qj at *
  generalize t.ns.getD j ndZ=na at *
  generalize t.ns.getD 0 ndZ=n0 at *
  obtain ⟨⟨x2,c2,rfl,_,_⟩,⟨x3,c3,rfl,_,_⟩,⟨x4,c4,rfl,_,_⟩,⟨x5,c5,rfl,_,_⟩,⟨x6,c6,rfl,_,_⟩,_,_⟩:=hI
  obtain ⟨⟨y2,e2,rfl,_,_⟩,⟨y3,e3,rfl,_,_⟩,⟨y4,e4,rfl,_,_⟩,⟨y5,e5,rfl,_,_⟩,⟨y6,e6,rfl,_,_⟩,_,_⟩:=hI0
  simp only [Nat.zero_mul,Nat.add_zero] at d0 d1 d2 d3 d4 d5 d6 d7 d8 d9 d10 d11
  exact agree1_at b off t.ns.length ca nx _ _ _ _ _ _ _ _ _ _ _ _ _ _ _ _ _ _ _ _ _ _ _ _ _ _ _ _ _ _ _ _ _ _ _ _ _ _ _ _ _ _ _ _ qj W2 (by omega) hx2 d0 d1 d2 d3 d4 d5 d6 d7 d8 d9 d10 d11 HK
 obtain ⟨⟨pn,cn,hvn,_⟩,⟨pl,cl,hvl,_,_⟩⟩:=h
 subst hvn hvl
 generalize t.e=te at *
 generalize t.ns.length=n at *
 generalize t.ls.length=m at *
 clear hs hV hr
 obtain ⟨W0,hW0⟩:∃ W0,W0=w.alloc (.cells #[.slice pn n cn,.slice pl m cl] 25):=⟨_,rfl⟩
 have hb0:Below w.heap.size w W0:=by rw [hW0];exact (Below.refl _ _).alloc (Nat.le_refl _) _
 have k0:W0.heap[w.heap.size]?=some (.cells #[.slice pn n cn,.slice pl m cl] 25 (0,0)):=by rw [hW0];exact heap_alloc_new w _
 have HB0:Hid (Below w.heap.size w W0):=hb0
 have HK0:Hid (W0.heap[w.heap.size]?=some (.cells #[.slice pn n cn,.slice pl m cl] 25 (0,0))):=k0
 have x0:W0.cell? ⟨w.heap.size,0,none⟩=some (.slice pn n cn):=cellsAt k0 0
 have x1:W0.cell? ⟨w.heap.size,1,none⟩=some (.slice pl m cl):=cellsAt k0 1
 clear hb0 k0
 go_enter Tryz.func10,Tryz.ntmps10
 go_upto_region 1 with fail
 rw [← hW0]
 clear hW0
 go_wp2_with fail
 refine (HCK.out W0 HB0.out).mono ?_
 rintro e w1 ⟨rfl,hb1⟩
 have HB1:Hid (Below w.heap.size w w1):=HB0.out.trans (hb1.mono HB0.out.size)
 have y0:w1.cell? ⟨w.heap.size,0,none⟩=some (.slice pn n cn):=cellsAt ((hb1.block _ (Array.getElem?_eq_some_iff.1 HK0.out).1).trans HK0.out) 0
 clear hb1 x0 x1 HCK
 by_cases h0:te=0
 ·subst h0
  have HC:=HCF.out rfl w1 w.heap.size HB1.out y0
  clear HCF
  go_wp2_with fail
  refine HC.mono ?_
  rintro e w2 ⟨rfl,hb2⟩
  have HB2:Hid (Below w.heap.size w w2):=HB1.out.trans (hb2.mono HB1.out.size)
  clear hb2 HC
  go_wp2_with fail
  exact bodyPost_ret (v:=.tuple #[.bool (!r),.int .i64 0]) (by simp [results,Tryz.results10,go_sem]) rfl ⟨.inl ⟨rfl,rfl⟩,HB2.out⟩
 ·have he:(te != 0)=true:=by simpa using h0
  have H0:Hid (te≠0):=h0
  clear h0 HCF
  go_wp2_with fail
  exact bodyPost_ret (v:=.tuple #[.bool false,.int .i64 te]) (by simp [results,Tryz.results10,go_sem]) rfl ⟨.inr ⟨H0.out,rfl⟩,HB1.out⟩
end Go.Proofs.YtffdoiokmiklgaaGreatDoor
namespace Go.Proofs.YtffdoiokmiklgaaGreatDoor
open Go.ChangeShapes Go.WideShapes Go.ChangeAt Go.RowKit
section
variable {H:Type} {enc:TypeId × Value→H} {w:World} {base:Nat} {spare:Nat→Bool} {held:Bool}
theorem Tryz.kcLt:Tryz.prog.cellsOf 65=2:=by kernel_rfl
theorem Tryz.kcLs:Tryz.prog.cellsOf 23=1:=by kernel_rfl
theorem Tryz.kcNs:Tryz.prog.cellsOf 22=1:=by kernel_rfl
theorem Tryz.kcNt:Tryz.prog.cellsOf 25=2:=by kernel_rfl
theorem bulkAll_mem {d:DataW H}:∀ {l:List (DataW H)},d∈l→Rows.uptoBulk d≤Rows.uptoBulkAll l
 | e :: r,h=>by
   simp only [Rows.uptoBulkAll]
   rcases List.mem_cons.1 h with rfl | h
   ·omega
   ·have:=bulkAll_mem h;omega
set_option maxRecDepth 100000 in
theorem lt_of_trod {fuel:Nat} {cs:List Value} {x:DataW H × List MemPlace} (h:DataW.trod enc Tryz.prog w base spare held fuel 65 cs=some x) :
 ∃ l:Lt.Ltr,cs=l.cs∧l.ok∧l.text.size≤Rows.uptoBulk x.1:=by
 obtain ⟨xs,n,_,hx,hl,hlen,hf⟩:=DataW.trod_struct Tryz.underlying65 h
 rw [Tryz.kcLt] at hl
 match cs,hl with
 | [c0,c1],_=>
   match xs,hlen with
   | [y0,y1],_=>
     have h0:=hf 0 _ rfl
     have h1:=hf 1 _ rfl
     simp [Tryz.kc3] at h0
     simp [Tryz.kc9] at h1
     obtain ⟨t,e0,_,_⟩:=DataW.trod_int Tryz.underlying3 h0
     obtain ⟨s,e1,d1,w1⟩:=DataW.trod_string Tryz.underlying9 h1
     simp only [List.cons.injEq,and_true] at e0 e1
     subst e0 e1 d1 hx
     refine ⟨⟨t,s⟩,rfl,w1,?_⟩
     simp only [List.map,Rows.uptoBulk,Rows.uptoBulkAll]
     have:s.data.toList.length=s.size:=by rw [Array.length_toList];rfl
     omega
set_option maxRecDepth 100000 in
theorem lts_of_trod {fuel:Nat} {cs:List Value} {x:DataW H × List MemPlace} (h:DataW.trod enc Tryz.prog w base spare held fuel 23 cs=some x) :
 ∃ (p:Option Addr) (n c:Nat) (ls:List Lt.Ltr),cs=[.slice p n c]∧Lt.Sl w (.slice p n c) ls∧∀ l∈ls,l.text.size≤Rows.uptoBulk x.1:=by
 rcases Go.Deep.open_slice Tryz.underlying23 h with ⟨hcs,_⟩ | ⟨a,len,cap,m,n,D,Pl,hcs,hb,hl,hm,hmm,hxe,hx⟩
 ·exact ⟨none,0,0,[],hcs,Lt.own_names (Lt.own_nil w.heap.size w) (fun m hm=>by cases hm),fun l hl=>by cases hl⟩
 ·have hlm:len≤m:=by rw [hmm];split<;>omega
  have hall:∀ i,i < len→∃ q:Lt.Ltr,(∀ t,t < 2→w.cell? (a.add (i * 2+t))=q.cs[t]?)∧q.ok∧q.text.size≤Rows.uptoBulk x.1:=fun i hi=>by
   obtain ⟨cs',h1,h2⟩:=hx i (by omega)
   obtain ⟨q,hq,hs,hbk⟩:=lt_of_trod h2
   rw [Tryz.kcLt] at h1
   obtain ⟨_,_,h3⟩:=World.cells?_some h1
   refine ⟨q,fun t ht=>?_,hs,?_⟩
   ·rw [← Go.Deep.add_add,h3 t ht,hq]
   ·refine Nat.le_trans hbk ?_
    have hmem:D i∈(List.range len).map D:=List.mem_map.2 ⟨i,List.mem_range.2 hi,rfl⟩
    have:=bulkAll_mem hmem
    rw [hxe]
    simp only [Rows.uptoBulk]
    omega
  have hinh:Inhabited Lt.Ltr:=⟨Lt.dm⟩
  obtain ⟨F,hF⟩:=Go.Deep.choose_lt (α:=Lt.Ltr) (p:=fun i q=>(∀ t,t < 2→w.cell? (a.add (i * 2+t))=q.cs[t]?)∧q.ok∧q.text.size≤Rows.uptoBulk x.1) hall
  have hget:∀ j,j < len→((List.range len).map F).getD j Lt.dm=F j:=fun j hj=>by simp [List.getD,hj]
  refine ⟨some a,len,cap,(List.range len).map F,hcs,⟨some a,cap,by simp,Lt.ns_get (fun q hq=>?_),?_⟩,fun l hl=>?_⟩
  ·obtain ⟨j,hj,rfl⟩:=List.mem_map.1 hq
   exact (hF j (List.mem_range.1 hj)).2.1
  ·by_cases h0:len=0
   ·left;simp [h0]
   ·right
    obtain ⟨b,off,spot⟩:=a
    have hc0:=(hF 0 (by omega)).1 0 (by omega)
    have hspot:spot=none:=by simpa [Addr.add] using World.cell?_spot hc0
    subst hspot
    have hcell:∀ j,j < len→∀ t,t < 2→w.cell? ⟨b,off+j * 2+t,none⟩=(F j).cs[t]?:=fun j hj t ht=>by
     have:=(hF j hj).1 t ht
     rwa [Go.WideShapes.add_plain,← Nat.add_assoc] at this
    refine ⟨b,off,rfl,World.block_lt_of_cell? w ⟨b,off+0 * 2+0,none⟩ (hcell 0 (by omega) 0 (by omega)),fun j hj=>?_⟩
    have hj':j < len:=by simpa using hj
    rw [hget j hj']
    exact ⟨hcell j hj' 0 (by omega),hcell j hj' 1 (by omega)⟩
  ·obtain ⟨j,hj,rfl⟩:=List.mem_map.1 hl
   exact (hF j (List.mem_range.1 hj)).2.2
set_option maxRecDepth 100000 in
theorem open_net {r:Reach} {b0:Nat} {v:Value} {d:DataW H} {p:List MemPlace} (hv:Value.okWide Tryz.prog w r b0 25 v) (h:DataW.Trod enc Tryz.prog w base spare held 25 v d p) :
 ∃ (t:Nt) (vn vl:Value),v=.agg #[vn,vl]∧NtIs w t vn vl∧∀ l∈t.ls,l.text.size≤Rows.uptoBulk d:=by
 obtain ⟨cs,rfl,hsz⟩:=okWide_struct Tryz.underlying25 hv
 obtain ⟨fuel,hf⟩:=h
 obtain ⟨xs,n,_,hx,hl,hlen,hff⟩:=DataW.trod_struct Tryz.underlying25 hf
 rw [Tryz.kcNt] at hl
 obtain ⟨cs⟩:=cs
 simp only [Value.cells] at hl hff
 match cs,hl with
 | [c0,c1],_=>
   match xs,hlen with
   | [y0,y1],_=>
     have h0:=hff 0 _ rfl
     have h1:=hff 1 _ rfl
     simp [Tryz.kcNs] at h0
     simp [Tryz.kcLs] at h1
     obtain ⟨pn,nn,cn,ns,e0,k0⟩:=nds_of_trod h0
     obtain ⟨pl,nl,cl,ls,e1,k1,b1⟩:=lts_of_trod h1
     simp only [List.cons.injEq,and_true] at e0 e1
     subst e0 e1
     refine ⟨⟨ns,ls⟩,_,_,rfl,⟨k0,k1⟩,fun l hl=>Nat.le_trans (b1 l hl) ?_⟩
     have hd:d=.agg [y0.1,y1.1]:=(Prod.mk.inj hx).1
     rw [hd]
     simp only [Rows.uptoBulk,Rows.uptoBulkAll]
     omega
end
end Go.Proofs.YtffdoiokmiklgaaGreatDoor
