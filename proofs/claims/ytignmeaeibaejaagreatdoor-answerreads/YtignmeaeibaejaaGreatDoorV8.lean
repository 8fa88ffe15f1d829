import Derived.Test.YtignmeaeibaejaaGreatDoorV1
import Derived.OwnWalk
import Derived.Shelf.Strings.Builder1
import Derived.Shelf.Strings.Builder2
import Derived.Shelf.Strings.OnBuilder
import Derived.Shelf.Small.Bits
import Derived.Shelf.Small.Strs
import Derived.Shelf.Small.Wraps
import Derived.Shelf.Utf8.RuneCount
import Derived.Shelf.Strconv.Itoa0
import Derived.Shelf.LaysM
import Derived.Shelf.Strconv.Clone
import Derived.Shelf.Strings.Search1
import Derived.Shelf.Strings.Search2
import Derived.Shelf.Strings.Search3
import Derived.Shelf.Strings.Cut
import Derived.Shelf.Strings.Count
import Derived.Shelf.Strings.Shaped
import Derived.Shelf.Strings.Split
import Derived.Shelf.Strings.SplitShaped
import Derived.Shelf.Unicode.Decode
import Derived.Shelf.Strings.RuneCount
import Derived.Shelf.Strings.Explode
import Derived.Shelf.Unicode.DecodeSlow
import Derived.Shelf.Unicode.DecodeAny
import Derived.Shelf.Slices.Turned
import Derived.Ground.Names2Prog
import Derived.Shelf.Slices.Clone
import Derived.Shelf.Slices.SearchI
import Derived.Ground.SlgnProg
import Derived.Shelf.SlicesE.Clone
import Derived.Ground.SlgfProg
import Derived.Shelf.SlicesE.IndexFunc
import Derived.Shelf.SlicesE.DeleteFunc
import Derived.Ground.SlsfProg
import Derived.Shelf.SlSortCmp.Insertion
import Derived.Shelf.SlSortCmp.SiftDown1
import Derived.Shelf.SlSortCmp.HeapSort1
import Derived.Shelf.SlSortCmp.Insertion1
import Derived.Shelf.SlSortCmp.Median1
import Derived.Shelf.SlSortCmp.Pivot1
import Derived.Shelf.SlSortCmp.ReverseRange1
import Derived.Shelf.SlSortCmp.PartialInsertion1
import Derived.Shelf.SlSortCmp.PartitionEqual1
import Derived.Shelf.SlSortCmp.Partition1
import Derived.Shelf.SlSortCmp.Pdq1
import Derived.Shelf.SlSortCmp.Whole1
import Derived.Shelf.SlSortCmp.NoneTotal
import Derived.Test.YtignmeaeibaejaaGreatDoorProg
import Derived.Test.YtignmeaeibaejaaGreatDoorV6
import Derived.Test.YtignmeaeibaejaaGreatDoorV7
import Derived.Lib.SplitLaws
import Derived.Lib.IndexBytes
import Derived.Below
import Derived.Shelf.RegionOpen
import Derived.Lib.ConvBytes
import Derived.Laws.IdiomStrings
import Derived.Deep.Slices
import Derived.Lib.SmallJoins
import Derived.ProofKit
import Derived.OpenShut
import Derived.Handed
namespace Go.Proofs.YtignmeaeibaejaaGreatDoor
open Go.RowKit
theorem Tryz.info9:(Tryz.prog.info? 9).map (fun i=>(i.zero,i.size,i.bytes))=some (some (.string ⟨#[]⟩),1,16):=by kernel_rfl
abbrev OwnS (base:Nat) (w:World) (v:Value) (l:List ByteArray):Prop:=w.ownsRow base 9 1 v l.length (l.map Value.string)
theorem ownS_nil (base:Nat) (w:World):OwnS base w (.slice none 0 0) []:=World.ownsRow_nil w base 9 1
theorem OwnS.below {base:Nat} {w w':World} {v:Value} {l:List ByteArray} (h:OwnS base w v l) (hb:Below w.heap.size w w'):OwnS base w' v l:=by
 rcases h.2 with ⟨rfl,h0⟩ | ⟨g,c,cur,rfl,hbg,hg,hnc,hcm,hcs,htake⟩
 ·exact ⟨h.1,.inl ⟨rfl,h0⟩⟩
 ·have hlt:g < w.heap.size:=(Array.getElem?_eq_some_iff.1 hg).1
  exact ⟨h.1,.inr ⟨g,c,cur,rfl,hbg,(hb.block g hlt).trans hg,hnc,hcm,hcs,htake⟩⟩
theorem OwnS.lt {base:Nat} {w:World} {v:Value} {l:List ByteArray} (h:OwnS base w v l) (k:Nat) (hk:v.ownBlock=some k):base≤k∧k < w.heap.size:=World.ownsRow.lt h k hk
theorem ownS_snoc {base:Nat} {w:World} {v:Value} {l:List ByteArray} {s:ByteArray} (h:w.ownsRow base 9 1 v (l.length+1) (l.map Value.string++[.string s])):OwnS base w v (l++[s]):=by
 show w.ownsRow base 9 1 v (l++[s]).length ((l++[s]).map Value.string)
 rw [List.length_append,List.map_append]
 exact h
theorem strs_one (ss:List ByteArray):∀ v∈ss.map Value.string,v.oneCell'=true:=by
 intro v hv
 obtain ⟨s,_,rfl⟩:=List.mem_map.1 hv
 rfl
theorem OwnS.form {base:Nat} {w:World} {v:Value} {l:List ByteArray} (h:OwnS base w v l):(v=.slice none 0 0∧l=[])∨∃ g c,v=.slice (some ⟨g,0,none⟩) l.length c∧l.length≤c∧base≤g∧g < w.heap.size∧∀ j,j < l.length→w.cell? ⟨g,j,none⟩=some (.string (l.getD j ByteArray.empty)):=by
 rcases h.2 with ⟨hv,h0⟩ | ⟨g,c,cur,hv,hbg,hg,hnc,_⟩
 ·exact .inl ⟨hv,List.length_eq_zero_iff.1 h0⟩
 ·refine .inr ⟨g,c,hv,hnc,hbg,(Array.getElem?_eq_some_iff.1 hg).1,fun j hj=>?_⟩
  subst hv
  rw [World.ownsRow.cellAt h j (by omega)]
  simp [List.getD,List.getElem?_eq_getElem hj]
end Go.Proofs.YtignmeaeibaejaaGreatDoor
namespace Go.Proofs
open Go.Shelf
def Tryz.lays156_ren:Go.Shelf.Ren:=⟨fun | 156=>94 | 165=>121 | 166=>120 | 169=>58 | 240=>139 | 241=>141 | 276=>158 | 277=>160 | n=>n,fun | 31=>81 | 9=>9 | 3=>3 | 4=>4 | 0=>0 | 20=>20 | 72=>104 | 76=>155 | 70=>101 | 37=>102 | 75=>151 | 127=>130 | 164=>185 | 5=>5 | 80=>78 | n=>n,fun | n=>n⟩
theorem Tryz.lays156:Go.Proofs.Lays.n156 Tryz.prog Tryz.lays156_ren:={
 mixed:=by kernel_rfl
 f156:=Tryz.func94.trans (congrArg some (by kernel_rfl))
 f165:=Tryz.func121.trans (congrArg some (by kernel_rfl))
 f166:=Tryz.func120.trans (congrArg some (by kernel_rfl))
 f169:=Tryz.func58.trans (congrArg some (by kernel_rfl))
 f240:=Tryz.func139.trans (congrArg some (by kernel_rfl))
 f241:=Tryz.func141.trans (congrArg some (by kernel_rfl))
 f276:=Tryz.func158.trans (congrArg some (by kernel_rfl))
 f277:=Tryz.func160.trans (congrArg some (by kernel_rfl))
 t0:=Tryz.underlying0
 a0:=Tryz.isAgg0
 z0:=Tryz.sizeOf0
 v0:=Tryz.zeroValue0
 t3:=Tryz.underlying3
 a3:=Tryz.isAgg3
 z3:=Tryz.sizeOf3
 v3:=Tryz.zeroValue3
 t4:=Tryz.underlying4
 a4:=Tryz.isAgg4
 z4:=Tryz.sizeOf4
 v4:=Tryz.zeroValue4
 t9:=Tryz.underlying9
 a9:=Tryz.isAgg9
 z9:=Tryz.sizeOf9
 v9:=Tryz.zeroValue9
 t20:=Tryz.underlying20
 a20:=Tryz.isAgg20
 z20:=Tryz.sizeOf20
 v20:=Tryz.zeroValue20
 t31:=Tryz.underlying81
 a31:=Tryz.isAgg81
 z31:=Tryz.sizeOf81
 v31:=Tryz.zeroValue81
 t37:=Tryz.underlying102
 a37:=Tryz.isAgg102
 z37:=Tryz.sizeOf102
 v37:=Tryz.zeroValue102
 t70:=Tryz.underlying101
 a70:=Tryz.isAgg101
 z70:=Tryz.sizeOf101
 v70:=Tryz.zeroValue101
 t72:=Tryz.underlying104
 a72:=Tryz.isAgg104
 z72:=Tryz.sizeOf104
 v72:=Tryz.zeroValue104
 t75:=Tryz.underlying151
 a75:=Tryz.isAgg151
 z75:=Tryz.sizeOf151
 v75:=Tryz.zeroValue151
 t76:=Tryz.underlying155
 a76:=Tryz.isAgg155
 z76:=Tryz.sizeOf155
 v76:=Tryz.zeroValue155
 t127:=Tryz.underlying130
 a127:=Tryz.isAgg130
 z127:=Tryz.sizeOf130
 v127:=Tryz.zeroValue130
 t164:=Tryz.underlying185
 a164:=Tryz.isAgg185
 z164:=Tryz.sizeOf185
 v164:=Tryz.zeroValue185 }
theorem Tryz.Builder_Extra_156:Builder.Extra Tryz.prog Tryz.lays156_ren:={
 sizeBuilder:=by kernel_rfl
 liesBuilder:=by kernel_rfl
 t5:=Tryz.underlying5
 a5:=Tryz.isAgg5
 z5:=Tryz.sizeOf5
 v5:=Tryz.zeroValue5
 infoByte:=by kernel_rfl
 cellsByte:=by kernel_rfl
 sizeByte:=by kernel_rfl
 neB5:=by decide }
open Go.RowKit in
theorem Tryz.strings_Join (bk o c:Nat) (xs:List ByteArray) (sep:ByteArray) (w:World) (hcells:∀ (j:Nat) x,xs[j]?=some x→w.cell? ⟨bk,o+j,none⟩=some (.string x)) (hbk:bk < w.heap.size) (hN:xs.length≤140737488355328) (hcap:xs.length≤c) (hlen:(Lib.join (xs.map (·.data.toList)) sep.data.toList).length≤140737488355328) :
 Calls Tryz.prog 94 #[.slice (some ⟨bk,o,none⟩) xs.length c,.string sep] w fun e w'=>e=.returned (.string ⟨(Lib.join (xs.map (·.data.toList)) sep.data.toList).toArray⟩)∧Below w.heap.size w w':=Any.strings_Join Tryz.lays156 Tryz.Builder_Extra_156 bk o c xs sep w hcells hbk hN hcap hlen
def Tryz.lays146_ren:Go.Shelf.Ren:=⟨fun | 146=>116 | 221=>140 | 268=>159 | 138=>114 | 143=>138 | 195=>136 | 197=>169 | 218=>137 | 219=>157 | 260=>183 | 217=>165 | 225=>166 | 224=>167 | 267=>168 | 266=>181 | 314=>182 | n=>n,fun | 9=>9 | 31=>81 | 3=>3 | 4=>4 | 0=>0 | 105=>191 | 21=>21 | 5=>5 | 46=>70 | 119=>212 | 139=>215 | 138=>214 | 146=>204 | 51=>201 | n=>n,fun | 1=>0 | 3=>1 | 4=>2 | n=>n⟩
theorem Tryz.lays146:Go.Proofs.Lays.n146 Tryz.prog Tryz.lays146_ren:={
 mixed:=by kernel_rfl
 f138:=Tryz.func114.trans (congrArg some (by kernel_rfl))
 f143:=Tryz.func138.trans (congrArg some (by kernel_rfl))
 f146:=Tryz.func116.trans (congrArg some (by kernel_rfl))
 f195:=Tryz.func136.trans (congrArg some (by kernel_rfl))
 f197:=Tryz.func169.trans (congrArg some (by kernel_rfl))
 f217:=Tryz.func165.trans (congrArg some (by kernel_rfl))
 f218:=Tryz.func137.trans (congrArg some (by kernel_rfl))
 f219:=Tryz.func157.trans (congrArg some (by kernel_rfl))
 f221:=Tryz.func140.trans (congrArg some (by kernel_rfl))
 f224:=Tryz.func167.trans (congrArg some (by kernel_rfl))
 f225:=Tryz.func166.trans (congrArg some (by kernel_rfl))
 f260:=Tryz.func183.trans (congrArg some (by kernel_rfl))
 f266:=Tryz.func181.trans (congrArg some (by kernel_rfl))
 f267:=Tryz.func168.trans (congrArg some (by kernel_rfl))
 f268:=Tryz.func159.trans (congrArg some (by kernel_rfl))
 f314:=Tryz.func182.trans (congrArg some (by kernel_rfl))
 t0:=Tryz.underlying0
 a0:=Tryz.isAgg0
 z0:=Tryz.sizeOf0
 v0:=Tryz.zeroValue0
 t3:=Tryz.underlying3
 a3:=Tryz.isAgg3
 z3:=Tryz.sizeOf3
 v3:=Tryz.zeroValue3
 t4:=Tryz.underlying4
 a4:=Tryz.isAgg4
 z4:=Tryz.sizeOf4
 v4:=Tryz.zeroValue4
 t5:=Tryz.underlying5
 a5:=Tryz.isAgg5
 z5:=Tryz.sizeOf5
 v5:=Tryz.zeroValue5
 t9:=Tryz.underlying9
 a9:=Tryz.isAgg9
 z9:=Tryz.sizeOf9
 v9:=Tryz.zeroValue9
 t21:=Tryz.underlying21
 a21:=Tryz.isAgg21
 z21:=Tryz.sizeOf21
 v21:=Tryz.zeroValue21
 t31:=Tryz.underlying81
 a31:=Tryz.isAgg81
 z31:=Tryz.sizeOf81
 v31:=Tryz.zeroValue81
 t46:=Tryz.underlying70
 a46:=Tryz.isAgg70
 z46:=Tryz.sizeOf70
 v46:=Tryz.zeroValue70
 t51:=Tryz.underlying201
 a51:=Tryz.isAgg201
 z51:=Tryz.sizeOf201
 v51:=Tryz.zeroValue201
 t105:=Tryz.underlying191
 a105:=Tryz.isAgg191
 z105:=Tryz.sizeOf191
 v105:=Tryz.zeroValue191
 t119:=Tryz.underlying212
 a119:=Tryz.isAgg212
 z119:=Tryz.sizeOf212
 t138:=Tryz.underlying214
 a138:=Tryz.isAgg214
 z138:=Tryz.sizeOf214
 v138:=Tryz.zeroValue214
 t139:=Tryz.underlying215
 a139:=Tryz.isAgg215
 z139:=Tryz.sizeOf215
 v139:=Tryz.zeroValue215
 t146:=Tryz.underlying204
 a146:=Tryz.isAgg204
 z146:=Tryz.sizeOf204
 v146:=Tryz.zeroValue204
 g1:=by kernel_rfl
 g3:=by kernel_rfl
 g4:=by kernel_rfl }
open Go.RowKit Go.Lib in
theorem Tryz.strings_Split (s sep:ByteArray) (m:Int) (w:World) (hs:s.size < 4294967281) (hm:w.cell? ⟨0,0,none⟩=some (.int .i64 m)) (h1:1≤sep.size) :
 Calls Tryz.prog 116 #[.string s,.string sep] w fun e w'=>
  e=.returned (.slice (some ⟨w.heap.size,0,none⟩) (Lib.countB s sep+1) (Lib.countB s sep+1))∧w'=w.alloc (.cells ((Lib.splitB sep 0 (Lib.countB s sep) s).map Value.string).toArray 9):=Any.strings_Split Tryz.lays146 (by kernel_rfl) s sep m w hs hm h1
def Tryz.lays110_ren:Go.Shelf.Ren:=⟨fun | 110=>128 | 109=>147 | n=>n,fun | 31=>81 | 9=>9 | 4=>4 | 3=>3 | 0=>0 | n=>n,fun | n=>n⟩
theorem Tryz.lays110:Go.Proofs.Lays.n110 Tryz.prog Tryz.lays110_ren:={
 mixed:=by kernel_rfl
 f109:=Tryz.func147.trans (congrArg some (by kernel_rfl))
 f110:=Tryz.func128.trans (congrArg some (by kernel_rfl))
 t0:=Tryz.underlying0
 a0:=Tryz.isAgg0
 z0:=Tryz.sizeOf0
 v0:=Tryz.zeroValue0
 t3:=Tryz.underlying3
 a3:=Tryz.isAgg3
 z3:=Tryz.sizeOf3
 v3:=Tryz.zeroValue3
 t4:=Tryz.underlying4
 a4:=Tryz.isAgg4
 z4:=Tryz.sizeOf4
 v4:=Tryz.zeroValue4
 t9:=Tryz.underlying9
 a9:=Tryz.isAgg9
 z9:=Tryz.sizeOf9
 v9:=Tryz.zeroValue9
 t31:=Tryz.underlying81
 a31:=Tryz.isAgg81
 z31:=Tryz.sizeOf81
 v31:=Tryz.zeroValue81 }
open Go.Lib in
theorem Tryz.slices_Contains_string (b off n c:Nat) (zs:List ByteArray) (x:ByteArray) (w:World) (hz:n≤zs.length) (hbig:n≤9223372036854775807) (hc:∀ j,j < zs.length→w.cell? ⟨b,off+j,none⟩=some (.string (zs.getD j ByteArray.empty))) :
 Calls Tryz.prog 128 #[.slice (some ⟨b,off,none⟩) n c,.string x] w fun e w'=>e=.returned (.bool (Lib.containsS (zs.take n) x))∧w'=w:=Any.slices_Contains_string Tryz.lays110 b off n c zs x w hz hbig hc
end Go.Proofs
namespace Go.Proofs.YtignmeaeibaejaaGreatDoor
open Go.RowKit
def labs (s:ByteArray):List ByteArray:=if s.size=0 then [] else (spl s.data.toList).map mk
theorem chkN_labs (s:ByteArray):chkN s=if (labs s).all labB=false then 1 else if 8 < (labs s).length∨120 < s.size then 2 else 0:=by
 unfold chkN labs
 by_cases h0:s.size=0
 ·rw [if_pos h0,if_pos h0];simp [h0]
 ·rw [if_neg h0,if_neg h0]
  have e:((spl s.data.toList).map mk).all labB=(spl s.data.toList).all labL:=by rw [List.all_map];rfl
  rw [e,List.length_map]
structure Rd (g:Nat) (w w':World):Prop where
 os:w'.os=w.os
 tape:w'.tape=w.tape
 output:w'.output=w.output
 size:w.heap.size≤w'.heap.size
 block:∀ k:Nat,k < w.heap.size→k≠g→w'.heap[k]?=w.heap[k]?
theorem Rd.refl (g:Nat) (w:World):Rd g w w:=⟨rfl,rfl,rfl,Nat.le_refl _,fun _ _ _=>rfl⟩
theorem Rd.trans {g:Nat} {w w1 w2:World} (h:Rd g w w1) (h2:Rd g w1 w2):Rd g w w2:=
 ⟨h2.os.trans h.os,h2.tape.trans h.tape,h2.output.trans h.output,Nat.le_trans h.size h2.size,fun k hk hg=>(h2.block k (Nat.lt_of_lt_of_le hk h.size) hg).trans (h.block k hk hg)⟩
theorem Rd.ext {g:Nat} {w w':World} (h:w.Extends w'):Rd g w w':=⟨h.os,h.tape,h.output,h.size,fun k hk _=>h.block k hk⟩
theorem Rd.moved {g:Nat} {v:Value} {w w':World} (h:(w.setCell ⟨g,1,none⟩ v).Extends w'):Rd g w w':=
 ⟨h.os,h.tape,h.output,by have:=h.size;simpa using this,fun k hk hg=>(h.block k (by simpa using hk)).trans (Below.heap_setCell w _ _ k hg)⟩
theorem Rd.below {g B:Nat} {w w':World} (h:Rd g w w') (hb:B≤g) (hB:B≤w.heap.size):Below B w w':=
 ⟨h.os,h.tape,h.output,h.size,fun k hk=>h.block k (by omega) (by omega)⟩
theorem Rd.of_below {g B:Nat} {w w':World} (h:Below B w w') (hb:w.heap.size≤B):Rd g w w':=
 ⟨h.os,h.tape,h.output,h.size,fun k hk _=>h.block k (by omega)⟩
theorem Rd.own {g base:Nat} {w w':World} {v:Value} {l:List ByteArray} (h:Rd g w w') (ho:OwnS base w v l) (hg:g < base):OwnS base w' v l:=by
 rcases ho.2 with ⟨rfl,h0⟩ | ⟨k,c,cur,rfl,hbg,hk,hnc,hcm,hcs,htake⟩
 ·exact ⟨ho.1,.inl ⟨rfl,h0⟩⟩
 ·have hlt:k < w.heap.size:=(Array.getElem?_eq_some_iff.1 hk).1
  exact ⟨ho.1,.inr ⟨k,c,cur,rfl,hbg,(h.block k hlt (by omega)).trans hk,hnc,hcm,hcs,htake⟩⟩
theorem IsR.ext {g a:Nat} {t:ByteArray} {w w':World} (h:IsR g t a w) (hx:w.Extends w'):IsR g t a w' where
 c0:=hx.cell_of h.c0
 c1:=hx.cell_of h.c1
 hz:=by rw [hx.frozen _ h.hg];exact h.hz
 hg:=Nat.lt_of_lt_of_le h.hg hx.size
theorem IsR.below {g a B:Nat} {t:ByteArray} {w w':World} (h:IsR g t a w) (hx:Below B w w') (hB:g < B):IsR g t a w' where
 c0:=by have:=h.c0;simp only [World.cell?,hx.block g hB] at this ⊢;exact this
 c1:=by have:=h.c1;simp only [World.cell?,hx.block g hB] at this ⊢;exact this
 hz:=by have:=h.hz;simp only [World.frozen?,hx.block g hB] at this ⊢;exact this
 hg:=Nat.lt_of_lt_of_le h.hg hx.size
theorem rnum1 {t:ByteArray} {a:Nat} (h:a < t.size):rnum t a 1=t[a].toNat:=by
 have h2:t.data[a]?=some t[a]:=by
  have:a < t.data.size:=h
  rw [Array.getElem?_eq_getElem this];rfl
 simp [rnum,h2]
theorem number_r (g a n:Nat) (t:ByteArray) (w:World) (h:IsR g t a w) (hs:t.size≤1000) (han:a+n≤t.size) (hn:n≤4) :
 Calls Tryz.prog 59 #[.pointer (some ⟨g,0,none⟩),.int .i64 n] w fun e w'=>e=.returned (.int .i64 (rnum t a n))∧Hid (IsR g t (a+n) w')∧Hid (Rd g w w'):=by
 refine (rnumber_ok g a n t w h.c0 h.c1 h.hz hs han hn).mono ?_
 rintro e w' ⟨rfl,hx⟩
 rw [← Int.natCast_add] at hx
 exact ⟨rfl,h.move hx,Rd.moved hx⟩
theorem expect_r (g a n x:Nat) (t:ByteArray) (w:World) (h:IsR g t a w) (hs:t.size≤1000) (han:a+n≤t.size) (hn:n≤4) (hx:rnum t a n=x) :
 Calls Tryz.prog 61 #[.pointer (some ⟨g,0,none⟩),.int .i64 n,.int .i64 x] w fun e w'=>e=.returned (.tuple #[])∧Hid (IsR g t (a+n) w')∧Hid (Rd g w w'):=by
 subst hx
 refine (expect_ok g a n t w h hs han hn).mono ?_
 rintro e w' ⟨rfl,hx⟩
 exact ⟨rfl,h.move hx,Rd.moved hx⟩
theorem counted_r (g a k:Nat) (t l:ByteArray) (w:World) (h:IsR g t a w) (hs:t.size≤1000) (hk:rnum t a 1=k) (han:a+1+k≤t.size) (hl:t.extract (a+1) (a+1+k)=l) :
 Calls Tryz.prog 96 #[.pointer (some ⟨g,0,none⟩)] w fun e w'=>e=.returned (.string l)∧Hid (IsR g t (a+1+k) w')∧Hid (Rd g w w'):=by
 subst hk
 subst hl
 refine (counted_ok g a t w h hs han).mono ?_
 rintro e w' ⟨rfl,w1,hx,hy⟩
 exact ⟨rfl,(h.move hx).move hy,(Rd.moved hx).trans (Rd.moved hy)⟩
theorem peek_r (g a:Nat) (t:ByteArray) (w:World) (h:IsR g t a w) (ha:a < t.size) :
 Calls Tryz.prog 93 #[.pointer (some ⟨g,0,none⟩)] w fun e w'=>e=.returned (.int .u8 (rnum t a 1:Nat))∧Hid (IsR g t a w')∧Hid (Rd g w w'):=by
 refine (peek_ok g a t w h.c0 h.c1 ha).mono ?_
 rintro e w' ⟨rfl,m,rfl⟩
 rw [rnum1 ha]
 have hx:w.Extends (w.drew.drewN m):=⟨rfl,rfl,rfl,Nat.le_refl _,fun _ _=>rfl,fun _ _=>rfl,fun _ _=>rfl⟩
 exact ⟨rfl,h.ext hx,Rd.ext hx⟩
end Go.Proofs.YtignmeaeibaejaaGreatDoor
namespace Go.Proofs.YtignmeaeibaejaaGreatDoor
open Go.RowKit Go.Shelf Go.Lib
theorem splitK_spl:∀ (k:Nat) (l:List UInt8),l.count 46≤k→Lib.splitK [46] 0 k l=spl l
 | 0,l,h=>by
   have:46 ∉ l:=fun hm=>by have:=List.count_pos_iff.2 hm;omega
   rw [spl_none l this];rfl
 | k+1,l,h=>by
   have hge:=Lib.indexByte_ge l 46
   unfold Lib.splitK
   rw [Lib.index_one]
   by_cases hi:Lib.indexByte l 46 = -1
   ·rw [if_pos (by rw [hi];rfl),spl_none l (ix_none hi)]
   ·obtain ⟨i,hi2⟩:∃ i:Nat,Lib.indexByte l 46=(i:Int):=⟨(Lib.indexByte l 46).toNat,by omega⟩
    obtain ⟨h1,h2,h3⟩:=ix_some hi2
    rw [if_neg (by rw [hi2];simp),hi2]
    have e:((i:Int)).toNat=i:=by omega
    rw [e]
    have hc:(l.drop (i+1)).count 46≤k:=by
     have h4:=congrArg (List.count 46) h2
     rw [List.count_append,List.count_cons_self] at h4
     omega
    show l.take (i+0) :: Lib.splitK [46] 0 k (l.drop (i+1))=spl l
    rw [splitK_spl k _ hc,Nat.add_zero]
    conv=>rhs;rw [h2]
    rw [spl_app _ _ h3]
theorem splitB_spl (s:ByteArray):Lib.splitB ⟨#[46]⟩ 0 (Lib.countB s ⟨#[46]⟩) s=(spl s.data.toList).map mk:=by
 have h:=Lib.splitB_data ⟨#[46]⟩ 0 (Lib.countB s ⟨#[46]⟩) s
 have hc:Lib.countB s ⟨#[46]⟩=s.data.toList.count 46:=Lib.count_one 46 s.data.toList
 rw [show (ByteArray.mk #[46]).data.toList=[46] from rfl,splitK_spl _ _ (by rw [hc];exact Nat.le_refl _)] at h
 rw [← h,List.map_map]
 have e:(mk∘fun x:ByteArray=>x.data.toList)=id:=by funext x;exact mk_data x
 rw [e,List.map_id]
def ML (w:World):Prop:=0 < w.heap.size∧∃ m,w.cell? ⟨0,0,none⟩=some (.int .i64 m)
theorem ML.below {w w':World} (h:ML w) (hb:RowKit.Below w.heap.size w w'):ML w':=by
 obtain ⟨h1,m,h2⟩:=h
 exact ⟨Nat.lt_of_lt_of_le h1 hb.size,m,(hb.cell (p:=⟨0,0,none⟩) h1).trans h2⟩
theorem split_any (s:ByteArray) (w:World) (hm:ML w) (hs:s.size≤1000) :
 Calls Tryz.prog 116 #[.string s,.string ⟨#[46]⟩] w fun e w'=>e=.returned (.slice (some ⟨w.heap.size,0,none⟩) (spl s.data.toList).length (spl s.data.toList).length)∧w'=w.alloc (.cells (((spl s.data.toList).map mk).map Value.string).toArray 9):=by
 obtain ⟨_,m,h2⟩:=hm
 have h:=Tryz.strings_Split s ⟨#[46]⟩ m w (by omega) h2 (by decide)
 rw [splitB_spl] at h
 have hc:Lib.countB s ⟨#[46]⟩+1=(spl s.data.toList).length:=by
  rw [spl_len]
  show Lib.count s.data.toList [46]+1=_
  rw [Lib.count_one]
 rw [hc] at h
 exact h
end Go.Proofs.YtignmeaeibaejaaGreatDoor
namespace Go.Proofs.YtignmeaeibaejaaGreatDoor
open Go.RowKit Go.Lib
def Stand (t:ByteArray):Nat→List ByteArray→Prop
 | a,[]=>a+1≤t.size∧rnum t a 1=0
 | a,l :: r=>rnum t a 1=l.size∧a+1+l.size≤t.size∧t.extract (a+1) (a+1+l.size)=l∧Stand t (a+1+l.size) r
def behind:Nat→List ByteArray→Nat
 | a,[]=>a
 | a,l :: r=>behind (a+1+l.size) r
abbrev bts (x:ByteArray):List UInt8:=x.data.toList
def lenOf:Value→Nat
 | .slice _ n _=>n
 | _=>0
theorem lab_low {l:ByteArray} (h:labB l=true):∀ j,j < l.size→90 < (l.data.toList.getD j 0).toNat∨(l.data.toList.getD j 0).toNat < 65:=by
 intro j hj
 unfold labB at h
 simp only [Bool.and_eq_true,List.all_eq_true] at h
 have hj2:j < l.data.toList.length:=by simpa using hj
 have h2:=h.2 (l.data.toList[j]) (List.getElem_mem hj2)
 rw [List.getD_eq_getElem?_getD,List.getElem?_eq_getElem hj2]
 revert h2
 generalize l.data.toList[j]=c
 intro h2
 simp [lbB] at h2
 simp
 omega
theorem lab_size {l:ByteArray} (h:labB l=true):1≤l.size∧l.size≤30:=by
 unfold labB at h
 simp only [Bool.and_eq_true,decide_eq_true_eq] at h
 exact h.1
theorem join_jn2:∀ (xs:List (List UInt8)),Lib.join xs [46]=jn xs
 | []=>rfl
 | [x]=>by simp [Lib.join,jn]
 | x :: y :: r=>by
   have ih:=join_jn2 (y :: r)
   simp [Lib.join,jn] at ih ⊢
   first | exact ih | simp [ih]
theorem own_len {base:Nat} {w:World} {v:Value} {l:List ByteArray} (h:OwnS base w v l):lenOf v=l.length:=by
 rcases h.form with ⟨rfl,rfl⟩ | ⟨g,c,rfl,_⟩
 ·rfl
 ·rfl
theorem own_shape {base:Nat} {w:World} {v:Value} {l:List ByteArray} (h:OwnS base w v l):∃ p c,v=.slice p l.length c:=by
 rcases h.form with ⟨rfl,rfl⟩ | ⟨g,c,rfl,_⟩
 ·exact ⟨none,0,rfl⟩
 ·exact ⟨_,c,rfl⟩
theorem Rd.belowed {g:Nat} {w w1 w2:World} (h:Rd g w w1) (hb:Below w.heap.size w1 w2):Rd g w w2:=
 ⟨hb.os.trans h.os,hb.tape.trans h.tape,hb.output.trans h.output,Nat.le_trans h.size hb.size,fun k hk hg=>(hb.block k hk).trans (h.block k hk hg)⟩
set_option maxHeartbeats 400000 in
theorem join_nil (W:World):Calls Tryz.prog 94 #[.slice none 0 0,.string ⟨#[46]⟩] W fun e w'=>e=.returned (.string ⟨#[]⟩)∧Below W.heap.size W w':=by
 go_enter Tryz.func94,Tryz.ntmps94
 go_wp2_with fail
 go_ret
 exact ⟨rfl,Below.refl _ _⟩
theorem join_own (base:Nat) (ls:List ByteArray) (W:World) (v:Value) (ho:OwnS base W v ls) (hn:ls.length≤1000) (hz:(jn (ls.map bts)).length≤100000) :
 Calls Tryz.prog 94 #[v,.string ⟨#[46]⟩] W fun e w'=>e=.returned (.string (mk (jn (ls.map bts))))∧Below W.heap.size W w':=by
 rcases ho.form with ⟨rfl,rfl⟩ | ⟨g,c,rfl,hc,_,hg,hcell⟩
 ·exact join_nil W
 ·have h3:=Tryz.strings_Join g 0 c ls ⟨#[46]⟩ W (fun j x hj=>by
   obtain ⟨hj1,hj2⟩:=List.getElem?_eq_some_iff.1 hj
   rw [Nat.zero_add,hcell j hj1]
   simp [List.getD,hj1,hj2]) hg (by omega) hc (by
   rw [show (ByteArray.mk #[46]).data.toList=[46] from rfl,join_jn2]
   exact Nat.le_trans hz (by omega))
  rw [show (ByteArray.mk #[46]).data.toList=[46] from rfl,join_jn2] at h3
  exact h3
theorem ext_drewN (w:World) (m:Nat):w.Extends (w.drewN m):=⟨rfl,rfl,rfl,Nat.le_refl _,fun _ _=>rfl,fun _ _=>rfl,fun _ _=>rfl⟩
theorem own_fin {g base:Nat} {wr w2:World} {lv:Value} {D ls:List ByteArray} (h:Hid (Rd g wr w2)) (ho:Hid (OwnS base wr lv D)) (he:Hid (ls=D++[])) (hg:g < base):Hid (OwnS base w2 lv ls):=(show OwnS base w2 lv ls by
 have h:=h.out.own ho.out hg
 rw [he.out,List.append_nil]
 exact h)
theorem own_step {g base:Nat} {wr w2:World} {lv:Value} {D:List ByteArray} (h:Hid (Rd g wr w2)) (ho:Hid (OwnS base wr lv D)) (hg:g < base):Hid (OwnS base w2 lv D):=h.out.own ho.out hg
set_option maxHeartbeats 1600000 in
set_option maxRecDepth 100000 in
theorem name_ok (g a:Nat) (ls:List ByteArray) (t:ByteArray) (w:World) (h:IsR g t a w) (hs:t.size≤1000) (hst:Stand t a ls) (hlab:∀ l∈ls,labB l=true) (hn:ls.length≤8) (hz:(jn (ls.map bts)).length≤100000) :
 Calls Tryz.prog 62 #[.pointer (some ⟨g,0,none⟩)] w fun e w'=>e=.returned (.string (mk (jn (ls.map bts))))∧Hid (IsR g t (behind a ls+1) w')∧Hid (Rd g w w'):=by
 obtain ⟨i0,hi0,hz0,hzs,hzb⟩:=info_parts Tryz.info9
 have c1:=h.c1
 have hgw:=h.hg
 have HI:Hid (IsR g t a w):=h
 have HST:Hid (Stand t a ls):=hst
 have HLB:Hid (∀ l∈ls,labB l=true):=hlab
 have HJ:Hid (∀ W v,OwnS w.heap.size W v ls→Calls Tryz.prog 94 #[v,.string ⟨#[46]⟩] W fun e w'=>e=.returned (.string (mk (jn (ls.map bts))))∧Below W.heap.size W w'):=fun W v ho=>join_own _ ls W v ho (by omega) hz
 have HN:Hid (ls.length≤8):=hn
 clear h hst hlab hz hn
 generalize mk (jn (ls.map bts))=R at *
 go_enter Tryz.func62,Tryz.ntmps62
 go_wp2_with fail
 go_quiet (fail)
 go_wp2_with fail
 go_loopw [3,4,5] (fun lv pv bv wr=>pv=.pointer (some ⟨g,0,none⟩)∧bv=.int .i64 a∧∃ (D r:List ByteArray) (b:Nat),Hid (ls=D++r)∧Hid (Stand t b r)∧Hid (behind b r=behind a ls)∧Hid (IsR g t b wr)∧Hid (Rd g w wr)∧Hid (OwnS w.heap.size wr lv D)) (fun lv _ _ _=>ls.length - lenOf lv)
 case atStart=>exact ⟨rfl,rfl,[],ls,a,rfl,HST,rfl,HI.out.ext (ext_drewN _ _),(Rd.ext (ext_drewN _ _):Rd g w _),ownS_nil _ _⟩
 case round=>
  obtain ⟨rfl,rfl,D,r,b,HE,HS,HH,HR,HD,HO⟩:=hrel
  have hsz:=HD.out.size
  rcases r with _ | ⟨l,r⟩
  ·have HP:Hid (Calls Tryz.prog 93 #[.pointer (some ⟨g,0,none⟩)] wr fun e w'=>e=.returned (.int .u8 0)∧Hid (IsR g t b w')∧Hid (Rd g wr w')):=(show Calls _ _ _ _ _ by
    have h:=peek_r g b t wr HR.out HS.out.1
    rw [HS.out.2] at h
    exact h)
   go_wp2_with fail
   refine HP.out.mono ?_
   rintro e w1 ⟨rfl,HR1,HD1⟩
   go_wp2_with fail
   refine (expect_r g b 1 0 t w1 HR1.out hs HS.out.1 (by omega) HS.out.2).mono ?_
   rintro e w2 ⟨rfl,HR2,HD2⟩
   have HX:Hid (Rd g wr w2):=HD1.out.trans HD2.out
   have HO2:=own_fin HX HO HE hgw
   go_wp2_with fail
   refine (HJ.out _ _ HO2.out).mono ?_
   rintro e w3 ⟨rfl,hb3⟩
   have HB3:Hid (Below w2.heap.size w2 w3):=hb3
   clear hb3
   go_wp2_with fail
   go_ret
   refine ⟨rfl,?_,?_⟩
   ·rw [← HH.out]
    exact HR2.out.below HB3.out HR2.out.hg
   ·exact (HD.out.trans HX.out).trans (Rd.of_below HB3.out (Nat.le_refl _))
  ·have hl:labB l=true:=HLB.out l (by rw [HE.out];simp)
   have hl30:=lab_size hl
   have HS1:Hid (rnum t b 1=l.size):=HS.out.1
   have HS2:Hid (b+1+l.size≤t.size):=HS.out.2.1
   have HS3:Hid (t.extract (b+1) (b+1+l.size)=l):=HS.out.2.2.1
   have HS4:Hid (Stand t (b+1+l.size) r):=HS.out.2.2.2
   have hDn:D.length+1≤ls.length:=by rw [HE.out];simp
   have hD8:D.length < 8:=by have:=HN.out;omega
   have HP:Hid (Calls Tryz.prog 93 #[.pointer (some ⟨g,0,none⟩)] wr fun e w'=>e=.returned (.int .u8 (l.size:Nat))∧Hid (IsR g t b w')∧Hid (Rd g wr w')):=(show Calls _ _ _ _ _ by
    have h:=peek_r g b t wr HR.out (by have:=HS2.out;omega)
    rw [HS1.out] at h
    exact h)
   have hm0:((l.size:Int) == 0)=false:=beq_eq_false_iff_ne.2 (by omega)
   have hm1:¬ (l.size:Int)=0:=by omega
   have hm2:decide ((192:Int)≤(l.size:Int))=false:=by simp;omega
   have HLL:Hid (labB l=true):=hl
   have hls:l.size≤maxLen:=by unfold maxLen;omega
   clear HS hl
   go_wp2_with fail
   refine HP.out.mono ?_
   rintro e w1 ⟨rfl,HR1,HD1⟩
   go_wp2_with fail
   refine (counted_r g b l.size t l w1 HR1.out hs HS1.out HS2.out HS3.out).mono ?_
   rintro e w2 ⟨rfl,HR2,HD2⟩
   go_wp2_with fail
   refine (small_same l w2 (by omega) (lab_low HLL.out)).mono ?_
   rintro e w3 ⟨rfl,hx3⟩
   have HR3:Hid (IsR g t (b+1+l.size) w3):=HR2.out.ext hx3
   have HD3:Hid (Rd g wr w3):=(HD1.out.trans HD2.out).trans (Rd.ext hx3)
   have HO3:=own_step HD3 HO hgw
   have HD4:Hid (Rd g w w3):=HD.out.trans HD3.out
   have hsz3:=HD4.out.size
   clear hx3 HD3 HD1 HD2 HR1 HR2 HO HD HR HP
   obtain ⟨p,c,hv⟩:=own_shape HO3.out
   subst hv
   have hd8:decide ((D.length:Int) < 8)=true:=by simp;omega
   go_wp2_with fail
   refine (label_any l w3 hls).mono ?_
   rintro e w4 ⟨rfl,hw4⟩
   subst hw4
   rw [HLL.out]
   go_wp2_with fail
   refine (need_ok _ _).mono ?_
   rintro e w5 ⟨rfl,hw5⟩
   subst hw5
   go_wp2_with (at_builtin;refine wpList_append_own _ rfl _ _ 81 rfl w.heap.size 9 i0 _ 1 16 Tryz.underlying81 hi0 hz0 hzs hzb rfl (by omega) _ D.length (D.map Value.string) rfl ?hown ⟨w5.heap.size,0,none⟩ 1 1 [.string l] rfl rfl ?hnews (strs_one [_]) ?h63 ?hbytes ?hbase ?_)
   case hown=>exact HO3.out.below ((Below.refl _ _).alloc (Nat.le_refl _) _)
   case hnews=>(intro j u hj;rw [Addr.add_lit];exact (cell_topL (by simp)).trans (by simpa using hj))
   case h63=>(unfold maxLen;omega)
   case hbytes=>omega
   case hbase=>(simp;omega)
   intro v' w6 r1 r2 r3
   have hB6:Below w.heap.size w5 w6:=((Below.refl _ _).alloc hsz3 _).grown r2 (by simp;omega) (fun j hj=>(HO3.out.lt j hj).1)
   have HDX:Hid (Rd g w w6):=HD4.out.belowed hB6
   have HRX:Hid (IsR g t (b+1+l.size) w6):=HR3.out.below hB6 hgw
   have HOX:Hid (OwnS w.heap.size w6 v' (D++[l])):=ownS_snoc (l:=D) r1
   have HEX:Hid (ls=(D++[l])++r):=(show ls=_ by rw [HE.out];simp)
   have HHX:Hid (behind (b+1+l.size) r=behind a ls):=HH
   clear r1 r2 r3 hB6 HO3 HD4 HR3 HE HH
   go_wp2_with fail
   refine ⟨⟨rfl,rfl,D++[l],r,b+1+l.size,HEX,HS4,HHX,HRX,HDX,HOX⟩,?_⟩
   rw [own_len HOX.out,show lenOf (Value.slice p D.length c)=D.length from rfl,List.length_append,List.length_singleton]
   omega
end Go.Proofs.YtignmeaeibaejaaGreatDoor
namespace Go.Proofs.YtignmeaeibaejaaGreatDoor
open Go.RowKit
def wlab (l:ByteArray):List Value:=nbs l.size 1++Lib.strCells l
def wname (s:ByteArray):List Value:=(labs s).flatMap wlab++nbs 0 1
theorem IsW.alloc {B b:Nat} {bs:List Value} {w:World} (h:IsW B b bs w) (o:Obj):IsW B b bs (w.alloc o):=by
 have go:∀ p,WAt B b p bs w→WAt B b p bs (w.alloc o):=fun p ⟨hB,v,hb,ho,hne⟩=>
  ⟨hB,v,(Lib.alloc_old w o b (Array.getElem?_eq_some_iff.1 hb).1).trans hb,ho.alloc o,hne⟩
 rcases h with h | h
 ·exact .inl (go _ h)
 ·exact .inr (go _ h)
theorem IsW.lt {B b:Nat} {bs:List Value} {w:World} (h:IsW B b bs w):b < w.heap.size:=by
 rcases h with h | h
 ·exact h.lt
 ·exact h.lt
theorem wlab_len (l:ByteArray):(wlab l).length=1+l.size:=by
 unfold wlab
 rw [List.length_append,nbs_len,Lib.strCells_length]
theorem flat_len:∀ (L:List ByteArray),(∀ x∈L,x.size≤30)→(L.flatMap wlab).length≤31 * L.length
 | [],_=>by simp
 | x :: r,h=>by
   have h1:=h x List.mem_cons_self
   have h2:=flat_len r (fun y hy=>h y (List.mem_cons_of_mem _ hy))
   rw [List.flatMap_cons,List.length_append,wlab_len,List.length_cons]
   omega
theorem chk_facts {s:ByteArray} (h:chkN s=0):(labs s).length≤8∧∀ x∈labs s,x.size≤30:=by
 rw [chkN_labs] at h
 split at h
 ·omega
 ·rename_i h1
  split at h
  ·omega
  ·rename_i h2
   refine ⟨by omega,fun x hx=>?_⟩
   have h3:(labs s).all labB=true:=by simpa using h1
   have h4:=List.all_eq_true.1 h3 x hx
   unfold labB at h4
   simp only [Bool.and_eq_true,decide_eq_true_eq] at h4
   exact h4.1.2
theorem Kp.alloc {B b:Nat} {w:World} (o:Obj) (hB:B≤w.heap.size):Kp B b w (w.alloc o):=⟨(Below.refl _ _).alloc hB _,(Lib.OthersKept.refl _ _ _).alloc _,fun hb=>⟨fun k hk _ _=>Lib.alloc_old w o k hk,.inl (by unfold bufOf;rw [World.cell?_of_block (w:=w) (Lib.alloc_old w o b hb)])⟩⟩
set_option maxHeartbeats 1600000 in
set_option maxRecDepth 100000 in
theorem wname_any (B b:Nat) (bs:List Value) (s:ByteArray) (w:World) (hm:ML w) (h:IsW B b bs w) (hlen:bs.length≤50000) (hn:chkN s=0) (hBw:B≤w.heap.size) :
 Calls Tryz.prog 90 #[.pointer (some ⟨b,0,none⟩),.string s] w fun e w'=>e=.returned (.tuple #[])∧IsW B b (bs++wname s) w'∧Kp B b w w':=by
 have HI:Hid (IsW B b bs w):=h
 clear h
 by_cases h0:s.size=0
 ·have HE:Hid (wname s=nbs 0 1):=(show wname s=nbs 0 1 by unfold wname labs;rw [if_pos h0];rfl)
  rw [HE.out]
  have:=isempty h0
  subst this
  clear HE h0 hn
  go_enter Tryz.func90,Tryz.ntmps90
  go_wp2_with fail
  refine (wnumber_any B b 1 0 bs w HI.out (by omega) (by omega) hBw).mono ?_
  rintro e w1 ⟨rfl,h1,hb1⟩
  have HW1:Hid (IsW B b (bs++nbs 0 1) w1):=h1
  have HB1:Hid (Kp B b w w1):=hb1
  clear h1 hb1
  go_wp2_with fail
  simp [bodyPost,results,Tryz.results90]
  exact ⟨HW1.out,HB1.out⟩
 ·obtain ⟨n1,n2⟩:=nempty h0
  have hsz:s.size≤1000:=by
   unfold chkN at hn
   rw [if_neg h0] at hn
   split at hn
   ·omega
   ·split at hn<;>omega
  have hl:labs s=(spl s.data.toList).map mk:=if_neg h0
  have hll:(labs s).length=(spl s.data.toList).length:=by rw [hl,List.length_map]
  have HSP:Hid (Calls Tryz.prog 116 #[.string s,.string ⟨#[46]⟩] w fun e w'=>e=.returned (.slice (some ⟨w.heap.size,0,none⟩) (labs s).length (labs s).length)∧w'=w.alloc (.cells ((labs s).map Value.string).toArray 9)):=(show Calls _ _ _ _ _ by
   have h:=split_any s w hm hsz
   rw [← hl,← hll] at h
   exact h)
  obtain ⟨hL8,hL30⟩:=chk_facts hn
  have HE:Hid (bs++wname s=(bs++(labs s).flatMap wlab)++nbs 0 1):=(show _=_ by unfold wname;rw [List.append_assoc])
  rw [HE.out]
  clear HE hl hll hm hn h0
  generalize labs s=L at *
  have hbl:=HI.out.lt
  go_enter Tryz.func90,Tryz.ntmps90
  go_wp2_with fail
  refine HSP.out.mono ?_
  rintro e w1 ⟨rfl,hw1⟩
  have hgl:w1.heap[w.heap.size]?=some (.cells (L.map Value.string).toArray 9 (0,0)):=by rw [hw1];exact heap_alloc_new w _
  have HK1:Hid (Kp B b w w1):=(show Kp B b w w1 by rw [hw1];exact Kp.alloc _ hBw)
  have HI1:Hid (IsW B b bs w1):=(show IsW B b bs w1 by rw [hw1];exact HI.out.alloc _)
  have hB1:B≤w1.heap.size:=Nat.le_trans hBw HK1.out.size
  have HC:Hid (∀ W,Kp B b w1 W→∀ j,j < L.length→W.cell? ⟨w.heap.size,j,none⟩=some (.string (L.getD j ByteArray.empty))):=fun W hW j hj=>by
   have hg2:W.heap[w.heap.size]?=some (.cells (L.map Value.string).toArray 9 (0,0)):=hW.oth _ _ hgl (by simp;omega) (by simp)
   rw [cellsAt hg2]
   simp [List.getD,hj]
  have HL30:Hid (∀ j,(L.getD j ByteArray.empty).size≤30):=fun j=>by
   by_cases hj:j < L.length
   ·rw [show L.getD j ByteArray.empty=L[j] by simp [List.getD,List.getElem?_eq_getElem hj]]
    exact hL30 _ (List.getElem_mem hj)
   ·rw [show L.getD j ByteArray.empty=ByteArray.empty by simp [List.getD,List.getElem?_eq_none (by omega:L.length≤j)]];decide
  have HFL:Hid (∀ k,((L.take k).flatMap wlab).length≤248):=fun k=>by
   refine Nat.le_trans (flat_len (L.take k) fun x hx=>hL30 x (List.mem_of_mem_take hx)) ?_
   rw [List.length_take];omega
  have HST:Hid (∀ k,k < L.length→(bs++(L.take k).flatMap wlab)++(nbs (L.getD k ByteArray.empty).size 1++Lib.strCells (L.getD k ByteArray.empty))=bs++(L.take (k+1)).flatMap wlab):=fun k hk=>by
   rw [List.take_succ_eq_append_getElem hk,List.flatMap_append,List.append_assoc]
   simp [wlab,List.getD,hk]
  clear hgl hw1 HSP hL30
  generalize hnn:L.length=n at *
  have HNN:Hid (L.length=n):=hnn
  clear hnn
  go_wp2_with fail
  go_loopw [11] (fun i wr=>∃ k:Nat,k≤n∧i=.int .i64 k∧Hid (IsW B b (bs++(L.take k).flatMap wlab) wr)∧Hid (Kp B b w1 wr)) (fun i _=>n - (intOf i).toNat)
  case atStart=>exact ⟨0,Nat.zero_le _,rfl,by simpa using HI1,Kp.refl _ _ _⟩
  case round=>
   obtain ⟨k,hk,rfl,HW,HKR⟩:=hrel
   have hBr:B≤wr.heap.size:=Nat.le_trans hB1 HKR.out.size
   by_cases hlt:k < n
   ·have hc:=HC.out wr HKR.out k hlt
    have hx30:=HL30.out k
    have hfl:=HFL.out k
    have HS2:=HST.out k hlt
    have HS3:Hid ((bs++(L.take k).flatMap wlab)++(nbs (L.getD k ByteArray.empty).size 1++Lib.strCells (L.getD k ByteArray.empty))=bs++(L.take (k+1)).flatMap wlab):=HS2
    clear HS2
    generalize L.getD k ByteArray.empty=x at *
    go_wp2_with fail
    refine (counted_any B b _ x wr HW.out (by rw [List.length_append];omega) (by omega) hBr).mono ?_
    rintro e w2 ⟨rfl,h2,hb2⟩
    have HW2:Hid (IsW B b (bs++(L.take (k+1)).flatMap wlab) w2):=(show IsW _ _ _ _ by rw [← HS3.out];exact h2)
    have HK2:Hid (Kp B b w1 w2):=HKR.out.trans hb2
    clear h2 hb2
    go_wp2_with fail
    exact ⟨⟨k+1,by omega,by go_num,HW2,HK2⟩,by simp [intOf];omega⟩
   ·have hkn:k=n:=by omega
    have HWF:Hid (IsW B b (bs++L.flatMap wlab) wr):=(show IsW _ _ _ _ by
     have h:=HW.out
     rwa [List.take_of_length_le (by rw [HNN.out];omega)] at h)
    have hfl:=HFL.out n
    rw [List.take_of_length_le (by rw [HNN.out];exact Nat.le_refl _)] at hfl
    go_wp2_with fail
    refine (wnumber_any B b 1 0 _ wr HWF.out (by omega) (by rw [List.length_append];omega) hBr).mono ?_
    rintro e w2 ⟨rfl,h2,hb2⟩
    have HW2:Hid (IsW B b ((bs++L.flatMap wlab)++nbs 0 1) w2):=h2
    have HK2:Hid (Kp B b w w2):=(HK1.out.trans HKR.out).trans hb2
    clear h2 hb2
    go_wp2_with fail
    simp [bodyPost,results,Tryz.results90]
    exact ⟨by simpa using HW2.out,HK2.out⟩
def flg (ans cut:Bool):Int:=(if ans then 128 else 0)+(if cut then 2 else 0)
abbrev msgV (id code typ:Int) (ans cut:Bool) (name:ByteArray):Value:=.agg #[.int .i64 id,.bool ans,.bool cut,.int .i64 code,.string name,.int .i64 typ,.slice none 0 0]
set_option maxHeartbeats 800000 in
set_option maxRecDepth 100000 in
theorem flags_any (id code typ:Int) (ans cut:Bool) (name:ByteArray) (w:World) :
 Calls Tryz.prog 60 #[msgV id code typ ans cut name] w fun e w'=>e=.returned (.int .i64 (flg ans cut))∧∃ o,w'=w.alloc o:=by
 cases ans<;>cases cut
 all_goals
  go_enter Tryz.func60,Tryz.ntmps60
  go_wp2_with fail
  go_ret
  exact ⟨rfl,_,rfl⟩
def wmsg (id code typ:Int) (ans cut:Bool) (name:ByteArray):List Value:=
 nbs id 2++(nbs (flg ans cut) 1++(nbs code 1++(nbs 1 2++(nbs 0 2++(nbs 0 2++(nbs 0 2++(wname name++(nbs typ 2++nbs 1 2))))))))
theorem ML.kp {B b:Nat} {w w':World} (h:ML w) (hk:Kp B b w w') (hB:0 < B):ML w':=by
 obtain ⟨h1,m,h2⟩:=h
 exact ⟨Nat.lt_of_lt_of_le h1 hk.size,m,(hk.bel.cell (p:=⟨0,0,none⟩) hB).trans h2⟩
set_option maxHeartbeats 1600000 in
set_option maxRecDepth 100000 in
theorem message_none (B b:Nat) (bs:List Value) (id code typ:Int) (ans cut:Bool) (name:ByteArray) (w:World) (hm:ML w) (h:IsW B b bs w) (hlen:bs.length≤1000) (hn:chkN name=0) (hBw:B≤w.heap.size) (hB0:0 < B) :
 Calls Tryz.prog 57 #[.pointer (some ⟨b,0,none⟩),msgV id code typ ans cut name] w fun e w'=>e=.returned (.tuple #[])∧IsW B b (bs++wmsg id code typ ans cut name) w'∧Kp B b w w':=by
 have HI:Hid (IsW B b bs w):=h
 clear h
 have hbl:=HI.out.lt
 obtain ⟨hL8,hL30⟩:=chk_facts hn
 have hwn:(wname name).length≤249:=by
  unfold wname
  rw [List.length_append,nbs_len]
  have:=flat_len (labs name) hL30
  omega
 clear hL8 hL30
 go_enter Tryz.func57,Tryz.ntmps57
 go_wp2_with fail
 obtain ⟨w0,hw0⟩:∃ w0,w0=w.alloc (.cells #[.int .i64 id,.bool ans,.bool cut,.int .i64 code,.string name,.int .i64 typ,.slice none 0 0] 38):=⟨_,rfl⟩
 rw [← hw0]
 have hg0:w0.heap[w.heap.size]?=some (.cells #[.int .i64 id,.bool ans,.bool cut,.int .i64 code,.string name,.int .i64 typ,.slice none 0 0] 38 (0,0)):=by rw [hw0];exact heap_alloc_new w _
 have HK0:Hid (Kp B b w w0):=(show Kp B b w w0 by rw [hw0];exact Kp.alloc _ hBw)
 have HI0:Hid (IsW B b bs w0):=(show IsW B b bs w0 by rw [hw0];exact HI.out.alloc _)
 have HM0:Hid (ML w0):=(show ML w0 from hm.kp HK0.out hB0)
 have HG:Hid (∀ W,Kp B b w0 W→W.cell? ⟨w.heap.size,0,none⟩=some (.int .i64 id)∧W.cell? ⟨w.heap.size,1,none⟩=some (.bool ans)∧W.cell? ⟨w.heap.size,2,none⟩=some (.bool cut)∧W.cell? ⟨w.heap.size,3,none⟩=some (.int .i64 code)∧W.cell? ⟨w.heap.size,4,none⟩=some (.string name)∧W.cell? ⟨w.heap.size,5,none⟩=some (.int .i64 typ)∧W.cell? ⟨w.heap.size,6,none⟩=some (.slice none 0 0)):=fun W hW=>by
  have hg:W.heap[w.heap.size]?=some (.cells #[.int .i64 id,.bool ans,.bool cut,.int .i64 code,.string name,.int .i64 typ,.slice none 0 0] 38 (0,0)):=hW.oth _ _ hg0 (by simp;omega) (by simp)
  exact ⟨cellsAt hg 0,cellsAt hg 1,cellsAt hg 2,cellsAt hg 3,cellsAt hg 4,cellsAt hg 5,cellsAt hg 6⟩
 have hz0:B≤w0.heap.size:=Nat.le_trans hBw HK0.out.size
 clear hg0 hw0 hm
 refine (wnumber_any B b 2 id bs w0 HI0.out (by omega) (by omega) (Nat.le_trans hz0 (Kp.size (Kp.refl B b w0)))).mono ?_
 rintro e w1 ⟨rfl,h1,hb1⟩
 have HK1:Hid (Kp B b w0 w1):=Kp.trans (Kp.refl B b w0) hb1
 have l1:(bs++nbs id 2).length≤1002:=by rw [List.length_append,nbs_len];omega
 obtain ⟨D1,hD1⟩:∃ D,D=bs++nbs id 2:=⟨_,rfl⟩
 rw [← hD1] at h1 l1
 have HD1:Hid (D1=bs++nbs id 2):=hD1
 have HI1:Hid (IsW B b D1 w1):=h1
 clear hD1 h1 hb1
 obtain ⟨c0,c1,c2,c3,c4,c5,c6⟩:=HG.out w1 HK1.out
 go_wp2_with fail
 refine (flags_any id code typ ans cut name _).mono ?_
 rintro e wf ⟨rfl,o,hwf⟩
 have HIf:Hid (IsW B b D1 wf):=(show IsW B b D1 wf by rw [hwf];exact IsW.alloc HI1.out _)
 have HKf:Hid (Kp B b w0 wf):=(show Kp B b w0 wf by rw [hwf];exact Kp.trans HK1.out (Kp.alloc _ (Nat.le_trans hz0 (Kp.size HK1.out))))
 clear hwf
 obtain ⟨x0,x1,x2,x3,x4,x5,x6⟩:=HG.out wf HKf.out
 clear c0 c1 c2 c3 c4 c5 c6
 have c0:=x0
 have c1:=x1
 have c2:=x2
 have c3:=x3
 have c4:=x4
 have c5:=x5
 have c6:=x6
 clear x0 x1 x2 x3 x4 x5 x6
 go_wp2_with fail
 refine (wnumber_any B b 1 (flg ans cut) D1 wf HIf.out (by omega) (by omega) (Nat.le_trans hz0 (Kp.size HKf.out))).mono ?_
 rintro e w2 ⟨rfl,h2,hb2⟩
 have HK2:Hid (Kp B b w0 w2):=Kp.trans HKf.out hb2
 have l2:(D1++nbs (flg ans cut) 1).length≤1003:=by rw [List.length_append,nbs_len];omega
 obtain ⟨D2,hD2⟩:∃ D,D=D1++nbs (flg ans cut) 1:=⟨_,rfl⟩
 rw [← hD2] at h2 l2
 have HD2:Hid (D2=D1++nbs (flg ans cut) 1):=hD2
 have HI2:Hid (IsW B b D2 w2):=h2
 clear hD2 h2 hb2 c0 c1 c2 c3 c4 c5 c6
 obtain ⟨c0,c1,c2,c3,c4,c5,c6⟩:=HG.out w2 HK2.out
 go_wp2_with fail
 refine (wnumber_any B b 1 code D2 w2 HI2.out (by omega) (by omega) (Nat.le_trans hz0 (Kp.size HK2.out))).mono ?_
 rintro e w3 ⟨rfl,h3,hb3⟩
 have HK3:Hid (Kp B b w0 w3):=Kp.trans HK2.out hb3
 have l3:(D2++nbs code 1).length≤1004:=by rw [List.length_append,nbs_len];omega
 obtain ⟨D3,hD3⟩:∃ D,D=D2++nbs code 1:=⟨_,rfl⟩
 rw [← hD3] at h3 l3
 have HD3:Hid (D3=D2++nbs code 1):=hD3
 have HI3:Hid (IsW B b D3 w3):=h3
 clear hD3 h3 hb3 c0 c1 c2 c3 c4 c5 c6
 obtain ⟨c0,c1,c2,c3,c4,c5,c6⟩:=HG.out w3 HK3.out
 go_wp2_with fail
 refine (wnumber_any B b 2 1 D3 w3 HI3.out (by omega) (by omega) (Nat.le_trans hz0 (Kp.size HK3.out))).mono ?_
 rintro e w4 ⟨rfl,h4,hb4⟩
 have HK4:Hid (Kp B b w0 w4):=Kp.trans HK3.out hb4
 have l4:(D3++nbs 1 2).length≤1006:=by rw [List.length_append,nbs_len];omega
 obtain ⟨D4,hD4⟩:∃ D,D=D3++nbs 1 2:=⟨_,rfl⟩
 rw [← hD4] at h4 l4
 have HD4:Hid (D4=D3++nbs 1 2):=hD4
 have HI4:Hid (IsW B b D4 w4):=h4
 clear hD4 h4 hb4 c0 c1 c2 c3 c4 c5 c6
 obtain ⟨c0,c1,c2,c3,c4,c5,c6⟩:=HG.out w4 HK4.out
 go_wp2_with fail
 refine (wnumber_any B b 2 0 D4 w4 HI4.out (by omega) (by omega) (Nat.le_trans hz0 (Kp.size HK4.out))).mono ?_
 rintro e w5 ⟨rfl,h5,hb5⟩
 have HK5:Hid (Kp B b w0 w5):=Kp.trans HK4.out hb5
 have l5:(D4++nbs 0 2).length≤1008:=by rw [List.length_append,nbs_len];omega
 obtain ⟨D5,hD5⟩:∃ D,D=D4++nbs 0 2:=⟨_,rfl⟩
 rw [← hD5] at h5 l5
 have HD5:Hid (D5=D4++nbs 0 2):=hD5
 have HI5:Hid (IsW B b D5 w5):=h5
 clear hD5 h5 hb5 c0 c1 c2 c3 c4 c5 c6
 obtain ⟨c0,c1,c2,c3,c4,c5,c6⟩:=HG.out w5 HK5.out
 go_wp2_with fail
 refine (wnumber_any B b 2 0 D5 w5 HI5.out (by omega) (by omega) (Nat.le_trans hz0 (Kp.size HK5.out))).mono ?_
 rintro e w6 ⟨rfl,h6,hb6⟩
 have HK6:Hid (Kp B b w0 w6):=Kp.trans HK5.out hb6
 have l6:(D5++nbs 0 2).length≤1010:=by rw [List.length_append,nbs_len];omega
 obtain ⟨D6,hD6⟩:∃ D,D=D5++nbs 0 2:=⟨_,rfl⟩
 rw [← hD6] at h6 l6
 have HD6:Hid (D6=D5++nbs 0 2):=hD6
 have HI6:Hid (IsW B b D6 w6):=h6
 clear hD6 h6 hb6 c0 c1 c2 c3 c4 c5 c6
 obtain ⟨c0,c1,c2,c3,c4,c5,c6⟩:=HG.out w6 HK6.out
 go_wp2_with fail
 refine (wnumber_any B b 2 0 D6 w6 HI6.out (by omega) (by omega) (Nat.le_trans hz0 (Kp.size HK6.out))).mono ?_
 rintro e w7 ⟨rfl,h7,hb7⟩
 have HK7:Hid (Kp B b w0 w7):=Kp.trans HK6.out hb7
 have l7:(D6++nbs 0 2).length≤1012:=by rw [List.length_append,nbs_len];omega
 obtain ⟨D7,hD7⟩:∃ D,D=D6++nbs 0 2:=⟨_,rfl⟩
 rw [← hD7] at h7 l7
 have HD7:Hid (D7=D6++nbs 0 2):=hD7
 have HI7:Hid (IsW B b D7 w7):=h7
 clear hD7 h7 hb7 c0 c1 c2 c3 c4 c5 c6
 obtain ⟨c0,c1,c2,c3,c4,c5,c6⟩:=HG.out w7 HK7.out
 go_wp2_with fail
 refine (wname_any B b D7 name w7 (ML.kp HM0.out HK7.out hB0) HI7.out (by omega) hn (Nat.le_trans hz0 (Kp.size HK7.out))).mono ?_
 rintro e w8 ⟨rfl,h8,hb8⟩
 have HK8:Hid (Kp B b w0 w8):=Kp.trans HK7.out hb8
 have l8:(D7++wname name).length≤1261:=by rw [List.length_append];omega
 obtain ⟨D8,hD8⟩:∃ D,D=D7++wname name:=⟨_,rfl⟩
 rw [← hD8] at h8 l8
 have HD8:Hid (D8=D7++wname name):=hD8
 have HI8:Hid (IsW B b D8 w8):=h8
 clear hD8 h8 hb8 c0 c1 c2 c3 c4 c5 c6
 obtain ⟨c0,c1,c2,c3,c4,c5,c6⟩:=HG.out w8 HK8.out
 go_wp2_with fail
 refine (wnumber_any B b 2 typ D8 w8 HI8.out (by omega) (by omega) (Nat.le_trans hz0 (Kp.size HK8.out))).mono ?_
 rintro e w9 ⟨rfl,h9,hb9⟩
 have HK9:Hid (Kp B b w0 w9):=Kp.trans HK8.out hb9
 have l9:(D8++nbs typ 2).length≤1263:=by rw [List.length_append,nbs_len];omega
 obtain ⟨D9,hD9⟩:∃ D,D=D8++nbs typ 2:=⟨_,rfl⟩
 rw [← hD9] at h9 l9
 have HD9:Hid (D9=D8++nbs typ 2):=hD9
 have HI9:Hid (IsW B b D9 w9):=h9
 clear hD9 h9 hb9 c0 c1 c2 c3 c4 c5 c6
 obtain ⟨c0,c1,c2,c3,c4,c5,c6⟩:=HG.out w9 HK9.out
 go_wp2_with fail
 refine (wnumber_any B b 2 1 D9 w9 HI9.out (by omega) (by omega) (Nat.le_trans hz0 (Kp.size HK9.out))).mono ?_
 rintro e w10 ⟨rfl,h10,hb10⟩
 have HK10:Hid (Kp B b w0 w10):=Kp.trans HK9.out hb10
 have l10:(D9++nbs 1 2).length≤1265:=by rw [List.length_append,nbs_len];omega
 obtain ⟨D10,hD10⟩:∃ D,D=D9++nbs 1 2:=⟨_,rfl⟩
 rw [← hD10] at h10 l10
 have HD10:Hid (D10=D9++nbs 1 2):=hD10
 have HI10:Hid (IsW B b D10 w10):=h10
 clear hD10 h10 hb10 c0 c1 c2 c3 c4 c5 c6
 obtain ⟨c0,c1,c2,c3,c4,c5,c6⟩:=HG.out w10 HK10.out
 go_wp2_with fail
 have HF:Hid (D10=bs++wmsg id code typ ans cut name):=(show _=_ by rw [HD10.out,HD9.out,HD8.out,HD7.out,HD6.out,HD5.out,HD4.out,HD3.out,HD2.out,HD1.out];simp [wmsg])
 have HIF:Hid (IsW B b (bs++wmsg id code typ ans cut name) w10):=(show IsW _ _ _ _ by rw [← HF.out];exact HI10.out)
 have HKF:Hid (Kp B b w w10):=HK0.out.trans HK10.out
 go_loopw [44] (fun i wr=>i=.int .i64 0∧wr=w10) (fun _ _=>0)
 case atStart=>exact ⟨rfl,rfl⟩
 case round=>
  obtain ⟨rfl,hwr⟩:=hrel
  subst hwr
  go_wp2_with fail
  simp [bodyPost,results,Tryz.results57]
  exact ⟨HIF.out,HKF.out⟩
theorem Tryz.cellsByte:Tryz.prog.cellsOf 5=1:=by kernel_rfl
set_option maxHeartbeats 1000000 in
set_option maxRecDepth 100000 in
theorem string_any (B b:Nat) (l:List UInt8) (w:World) (h:IsW B b (Lib.byteCells l) w) (h0:l≠[]) :
 Calls Tryz.prog 58 #[.pointer (some ⟨b,0,none⟩)] w fun e w'=>e=.returned (.string ⟨l.toArray⟩)∧Below B w w':=by
 obtain ⟨p,hB,v,hbk,hown,hne⟩:∃ p,WAt B b p (Lib.byteCells l) w:=by
  rcases h with h | h
  ·exact ⟨_,h⟩
  ·exact ⟨_,h⟩
 have hl0:l.length≠0:=by simpa using h0
 rw [Lib.byteCells_length] at hown
 obtain ⟨g,cap,cur,rfl,hbg,hg,hnc,hcm,hcs,htake⟩:∃ g cap cur,v=.slice (some ⟨g,0,none⟩) l.length cap∧B≤g∧w.heap[g]?=some (.cells cur 5 (0,0))∧l.length≤cap∧cap≤maxLen∧cur.size=cap * 1∧cur.toList.take (l.length * 1)=Lib.byteCells l:=by
  rcases hown.2 with ⟨_,hz⟩ | ⟨g,cap,cur,hv,r⟩
  ·exact absurd hz hl0
  ·exact ⟨g,cap,cur,hv,r⟩
 have c1:w.drew.cell? ⟨b,1,none⟩=some (.slice (some ⟨g,0,none⟩) l.length cap):=by
  have:w.drew.heap[b]?=some (.cells #[p,.slice (some ⟨g,0,none⟩) l.length cap] 106 (0,0)):=hbk
  rw [Lib.cell_of_heap this];rfl
 have hSD:(Builtin.unsafeSliceData_ #[102] 130 #[.slice (some ⟨g,0,none⟩) l.length cap]).run Tryz.prog w.drew=.ok (.pointer (some ⟨g,0,none⟩)) w.drew:=
  Lib.run_unsafeSliceData_row _ _ _ _ _ _ (by omega)
 have hUS:(Builtin.unsafeString_ #[130,3] 9 #[.pointer (some ⟨g,0,none⟩),.int .i64 l.length]).run Tryz.prog w.drew=.ok (.string ⟨l.toArray⟩) (w.drew.freeze ⟨g,0,none⟩ l.length):=by
  refine Lib.run_unsafeString_row w.drew 130 3 9 5 Tryz.underlying130 Tryz.cellsByte g cur.size (by have hg':w.drew.heap[g]?=some (.cells cur 5 (0,0)):=hg;simp [World.shape?,hg']) l h0 (by omega) (by unfold maxLen at hcm;omega) ?_
  intro j x hx
  have:=hown.cells (g:=g) rfl j (.int .u8 x.toNat) (by simp [Lib.byteCells,hx])
  exact this
 have mixed:Tryz.prog.follows .mixedOrders=true:=by kernel_rfl
 go_enter Tryz.func58,Tryz.ntmps58
 go_wp2_with fail
 go_region_o
 all_goals (go_wp2;go_ret;exact ⟨rfl,Lib.below_freeze (Below.drew (Below.refl B w)) (p:=⟨g,0,none⟩) hbg _⟩)
def nbl (n:Int):Nat→List UInt8
 | 0=>[]
 | k+1=>(bt n k).toNat.toUInt8 :: nbl n k
theorem bt_rng (n:Int) (k:Nat):0≤bt n k∧bt n k < 256:=by
 unfold bt
 generalize n / 2 ^ (8 * (k:Int)).toNat=x
 rw [IntKind.wrap_u8]
 omega
theorem nbs_cells (n:Int):∀ k,nbs n k=Lib.byteCells (nbl n k)
 | 0=>rfl
 | k+1=>by
   have h:=bt_rng n k
   rw [nbs,nbs_cells n k,nbl]
   simp [Lib.byteCells]
   omega
theorem nbl_len (n:Int):∀ k,(nbl n k).length=k
 | 0=>rfl
 | k+1=>by simp [nbl,nbl_len n k]
theorem bt_step {n m:Int} {j:Nat} (hm:m=n / 2 ^ (8 * j)):m%256=(((bt n j).toNat.toUInt8).toNat:Int):=by
 have hr:=bt_rng n j
 have h2:bt n j=m%256:=by
  unfold bt
  rw [show (8 * (j:Int)).toNat=8 * j by omega,← hm,IntKind.wrap_u8]
 rw [h2]
 have h3:(m%256).toNat < 256:=by omega
 have h4:((m%256).toNat.toUInt8).toNat=(m%256).toNat:=by
  simp [Nat.toUInt8]
  omega
 rw [h4]
 omega
end Go.Proofs.YtignmeaeibaejaaGreatDoor
namespace Go.Proofs
open Go.Shelf
def Tryz.laysM146_ren:Go.Shelf.Ren:=⟨fun | 146=>116 | 221=>140 | 268=>159 | 138=>114 | 143=>138 | 195=>136 | 197=>169 | 218=>137 | 219=>157 | 260=>183 | 217=>165 | 225=>166 | 224=>167 | 267=>168 | 266=>181 | 314=>182 | n=>n,fun | 9=>9 | 31=>81 | 3=>3 | 4=>4 | 0=>0 | 105=>191 | 21=>21 | 5=>5 | 46=>70 | 119=>212 | 139=>215 | 138=>214 | 146=>204 | 51=>201 | n=>n,fun | 1=>0 | 3=>1 | 4=>2 | n=>n⟩
theorem Tryz.laysM146:Go.Proofs.LaysM.n146 Tryz.prog Tryz.laysM146_ren:={
 mixed:=by kernel_rfl
 f138:=Tryz.func114.trans (congrArg some (by kernel_rfl))
 f143:=Tryz.func138.trans (congrArg some (by kernel_rfl))
 f146:=Tryz.func116.trans (congrArg some (by kernel_rfl))
 f195:=Tryz.func136.trans (congrArg some (by kernel_rfl))
 f197:=Tryz.func169.trans (congrArg some (by kernel_rfl))
 f217:=Tryz.func165.trans (congrArg some (by kernel_rfl))
 f218:=Tryz.func137.trans (congrArg some (by kernel_rfl))
 f219:=Tryz.func157.trans (congrArg some (by kernel_rfl))
 f221:=Tryz.func140.trans (congrArg some (by kernel_rfl))
 f224:=Tryz.func167.trans (congrArg some (by kernel_rfl))
 f225:=Tryz.func166.trans (congrArg some (by kernel_rfl))
 f260:=Tryz.func183.trans (congrArg some (by kernel_rfl))
 f266:=Tryz.func181.trans (congrArg some (by kernel_rfl))
 f267:=Tryz.func168.trans (congrArg some (by kernel_rfl))
 f268:=Tryz.func159.trans (congrArg some (by kernel_rfl))
 f314:=Tryz.func182.trans (congrArg some (by kernel_rfl))
 t0:=Tryz.underlying0
 a0:=Tryz.isAgg0
 z0:=Tryz.sizeOf0
 v0:=Tryz.zeroValue0
 t3:=Tryz.underlying3
 a3:=Tryz.isAgg3
 z3:=Tryz.sizeOf3
 v3:=Tryz.zeroValue3
 t4:=Tryz.underlying4
 a4:=Tryz.isAgg4
 z4:=Tryz.sizeOf4
 v4:=Tryz.zeroValue4
 t5:=Tryz.underlying5
 a5:=Tryz.isAgg5
 z5:=Tryz.sizeOf5
 v5:=Tryz.zeroValue5
 t9:=Tryz.underlying9
 a9:=Tryz.isAgg9
 z9:=Tryz.sizeOf9
 v9:=Tryz.zeroValue9
 t21:=Tryz.underlying21
 a21:=Tryz.isAgg21
 z21:=Tryz.sizeOf21
 v21:=Tryz.zeroValue21
 t31:=Tryz.underlying81
 a31:=Tryz.isAgg81
 z31:=Tryz.sizeOf81
 v31:=Tryz.zeroValue81
 t46:=Tryz.underlying70
 a46:=Tryz.isAgg70
 z46:=Tryz.sizeOf70
 v46:=Tryz.zeroValue70
 t51:=Tryz.underlying201
 a51:=Tryz.isAgg201
 z51:=Tryz.sizeOf201
 v51:=Tryz.zeroValue201
 t105:=Tryz.underlying191
 a105:=Tryz.isAgg191
 z105:=Tryz.sizeOf191
 v105:=Tryz.zeroValue191
 t119:=Tryz.underlying212
 a119:=Tryz.isAgg212
 z119:=Tryz.sizeOf212
 t138:=Tryz.underlying214
 a138:=Tryz.isAgg214
 z138:=Tryz.sizeOf214
 v138:=Tryz.zeroValue214
 t139:=Tryz.underlying215
 a139:=Tryz.isAgg215
 z139:=Tryz.sizeOf215
 v139:=Tryz.zeroValue215
 t146:=Tryz.underlying204
 a146:=Tryz.isAgg204
 z146:=Tryz.sizeOf204
 v146:=Tryz.zeroValue204
 g1:=by kernel_rfl
 g3:=by kernel_rfl
 g4:=by kernel_rfl
 i0:=by kernel_rfl
 i3:=by kernel_rfl
 i4:=by kernel_rfl
 i5:=by kernel_rfl
 i9:=by kernel_rfl
 i21:=by kernel_rfl
 i31:=by kernel_rfl
 i46:=by kernel_rfl
 i51:=by kernel_rfl
 i105:=by kernel_rfl
 i138:=by kernel_rfl
 i139:=by kernel_rfl
 i146:=by kernel_rfl
 m1:=by kernel_rfl
 s1_3:=fun w h=>Go.Proofs.cell_of_shapedOpen_int (zero:=#[.int .i64 0]) (t:=3) h (of_decide_eq_true (by kernel_rfl)) (by kernel_rfl) rfl (by kernel_rfl) (by kernel_rfl) Tryz.underlying3
 m3:=by kernel_rfl
 m4:=by kernel_rfl }
end Go.Proofs
namespace Go.Proofs.YtignmeaeibaejaaGreatDoor
open Go.ChangeShapes Go.WideShapes Go.ChangeAt Go.RowKit
theorem ml_of {W:World} (h:W.ShapedOpen Tryz.prog):ML W:=by
 obtain ⟨m,hm⟩:=Tryz.laysM146.s1_3 W h
 have hm2:W.cell? ⟨0,0,none⟩=some (.int .i64 m):=hm
 exact ⟨World.block_lt_of_cell? W ⟨0,0,none⟩ hm2,m,hm2⟩
theorem returns_of_shaped {H:Type} {enc:TypeId × Value→H} {a:Assume} {C:Checked} {os:Os} {f:FuncId} {fn:Func} {s:ChangeSpec} {conds:List PathCond} {apart fresh handsOn again:Bool} {X:World→Array Value→Prop}
 (own:ownKnob C.prog.godebug=none) (started:os.Started) (noInit:C.prog.inits.idxOf? f=none) (hfn:C.prog.funcs[f]?=some fn)
 (witness:∃ (w:World) (tape:Tape) (i:Input),w.os=os∧(w.forCall tape i).Shaped C.prog∧i.vars=[]∧Input.okWide C.prog (w.forCall tape i) .any w.heap.size f i ∧
   ((s.pre enc C.prog fn conds apart (w.forCall tape i).memory i.args∧X (w.forCall tape i).memory i.args)∧sizedMet enc C.prog fn (OpenSpec.ofChange s) apart (w.forCall tape i).memory i.args)∧a.holds C.prog (lone (Frame.enter C.prog f i.args .normal) [] (w.forCall tape i)))
 (contract:∀ (W:World) (base:Nat) (args:Array Value) (ds gs:List (DataW H)) (before:List MemPlace),W.ShapedOpen C.prog →
   (∀ (j:Nat) t v,fn.params[j]?=some t→args[j]?=some v→Value.okWide C.prog W .any base t v) →
   DataW.Whole enc C.prog fn.params.toList s.vars apart W args.toList ds gs before →
   Calls C.prog f args W fun e W'=>∃ v,e=.returned v∧s.post enc C.prog fn apart fresh handsOn again W args v W') :
 ReturnsInHanded a C os f .any (fun w args=>(s.pre enc C.prog fn conds apart w args∧X w args)∧sizedMet enc C.prog fn (OpenSpec.ofChange s) apart w args) (s.post enc C.prog fn apart fresh handsOn again):=by
 refine returnsInHanded_of_calls own started noInit witness ?_
 intro w tape i _ hsh _ hok hpre _
 obtain ⟨_,_,_,fn',hfn',_,_,_,_,hval⟩:=hok
 have e:fn'=fn:=Option.some.inj (hfn'.symm.trans hfn)
 subst e
 obtain ⟨⟨⟨ds,gs,before,hw,_⟩,_⟩,_⟩:=hpre
 refine (contract (w.forCall tape i) w.heap.size i.args ds gs before hsh hval (DataW.Whole.of_heap (w':=w.forCall tape i) (by rfl) hw)).mono fun e W' ⟨v,he,hp⟩=>?_
 subst he
 exact ChangeSpec.post_blind hp
end Go.Proofs.YtignmeaeibaejaaGreatDoor
