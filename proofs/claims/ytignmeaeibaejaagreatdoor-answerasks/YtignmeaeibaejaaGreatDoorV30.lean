import Derived.Test.YtignmeaeibaejaaGreatDoorV26
import Derived.Test.YtignmeaeibaejaaGreatDoorV27
import Derived.Test.YtignmeaeibaejaaGreatDoorV25
import Derived.Test.YtignmeaeibaejaaGreatDoorV8
import Derived.Shelf.Strings.Builder1
import Derived.Shelf.Strings.Builder2
import Derived.Shelf.Strings.OnBuilder
import Derived.Shelf.Small.Bits
import Derived.Shelf.Small.Strs
import Derived.Shelf.Small.Wraps
import Derived.Shelf.Utf8.RuneCount
import Derived.Shelf.Strconv.Itoa0
import Derived.Shelf.LaysM
import Derived.Shelf.Strconv.Clone
import Derived.Shelf.Strings.Search1
import Derived.Shelf.Strings.Search2
import Derived.Shelf.Strings.Search3
import Derived.Shelf.Strings.Cut
import Derived.Shelf.Strings.Count
import Derived.Shelf.Strings.Shaped
import Derived.Shelf.Strings.Split
import Derived.Shelf.Strings.SplitShaped
import Derived.Shelf.Unicode.Decode
import Derived.Shelf.Strings.RuneCount
import Derived.Shelf.Strings.Explode
import Derived.Shelf.Unicode.DecodeSlow
import Derived.Shelf.Unicode.DecodeAny
import Derived.Shelf.Slices.Turned
import Derived.Ground.Names2Prog
import Derived.Shelf.Slices.Clone
import Derived.Shelf.Slices.SearchI
import Derived.Ground.SlgnProg
import Derived.Shelf.SlicesE.Clone
import Derived.Ground.SlgfProg
import Derived.Shelf.SlicesE.IndexFunc
import Derived.Shelf.SlicesE.DeleteFunc
import Derived.Ground.SlsfProg
import Derived.Shelf.SlSortCmp.Insertion
import Derived.Shelf.SlSortCmp.SiftDown1
import Derived.Shelf.SlSortCmp.HeapSort1
import Derived.Shelf.SlSortCmp.Insertion1
import Derived.Shelf.SlSortCmp.Median1
import Derived.Shelf.SlSortCmp.Pivot1
import Derived.Shelf.SlSortCmp.ReverseRange1
import Derived.Shelf.SlSortCmp.PartialInsertion1
import Derived.Shelf.SlSortCmp.PartitionEqual1
import Derived.Shelf.SlSortCmp.Partition1
import Derived.Shelf.SlSortCmp.Pdq1
import Derived.Shelf.SlSortCmp.Whole1
import Derived.Shelf.SlSortCmp.NoneTotal
import Derived.Test.YtignmeaeibaejaaGreatDoorProg
import Derived.Test.YtignmeaeibaejaaGreatDoorV28
import Derived.Deep.RegionHeld3
import Derived.StillTactics
import Derived.Test.YtignmeaeibaejaaGreatDoorV29
import Derived.Lib.QuietBelow
namespace Go.Proofs.YtignmeaeibaejaaGreatDoor
open Go.RowKit
def wrecL (r:Rc.Rec):List UInt8:=wnameL r.name++(nbl r.typ 2++(nbl 1 2++(nbl r.lasts 4++(nbl (wdatL r).length 2++wdatL r))))
def wheadL (id code typ:Int) (ans cut:Bool) (name:ByteArray) (n:Nat):List UInt8:=
 nbl id 2++(nbl (flg ans cut) 1++(nbl code 1++(nbl 1 2++(nbl n 2++(nbl 0 2++(nbl 0 2++(wnameL name++(nbl typ 2++nbl 1 2))))))))
def wallL (id code typ:Int) (ans cut:Bool) (name:ByteArray) (rs:List Rc.Rec):List UInt8:=wheadL id code typ ans cut name rs.length++rs.flatMap wrecL
theorem wrec_cells (r:Rc.Rec):wrec r=Lib.byteCells (wrecL r):=by
 unfold wrec wrecL
 rw [wdat_cells]
 simp only [cells_app,nbs_cells,wname_cells,Lib.byteCells_length]
theorem recs_cells:∀ (rs:List Rc.Rec),rs.flatMap wrec=Lib.byteCells (rs.flatMap wrecL)
 | []=>rfl
 | r :: t=>by rw [List.flatMap_cons,List.flatMap_cons,cells_app,wrec_cells,recs_cells t]
theorem wall_cells (id code typ:Int) (ans cut:Bool) (name:ByteArray) (rs:List Rc.Rec):whead id code typ ans cut name rs.length++rs.flatMap wrec=Lib.byteCells (wallL id code typ ans cut name rs):=by
 unfold whead wallL wheadL
 simp only [cells_app,nbs_cells,wname_cells,recs_cells]
theorem wallL_ne (id code typ:Int) (ans cut:Bool) (name:ByteArray) (rs:List Rc.Rec):wallL id code typ ans cut name rs≠[]:=by
 unfold wallL wheadL
 simp [nbl]
theorem chkRs_all:∀ {rs:List Rc.Rec},chkRs rs=0→∀ r∈rs,chkRec r=0
 | [],_,_,h=>by cases h
 | x :: t,h0,r,hr=>by
   unfold chkRs at h0
   split at h0
   ·rename_i h1
    rcases List.mem_cons.1 hr with rfl | hr
    ·exact h1
    ·exact chkRs_all h0 r hr
   ·rename_i h1
    exact absurd h0 h1
theorem chkMsg_facts {id code typ:Int} {name:ByteArray} {rs:List Rc.Rec} (h:chkMsg id code typ name rs=0):rs.length≤20∧chkN name=0∧∀ r∈rs,chkRec r=0:=by
 unfold chkMsg at h
 split at h
 ·omega
 split at h
 ·omega
 rename_i h2
 split at h
 ·omega
 rename_i h3
 split at h
 ·omega
 exact ⟨by omega,by omega,chkRs_all h⟩
set_option maxHeartbeats 1600000 in
set_option maxRecDepth 100000 in
theorem written_any (id code typ:Int) (ans cut:Bool) (name:ByteArray) (rs:List Rc.Rec) (pa:Option Addr) (cap:Nat) (w:World) (hm:ML w) (hn:chkN name=0) (h20:rs.length≤20) (hcs:∀ r∈rs,chkRec r=0)
 (hrow:∀ W,Below w.heap.size w W→rs=[]∨∃ b off,pa=some ⟨b,off,none⟩∧b < W.heap.size∧Rc.Row W b off rs) :
 Calls Tryz.prog 23 #[.agg #[.int .i64 id,.bool ans,.bool cut,.int .i64 code,.string name,.int .i64 typ,.slice pa rs.length cap]] w fun e w'=>e=.returned (.string ⟨(wallL id code typ ans cut name rs).toArray⟩)∧Below w.heap.size w w':=by
 have HMS:Hid (∀ W,ML W→IsW (w.heap.size+1) (w.heap.size+1) [] W→Below w.heap.size w W→w.heap.size+1≤W.heap.size→Calls Tryz.prog 57 #[.pointer (some ⟨w.heap.size+1,0,none⟩),.agg #[.int .i64 id,.bool ans,.bool cut,.int .i64 code,.string name,.int .i64 typ,.slice pa rs.length cap]] W fun e w'=>e=.returned (.tuple #[])∧IsW (w.heap.size+1) (w.heap.size+1) ([]++(whead id code typ ans cut name rs.length++rs.flatMap wrec)) w'∧Kp (w.heap.size+1) (w.heap.size+1) W w'):=fun W h1 h2 h3 h4=>message_any (w.heap.size+1) (w.heap.size+1) [] id code typ ans cut name rs pa cap W h1 h2 (by simp) hn h4 (by omega) h20 hcs (fun W2 hW2=>hrow W2 (h3.trans (hW2.mono (by omega))))
 clear hrow hcs h20 hn
 generalize hln:rs.length=n at *
 have HLN:Hid (rs.length=n):=hln
 clear hln
 go_enter Tryz.func23,Tryz.ntmps23
 go_wp2_with fail
 obtain ⟨w0,hw0⟩:∃ w0,w0=(w.alloc (.cells #[.int .i64 id,.bool ans,.bool cut,.int .i64 code,.string name,.int .i64 typ,.slice pa n cap] 38)).alloc (.cells #[.pointer none,.slice none 0 0] 106):=⟨_,rfl⟩
 rw [← hw0]
 have hsz:w0.heap.size=w.heap.size+2:=by rw [hw0];simp
 have hgb:w0.heap[w.heap.size+1]?=some (.cells #[.pointer none,.slice none 0 0] 106 (0,0)):=by
  have h:=heap_alloc_new (w.alloc (.cells #[.int .i64 id,.bool ans,.bool cut,.int .i64 code,.string name,.int .i64 typ,.slice pa n cap] 38)) (.cells #[.pointer none,.slice none 0 0] 106)
  rw [hw0]
  simpa using h
 have HB0:Hid (Below w.heap.size w w0):=(show Below _ _ _ by rw [hw0];exact ((Below.refl _ _).alloc (Nat.le_refl _) _).alloc (by simp) _)
 have HI0:Hid (IsW (w.heap.size+1) (w.heap.size+1) [] w0):=(show IsW _ _ _ _ from .inl ⟨Nat.le_refl _,.slice none 0 0,hgb,World.ownsRow_nil w0 _ 5 1,by simp [Value.ownBlock]⟩)
 have HM0:Hid (ML w0):=(show ML w0 from hm.below HB0.out)
 clear hw0 hgb hm
 refine (HMS.out w0 HM0.out HI0.out HB0.out (by omega)).mono ?_
 rintro e w1 ⟨rfl,h1,hb1⟩
 have HI1:Hid (IsW (w.heap.size+1) (w.heap.size+1) (Lib.byteCells (wallL id code typ ans cut name rs)) w1):=(show IsW _ _ _ _ by rw [← wall_cells,HLN.out];simpa using h1)
 have HB1:Hid (Below w.heap.size w w1):=HB0.out.trans (hb1.bel.mono (by omega))
 have hz1:=HB1.out.size
 have hz2:=hb1.size
 clear h1 hb1
 go_wp2_with fail
 refine (string_any (w.heap.size+1) (w.heap.size+1) _ w1 HI1.out (wallL_ne _ _ _ _ _ _ _)).mono ?_
 rintro e w2 ⟨rfl,hb2⟩
 have HB2:Hid (Below w.heap.size w w2):=HB1.out.trans (hb2.mono (by omega))
 clear hb2
 go_wp2_with fail
 go_ret
 exact ⟨rfl,HB2.out⟩
def AtW (t:ByteArray) (a:Nat) (l:List UInt8):Prop:=∃ p q,t.data.toList=p++(l++q)∧p.length=a
theorem AtW.left {t:ByteArray} {a:Nat} {l m:List UInt8} (h:AtW t a (l++m)):AtW t a l:=by
 obtain ⟨p,q,h1,h2⟩:=h
 exact ⟨p,m++q,by rw [h1,List.append_assoc],h2⟩
theorem AtW.right {t:ByteArray} {a:Nat} {l m:List UInt8} (h:AtW t a (l++m)):AtW t (a+l.length) m:=by
 obtain ⟨p,q,h1,h2⟩:=h
 exact ⟨p++l,q,by rw [h1];simp,by rw [List.length_append,h2]⟩
theorem AtW.size {t:ByteArray} {a:Nat} {l:List UInt8} (h:AtW t a l):a+l.length≤t.size:=by
 obtain ⟨p,q,h1,h2⟩:=h
 have h3:t.size=t.data.toList.length:=by simp
 rw [h3,h1]
 simp
 omega
theorem AtW.extract {t l:ByteArray} {a:Nat} (h:AtW t a l.data.toList):t.extract a (a+l.size)=l:=by
 obtain ⟨p,q,h1,h2⟩:=h
 apply ba_ext
 have h3:(t.extract a (a+l.size)).data.toList=(t.data.toList.drop a).take l.size:=by simp
 rw [h3,h1,show (p++(l.data.toList++q)).drop a=l.data.toList++q by rw [← h2];simp]
 have h4:l.size=l.data.toList.length:=by simp
 rw [h4]
 simp
theorem labs_ok {s:ByteArray} (h:chkN s=0):(∀ l∈labs s,labB l=true)∧(labs s).length≤8∧s.size≤1000:=by
 refine ⟨?_,(chk_facts h).1,?_⟩
 ·rw [chkN_labs] at h
  split at h
  ·omega
  ·rename_i h1
   have h3:(labs s).all labB=true:=by simpa using h1
   exact fun l hl=>List.all_eq_true.1 h3 l hl
 ·by_cases h0:s.size=0
  ·omega
  ·unfold chkN at h
   rw [if_neg h0] at h
   split at h
   ·omega
   ·split at h<;>omega
end Go.Proofs.YtignmeaeibaejaaGreatDoor
namespace Go.Proofs
open Go.Shelf
def Tryz.laysM316_ren:Go.Shelf.Ren:=⟨fun | 316=>142 | n=>n,fun | 9=>9 | 3=>3 | 4=>4 | 37=>102 | 0=>0 | 127=>130 | 5=>5 | n=>n,fun | n=>n⟩
theorem Tryz.laysM316:Go.Proofs.LaysM.n316 Tryz.prog Tryz.laysM316_ren:={
 mixed:=by kernel_rfl
 f316:=Tryz.func142.trans (congrArg some (by kernel_rfl))
 t0:=Tryz.underlying0
 a0:=Tryz.isAgg0
 z0:=Tryz.sizeOf0
 v0:=Tryz.zeroValue0
 t3:=Tryz.underlying3
 a3:=Tryz.isAgg3
 z3:=Tryz.sizeOf3
 v3:=Tryz.zeroValue3
 t4:=Tryz.underlying4
 a4:=Tryz.isAgg4
 z4:=Tryz.sizeOf4
 v4:=Tryz.zeroValue4
 t9:=Tryz.underlying9
 a9:=Tryz.isAgg9
 z9:=Tryz.sizeOf9
 v9:=Tryz.zeroValue9
 t37:=Tryz.underlying102
 a37:=Tryz.isAgg102
 z37:=Tryz.sizeOf102
 v37:=Tryz.zeroValue102
 t127:=Tryz.underlying130
 a127:=Tryz.isAgg130
 z127:=Tryz.sizeOf130
 v127:=Tryz.zeroValue130
 t5:=Tryz.underlying5
 a5:=Tryz.isAgg5
 z5:=Tryz.sizeOf5
 v5:=Tryz.zeroValue5
 i0:=by kernel_rfl
 i3:=by kernel_rfl
 i4:=by kernel_rfl
 i5:=by kernel_rfl
 i9:=by kernel_rfl
 i37:=by kernel_rfl
 i127:=by kernel_rfl }
open Go.RowKit in
theorem Tryz.stringslite_Clone (s:ByteArray) (w:World) (hlim:s.size≤281474976710656) :
 Calls Tryz.prog 142 #[.string s] w fun e w'=>e=.returned (.string s)∧Below w.heap.size w w':=Any.stringslite_Clone Tryz.laysM316 s w hlim
end Go.Proofs
namespace Go.Proofs.YtignmeaeibaejaaGreatDoor
open Go.RowKit
structure Rx (g X:Nat) (t:ByteArray) (w:World) (a:Nat) (cs:Array Value) (W:World):Prop where
 isR:IsR g t a W
 bx:W.heap[X]?=some (.cells cs 59 (0,0))
 os:W.os=w.os
 tape:W.tape=w.tape
 output:W.output=w.output
 size:w.heap.size≤W.heap.size
 block:∀ k:Nat,k < w.heap.size→k≠g→k≠X→W.heap[k]?=w.heap[k]?
 ne:g≠X
theorem Rx.call {g X a b:Nat} {t:ByteArray} {w W W':World} {cs:Array Value} (h:Rx g X t w a cs W) (h1:Hid (IsR g t b W')) (h2:Hid (Rd g W W')):Rx g X t w b cs W':=
 ⟨h1.out,(h2.out.block X (Array.getElem?_eq_some_iff.1 h.bx).1 (Ne.symm h.ne)).trans h.bx,h2.out.os.trans h.os,h2.out.tape.trans h.tape,h2.out.output.trans h.output,Nat.le_trans h.size h2.out.size,fun k hk h3 h4=>(h2.out.block k (Nat.lt_of_lt_of_le hk h.size) h3).trans (h.block k hk h3 h4),h.ne⟩
theorem Rx.below {g X a:Nat} {t:ByteArray} {w W W':World} {cs:Array Value} (h:Rx g X t w a cs W) (hb:Below W.heap.size W W'):Rx g X t w a cs W':=
 h.call (h.isR.below hb h.isR.hg) (Rd.of_below hb (Nat.le_refl _):Rd g W W')
theorem Rx.store {g X a:Nat} {t:ByteArray} {w W:World} {cs:Array Value} (h:Rx g X t w a cs W) (i:Nat) (v:Value):Rx g X t w a (cs.setIfInBounds i v) (W.setCell ⟨X,i,none⟩ v) where
 isR:=⟨(World.cell?_setCell_other _ _ _ _ (by have:=h.ne;intro e;simp at e)).trans h.isR.c0,(World.cell?_setCell_other _ _ _ _ (by have:=h.ne;intro e;simp at e)).trans h.isR.c1,by simpa using h.isR.hz,by simpa using h.isR.hg⟩
 bx:=Joins.block_setCell h.bx v
 os:=h.os
 tape:=h.tape
 output:=h.output
 size:=by simpa using h.size
 block:=fun k hk h3 h4=>(Below.heap_setCell W _ v k (by simpa using h4)).trans (h.block k hk h3 h4)
 ne:=h.ne
theorem Rx.cell {g X a:Nat} {t:ByteArray} {w W:World} {cs:Array Value} (h:Rx g X t w a cs W) (i:Nat):W.cell? ⟨X,i,none⟩=cs[i]?:=cellsAt h.bx i
theorem Rx.free {g X a:Nat} {t:ByteArray} {w W:World} {cs:Array Value} (h:Rx g X t w a cs W) (i:Nat):W.frozen? ⟨X,i,none⟩=false:=by simp [World.frozen?,h.bx]
set_option maxHeartbeats 400000 in
theorem sclone_any (s:ByteArray) (w:World) (hs:s.size≤1000) :
 Calls Tryz.prog 122 #[.string s] w fun e w'=>e=.returned (.string s)∧Below w.heap.size w w':=by
 have HC:Hid (Calls Tryz.prog 142 #[.string s] w fun e w'=>e=.returned (.string s)∧Below w.heap.size w w'):=Tryz.stringslite_Clone s w (by omega)
 go_enter Tryz.func122,Tryz.ntmps122
 go_wp2_with fail
 refine HC.out.mono ?_
 rintro e w1 ⟨rfl,hb⟩
 go_wp2_with fail
 go_ret
 exact ⟨rfl,hb⟩
def tgF (t:ByteArray) (a:Nat):Option (ByteArray × Nat):=(nmF t a a [] none).map fun x=>(mk (jn (x.1.map bts)),x.2)
theorem name_c (g a:Nat) (t:ByteArray) (w:World) (h:IsR g t a w) (hs:t.size≤1000) (ha:a≤t.size) :
 Calls Tryz.prog 62 #[.pointer (some ⟨g,0,none⟩)] w fun e w'=>Hid (Rd g w w')∧((∃ s q,tgF t a=some (s,q)∧s.size≤1000∧q≤t.size∧e=.returned (.string s)∧Hid (IsR g t q w'))∨(tgF t a=none∧e=outE 1)):=by
 refine (name_b g a t w h hs ha).mono ?_
 rintro e w' ⟨h1,⟨ls,q,h2,⟨h3,h4⟩,h5,h6,h7⟩ | ⟨h2,h3⟩⟩
 ·refine ⟨h1,.inl ⟨_,q,by unfold tgF;rw [h2];rfl,?_,h5,h6,h7⟩⟩
  rw [mk_size]
  have:=jn_len ls h4
  omega
 ·exact ⟨h1,.inr ⟨by unfold tgF;rw [h2];rfl,h3⟩⟩
def datF (t:ByteArray) (a:Nat) (nm:ByteArray) (ty la:Int):Option (Rc.Rec × Nat):=
 if ty=1 then (if a+4≤t.size then some (⟨nm,ty,la,rnum t a 4,⟨#[]⟩,0,⟨#[]⟩⟩,a+4) else none)
 else if ty=16 then (if a+1+rnum t a 1≤t.size then some (⟨nm,ty,la,0,t.extract (a+1) (a+1+rnum t a 1),0,⟨#[]⟩⟩,a+1+rnum t a 1) else none)
 else if ty=33 then
  (if a+2≤t.size∧(rnum t a 2:Int)=0 then
    if a+2+2≤t.size∧(rnum t (a+2) 2:Int)=0 then
     if a+2+2+2≤t.size then (tgF t (a+2+2+2)).map fun x=>(⟨nm,ty,la,0,⟨#[]⟩,rnum t (a+2+2) 2,x.1⟩,x.2) else none
    else none
  else none)
 else some (⟨nm,ty,la,0,⟨#[]⟩,0,⟨#[]⟩⟩,a)
structure Ry (g X:Nat) (w W:World):Prop where
 os:W.os=w.os
 tape:W.tape=w.tape
 output:W.output=w.output
 size:w.heap.size≤W.heap.size
 block:∀ k:Nat,k < w.heap.size→k≠g→k≠X→W.heap[k]?=w.heap[k]?
theorem Rx.ry {g X a:Nat} {t:ByteArray} {w W:World} {cs:Array Value} (h:Rx g X t w a cs W):Ry g X w W:=⟨h.os,h.tape,h.output,h.size,h.block⟩
theorem Rx.gone {g X a:Nat} {t:ByteArray} {w W W':World} {cs:Array Value} (h:Rx g X t w a cs W) (h2:Hid (Rd g W W')):Ry g X w W':=
 ⟨h2.out.os.trans h.os,h2.out.tape.trans h.tape,h2.out.output.trans h.output,Nat.le_trans h.size h2.out.size,fun k hk h3 h4=>(h2.out.block k (Nat.lt_of_lt_of_le hk h.size) h3).trans (h.block k hk h3 h4)⟩
abbrev recA (r:Rc.Rec):Array Value:=#[.string r.name,.int .i64 r.typ,.int .i64 r.lasts,.int .i64 r.addr,.string r.text,.int .i64 r.port,.string r.target]
abbrev DatP (g X a:Nat) (t nm:ByteArray) (ty la:Int) (w:World) (e:Ending) (w':World):Prop:=
 (∃ r q,datF t a nm ty la=some (r,q)∧q≤t.size∧(r.name=nm∧r.text.size≤1000∧r.target.size≤1000)∧e=.returned (.tuple #[])∧Hid (Rx g X t w q (recA r) w'))∨(datF t a nm ty la=none∧e=outE 1∧Hid (Ry g X w w'))
set_option maxHeartbeats 1600000 in
set_option maxRecDepth 100000 in
theorem rdatb_1 (g X a:Nat) (t nm:ByteArray) (la:Int) (w W:World) (h:Rx g X t w a #[.string nm,.int .i64 1,.int .i64 la,.int .i64 0,.string ⟨#[]⟩,.int .i64 0,.string ⟨#[]⟩] W) (hs:t.size≤1000) (ha:a≤t.size) :
 Calls Tryz.prog 97 #[.pointer (some ⟨g,0,none⟩),.pointer (some ⟨X,0,none⟩)] W (DatP g X a t nm 1 la w):=by
 have HF:Hid (datF t a nm 1 la=if a+4≤t.size then some (⟨nm,1,la,rnum t a 4,⟨#[]⟩,0,⟨#[]⟩⟩,a+4) else none):=if_pos rfl
 have H:Hid (Rx g X t w a #[.string nm,.int .i64 1,.int .i64 la,.int .i64 0,.string ⟨#[]⟩,.int .i64 0,.string ⟨#[]⟩] W):=h
 have HN:Hid (Calls Tryz.prog 59 #[.pointer (some ⟨g,0,none⟩),.int .i64 4] W fun e w'=>Hid (Rd g W w')∧((a+4≤t.size∧e=.returned (.int .i64 (rnum t a 4))∧Hid (IsR g t (a+4) w'))∨(¬ a+4≤t.size∧e=outE 1))):=number_b g a 4 t W h.isR hs ha (by omega)
 have c1:W.cell? ⟨X,1,none⟩=some (.int .i64 1):=h.cell 1
 clear h
 unfold DatP
 generalize datF t a nm 1 la=F at *
 go_enter Tryz.func97,Tryz.ntmps97
 go_wp2_with fail
 refine HN.out.mono ?_
 rintro e w1 ⟨h2,⟨hle,rfl,h1⟩ | ⟨hno,rfl⟩⟩
 rotate_left
 ·exact ⟨rfl,.inr ⟨HF.out.trans (if_neg hno),rfl,H.out.gone h2⟩⟩
 have H1:Hid (Rx g X t w (a+4) #[.string nm,.int .i64 1,.int .i64 la,.int .i64 0,.string ⟨#[]⟩,.int .i64 0,.string ⟨#[]⟩] w1):=H.out.call h1 h2
 have c3:w1.cell? ⟨X,3,none⟩=some (.int .i64 0):=H1.out.cell 3
 have z3:=H1.out.free 3
 have HF1:Hid (F=some (⟨nm,1,la,rnum t a 4,⟨#[]⟩,0,⟨#[]⟩⟩,a+4)):=HF.out.trans (if_pos hle)
 clear h1 h2 HF
 generalize (rnum t a 4:Int)=x at *
 go_wp2_with fail
 simp only [bodyPost,results,Tryz.results97]
 exact ⟨trivial,.tuple #[],by simp,.inl ⟨_,_,HF1.out,hle,⟨rfl,by simp [ByteArray.size],by simp [ByteArray.size]⟩,rfl,H1.out.store 3 (.int .i64 x)⟩⟩
set_option maxHeartbeats 1600000 in
set_option maxRecDepth 100000 in
theorem rdatb_16 (g X a:Nat) (t nm:ByteArray) (la:Int) (w W:World) (h:Rx g X t w a #[.string nm,.int .i64 16,.int .i64 la,.int .i64 0,.string ⟨#[]⟩,.int .i64 0,.string ⟨#[]⟩] W) (hs:t.size≤1000) (ha:a≤t.size) :
 Calls Tryz.prog 97 #[.pointer (some ⟨g,0,none⟩),.pointer (some ⟨X,0,none⟩)] W (DatP g X a t nm 16 la w):=by
 have HF:Hid (datF t a nm 16 la=if a+1+rnum t a 1≤t.size then some (⟨nm,16,la,0,t.extract (a+1) (a+1+rnum t a 1),0,⟨#[]⟩⟩,a+1+rnum t a 1) else none):=rfl
 have H:Hid (Rx g X t w a #[.string nm,.int .i64 16,.int .i64 la,.int .i64 0,.string ⟨#[]⟩,.int .i64 0,.string ⟨#[]⟩] W):=h
 have HN:Hid (Calls Tryz.prog 96 #[.pointer (some ⟨g,0,none⟩)] W fun e w'=>Hid (Rd g W w')∧((a+1+rnum t a 1≤t.size∧e=.returned (.string (t.extract (a+1) (a+1+rnum t a 1)))∧Hid (IsR g t (a+1+rnum t a 1) w'))∨(¬ a+1+rnum t a 1≤t.size∧e=outE 1))):=counted_b g a t W h.isR hs ha
 have hxs:a+1+rnum t a 1≤t.size→(t.extract (a+1) (a+1+rnum t a 1)).size≤1000:=fun hl=>by rw [lwS_ext t a _ hl];omega
 have c1:W.cell? ⟨X,1,none⟩=some (.int .i64 16):=h.cell 1
 clear h
 unfold DatP
 generalize datF t a nm 16 la=F at *
 generalize t.extract (a+1) (a+1+rnum t a 1)=x at *
 generalize rnum t a 1=y at *
 go_enter Tryz.func97,Tryz.ntmps97
 go_wp2_with fail
 refine HN.out.mono ?_
 rintro e w1 ⟨h2,⟨hle,rfl,h1⟩ | ⟨hno,rfl⟩⟩
 rotate_left
 ·exact ⟨rfl,.inr ⟨HF.out.trans (if_neg hno),rfl,H.out.gone h2⟩⟩
 have H1:Hid (Rx g X t w (a+1+y) #[.string nm,.int .i64 16,.int .i64 la,.int .i64 0,.string ⟨#[]⟩,.int .i64 0,.string ⟨#[]⟩] w1):=H.out.call h1 h2
 have HF1:Hid (F=some (⟨nm,16,la,0,x,0,⟨#[]⟩⟩,a+1+y)):=HF.out.trans (if_pos hle)
 have HCL:Hid (∀ W,Calls Tryz.prog 122 #[.string x] W fun e w'=>e=.returned (.string x)∧Below W.heap.size W w'):=fun W=>sclone_any x W (hxs hle)
 have hx1:=hxs hle
 clear h1 h2 HF hxs
 go_wp2_with fail
 refine (HCL.out w1).mono ?_
 rintro e w2 ⟨rfl,hb2⟩
 have H2:Hid (Rx g X t w (a+1+y) #[.string nm,.int .i64 16,.int .i64 la,.int .i64 0,.string ⟨#[]⟩,.int .i64 0,.string ⟨#[]⟩] w2):=H1.out.below hb2
 have c4:w2.cell? ⟨X,4,none⟩=some (.string ⟨#[]⟩):=H2.out.cell 4
 have z4:=H2.out.free 4
 clear hb2
 go_wp2_with fail
 simp only [bodyPost,results,Tryz.results97]
 exact ⟨trivial,.tuple #[],by simp,.inl ⟨_,_,HF1.out,hle,⟨rfl,hx1,by simp [ByteArray.size]⟩,rfl,H2.out.store 4 (.string x)⟩⟩
set_option maxHeartbeats 1600000 in
set_option maxRecDepth 100000 in
theorem rdatb_33 (g X a:Nat) (t nm:ByteArray) (la:Int) (w W:World) (h:Rx g X t w a #[.string nm,.int .i64 33,.int .i64 la,.int .i64 0,.string ⟨#[]⟩,.int .i64 0,.string ⟨#[]⟩] W) (hs:t.size≤1000) (ha:a≤t.size) :
 Calls Tryz.prog 97 #[.pointer (some ⟨g,0,none⟩),.pointer (some ⟨X,0,none⟩)] W (DatP g X a t nm 33 la w):=by
 have HF:Hid (datF t a nm 33 la=if a+2≤t.size∧(rnum t a 2:Int)=0 then
  if a+2+2≤t.size∧(rnum t (a+2) 2:Int)=0 then
   if a+2+2+2≤t.size then (tgF t (a+2+2+2)).map fun x=>(⟨nm,33,la,0,⟨#[]⟩,rnum t (a+2+2) 2,x.1⟩,x.2) else none
  else none
  else none):=rfl
 have H:Hid (Rx g X t w a #[.string nm,.int .i64 33,.int .i64 la,.int .i64 0,.string ⟨#[]⟩,.int .i64 0,.string ⟨#[]⟩] W):=h
 have c1:W.cell? ⟨X,1,none⟩=some (.int .i64 33):=h.cell 1
 clear h
 unfold DatP
 generalize datF t a nm 33 la=F at *
 go_enter Tryz.func97,Tryz.ntmps97
 go_wp2_with fail
 refine (expect_b g a 2 0 t W H.out.isR hs ha (by omega)).mono ?_
 rintro e w1 ⟨h2,⟨hle,rfl,h1⟩ | ⟨hno,rfl⟩⟩
 rotate_left
 ·exact ⟨rfl,.inr ⟨HF.out.trans (if_neg hno),rfl,H.out.gone h2⟩⟩
 have H1:Hid (Rx g X t w (a+2) #[.string nm,.int .i64 33,.int .i64 la,.int .i64 0,.string ⟨#[]⟩,.int .i64 0,.string ⟨#[]⟩] w1):=H.out.call h1 h2
 have HF1:Hid _:=HF.out.trans (if_pos hle)
 have hl1:=hle.1
 clear h1 h2 HF hle
 go_wp2_with fail
 refine (expect_b g (a+2) 2 0 t w1 H1.out.isR hs hl1 (by omega)).mono ?_
 rintro e w2 ⟨h2,⟨hle,rfl,h1⟩ | ⟨hno,rfl⟩⟩
 rotate_left
 ·exact ⟨rfl,.inr ⟨HF1.out.trans (if_neg hno),rfl,H1.out.gone h2⟩⟩
 have H2:Hid (Rx g X t w (a+2+2) #[.string nm,.int .i64 33,.int .i64 la,.int .i64 0,.string ⟨#[]⟩,.int .i64 0,.string ⟨#[]⟩] w2):=H1.out.call h1 h2
 have HF2:Hid _:=HF1.out.trans (if_pos hle)
 have hl2:=hle.1
 clear h1 h2 HF1 hle
 go_wp2_with fail
 refine (number_b g (a+2+2) 2 t w2 H2.out.isR hs hl2 (by omega)).mono ?_
 rintro e w3 ⟨h2,⟨hle,rfl,h1⟩ | ⟨hno,rfl⟩⟩
 rotate_left
 ·exact ⟨rfl,.inr ⟨HF2.out.trans (if_neg hno),rfl,H2.out.gone h2⟩⟩
 have H3:Hid (Rx g X t w (a+2+2+2) #[.string nm,.int .i64 33,.int .i64 la,.int .i64 0,.string ⟨#[]⟩,.int .i64 0,.string ⟨#[]⟩] w3):=H2.out.call h1 h2
 have HF3:Hid (F=(tgF t (a+2+2+2)).map fun x=>(⟨nm,33,la,0,⟨#[]⟩,rnum t (a+2+2) 2,x.1⟩,x.2)):=HF2.out.trans (if_pos hle)
 have c5:w3.cell? ⟨X,5,none⟩=some (.int .i64 0):=H3.out.cell 5
 have z5:=H3.out.free 5
 clear h1 h2 HF2
 generalize (rnum t (a+2+2) 2:Int)=po at *
 go_wp2_with fail
 have H4:Hid (Rx g X t w (a+2+2+2) #[.string nm,.int .i64 33,.int .i64 la,.int .i64 0,.string ⟨#[]⟩,.int .i64 po,.string ⟨#[]⟩] (w3.setCell ⟨X,5,none⟩ (.int .i64 po))):=H3.out.store 5 (.int .i64 po)
 refine (name_c g (a+2+2+2) t _ H4.out.isR hs hle).mono ?_
 rintro e w4 ⟨h2,⟨ta,q,h3,h4,h5,rfl,h1⟩ | ⟨h3,rfl⟩⟩
 rotate_left
 ·exact ⟨rfl,.inr ⟨by rw [HF3.out,h3];rfl,rfl,H4.out.gone h2⟩⟩
 have H5:Hid (Rx g X t w q #[.string nm,.int .i64 33,.int .i64 la,.int .i64 0,.string ⟨#[]⟩,.int .i64 po,.string ⟨#[]⟩] w4):=H4.out.call h1 h2
 have HF4:Hid (F=some (⟨nm,33,la,0,⟨#[]⟩,po,ta⟩,q)):=(show _=_ by rw [HF3.out,h3];rfl)
 have c6:w4.cell? ⟨X,6,none⟩=some (.string ⟨#[]⟩):=H5.out.cell 6
 have z6:=H5.out.free 6
 clear h1 h2 h3 HF3 H4 c5 z5
 go_wp2_with fail
 simp only [bodyPost,results,Tryz.results97]
 exact ⟨trivial,.tuple #[],by simp,.inl ⟨_,_,HF4.out,h5,⟨rfl,by simp [ByteArray.size],h4⟩,rfl,H5.out.store 6 (.string ta)⟩⟩
set_option maxHeartbeats 1600000 in
set_option maxRecDepth 100000 in
theorem rdatb_else (g X a:Nat) (t nm:ByteArray) (ty la:Int) (w W:World) (h:Rx g X t w a #[.string nm,.int .i64 ty,.int .i64 la,.int .i64 0,.string ⟨#[]⟩,.int .i64 0,.string ⟨#[]⟩] W) (ha:a≤t.size) (h1:ty≠1) (h2:ty≠16) (h3:ty≠33) :
 Calls Tryz.prog 97 #[.pointer (some ⟨g,0,none⟩),.pointer (some ⟨X,0,none⟩)] W (DatP g X a t nm ty la w):=by
 have HF:Hid (datF t a nm ty la=some (⟨nm,ty,la,0,⟨#[]⟩,0,⟨#[]⟩⟩,a)):=(show _=_ by unfold datF;rw [if_neg h1,if_neg h2,if_neg h3])
 have H:Hid (Rx g X t w a #[.string nm,.int .i64 ty,.int .i64 la,.int .i64 0,.string ⟨#[]⟩,.int .i64 0,.string ⟨#[]⟩] W):=h
 have c1:W.cell? ⟨X,1,none⟩=some (.int .i64 ty):=h.cell 1
 have e1:(ty == 1)=false:=by simpa using h1
 have e2:(ty == 16)=false:=by simpa using h2
 have e3:(ty == 33)=false:=by simpa using h3
 clear h
 unfold DatP
 generalize datF t a nm ty la=F at *
 go_enter Tryz.func97,Tryz.ntmps97
 go_wp2_with fail
 simp only [bodyPost,results,Tryz.results97]
 exact ⟨trivial,.tuple #[],by simp,.inl ⟨_,_,HF.out,ha,⟨rfl,by simp [ByteArray.size],by simp [ByteArray.size]⟩,rfl,H.out⟩⟩
theorem rdat_b (g X a:Nat) (t nm:ByteArray) (ty la:Int) (w W:World) (h:Rx g X t w a #[.string nm,.int .i64 ty,.int .i64 la,.int .i64 0,.string ⟨#[]⟩,.int .i64 0,.string ⟨#[]⟩] W) (hs:t.size≤1000) (ha:a≤t.size) :
 Calls Tryz.prog 97 #[.pointer (some ⟨g,0,none⟩),.pointer (some ⟨X,0,none⟩)] W (DatP g X a t nm ty la w):=by
 by_cases h1:ty=1
 ·subst h1;exact rdatb_1 g X a t nm la w W h hs ha
 by_cases h2:ty=16
 ·subst h2;exact rdatb_16 g X a t nm la w W h hs ha
 by_cases h3:ty=33
 ·subst h3;exact rdatb_33 g X a t nm la w W h hs ha
 exact rdatb_else g X a t nm ty la w W h ha h1 h2 h3
theorem IsR.put {g a b:Nat} {t:ByteArray} {W:World} (h:IsR g t a W) (i:Nat) (v:Value) (hb:b≠g):IsR g t a (W.setCell ⟨b,i,none⟩ v):=
 ⟨(World.cell?_setCell_other _ _ _ _ (by intro e;simp at e)).trans h.c0,(World.cell?_setCell_other _ _ _ _ (by intro e;simp at e)).trans h.c1,by simpa using h.hz,by simpa using h.hg⟩
def recH (t:ByteArray) (p:Nat) (o:Option (Rc.Rec × Nat)):Option (Rc.Rec × Nat):=
 match o with
 | none=>none
 | some (r,q)=>if (q:Int) - ((p+2+2+4+2:Nat):Int)=(rnum t (p+2+2+4) 2:Int) then some (r,q) else none
def recG (t nm:ByteArray) (p:Nat):Option (Rc.Rec × Nat):=
 if p+2≤t.size then
  if p+2+2≤t.size∧(rnum t (p+2) 2:Int)=1 then
   if p+2+2+4≤t.size then
    if p+2+2+4+2≤t.size then recH t p (datF t (p+2+2+4+2) nm (rnum t p 2) (rnum t (p+2+2) 4)) else none
   else none
  else none
 else none
def recF (t:ByteArray) (a:Nat):Option (Rc.Rec × Nat):=
 match tgF t a with
 | none=>none
 | some (nm,p)=>recG t nm p
theorem Ry.rd {g X:Nat} {w wq W:World} (h:Ry g X wq W) (hx:w.Extends wq) (hX:w.heap.size≤X):Rd g w W:=
 ⟨h.os.trans hx.os,h.tape.trans hx.tape,h.output.trans hx.output,Nat.le_trans hx.size h.size,fun k hk hg=>(h.block k (Nat.lt_of_lt_of_le hk hx.size) hg (by omega)).trans (hx.block k hk)⟩
set_option maxHeartbeats 1600000 in
set_option maxRecDepth 100000 in
theorem rrec_b (g a:Nat) (t:ByteArray) (w:World) (h:IsR g t a w) (hs:t.size≤1000) (ha:a≤t.size) :
 Calls Tryz.prog 63 #[.pointer (some ⟨g,0,none⟩)] w fun e w'=>Hid (Rd g w w')∧((∃ r q,recF t a=some (r,q)∧q≤t.size∧r.ok∧e=.returned (recV r)∧Hid (IsR g t q w'))∨(recF t a=none∧e=outE 1)):=by
 have HI:Hid (IsR g t a w):=h
 have hg:=h.hg
 have HF:Hid (recF t a=match tgF t a with | none=>none | some (nm,p)=>recG t nm p):=rfl
 clear h
 generalize recF t a=F at *
 go_enter Tryz.func63,Tryz.ntmps63
 go_wp2_with fail
 obtain ⟨wq,hwq⟩:∃ wq,wq=w.alloc (.cells #[.string ⟨#[]⟩,.int .i64 0,.int .i64 0,.int .i64 0,.string ⟨#[]⟩,.int .i64 0,.string ⟨#[]⟩] 59):=⟨_,rfl⟩
 have hnq:wq.heap.size=w.heap.size+1:=by rw [hwq];simp
 have hxq:w.Extends wq:=by rw [hwq];exact (World.Extends.refl w).alloc _
 have hgq:wq.heap[w.heap.size]?=some (.cells #[.string ⟨#[]⟩,.int .i64 0,.int .i64 0,.int .i64 0,.string ⟨#[]⟩,.int .i64 0,.string ⟨#[]⟩] 59 (0,0)):=by rw [hwq];exact heap_alloc_new w _
 rw [← hwq]
 clear hwq
 have HXQ:Hid (w.Extends wq):=hxq
 have HGQ:Hid (wq.heap[w.heap.size]?=some (.cells #[.string ⟨#[]⟩,.int .i64 0,.int .i64 0,.int .i64 0,.string ⟨#[]⟩,.int .i64 0,.string ⟨#[]⟩] 59 (0,0))):=hgq
 have H0:Hid (Rx g (w.heap.size+1) t wq a #[.string ⟨#[]⟩,.int .i64 0,.int .i64 0,.int .i64 0,.string ⟨#[]⟩,.int .i64 0,.string ⟨#[]⟩] (wq.alloc (.cells #[.string ⟨#[]⟩,.int .i64 0,.int .i64 0,.int .i64 0,.string ⟨#[]⟩,.int .i64 0,.string ⟨#[]⟩] 59))):=(show Rx _ _ _ _ _ _ _ by
  have hx:wq.Extends (wq.alloc (.cells #[.string ⟨#[]⟩,.int .i64 0,.int .i64 0,.int .i64 0,.string ⟨#[]⟩,.int .i64 0,.string ⟨#[]⟩] 59)):=(World.Extends.refl wq).alloc _
  have hn:=heap_alloc_new wq (.cells #[.string ⟨#[]⟩,.int .i64 0,.int .i64 0,.int .i64 0,.string ⟨#[]⟩,.int .i64 0,.string ⟨#[]⟩] 59)
  rw [hnq] at hn
  exact ⟨(HI.out.ext hxq).ext hx,hn,rfl,rfl,rfl,hx.size,fun k hk _ _=>hx.block k hk,by omega⟩)
 clear hxq hgq
 refine (name_c g a t _ H0.out.isR hs ha).mono ?_
 rintro e w1 ⟨h2,⟨nm,p,h3,h4,h5,rfl,h1⟩ | ⟨h3,rfl⟩⟩
 rotate_left
 ·exact ⟨rfl,(H0.out.gone h2).rd HXQ.out (by omega),.inr ⟨by rw [HF.out,h3],rfl⟩⟩
 have HF1:Hid (F=recG t nm p):=(show _=_ by rw [HF.out,h3])
 have HF2:Hid (F=if p+2≤t.size then
  if p+2+2≤t.size∧(rnum t (p+2) 2:Int)=1 then
   if p+2+2+4≤t.size then
    if p+2+2+4+2≤t.size then recH t p (datF t (p+2+2+4+2) nm (rnum t p 2) (rnum t (p+2+2) 4)) else none
   else none
  else none
  else none):=HF1
 have H1:Hid (Rx g (w.heap.size+1) t wq p #[.string ⟨#[]⟩,.int .i64 0,.int .i64 0,.int .i64 0,.string ⟨#[]⟩,.int .i64 0,.string ⟨#[]⟩] w1):=H0.out.call h1 h2
 have c0:w1.cell? ⟨w.heap.size+1,0,none⟩=some (.string ⟨#[]⟩):=H1.out.cell 0
 have z0:=H1.out.free 0
 clear h1 h2 h3 H0 HF HF1
 go_wp2_with fail
 have H2:Hid (Rx g (w.heap.size+1) t wq p #[.string nm,.int .i64 0,.int .i64 0,.int .i64 0,.string ⟨#[]⟩,.int .i64 0,.string ⟨#[]⟩] (w1.setCell ⟨w.heap.size+1,0,none⟩ (.string nm))):=H1.out.store 0 (.string nm)
 refine (number_b g p 2 t _ H2.out.isR hs h5 (by omega)).mono ?_
 rintro e w2 ⟨h2,⟨hle,rfl,h1⟩ | ⟨hno,rfl⟩⟩
 rotate_left
 ·exact ⟨rfl,(H2.out.gone h2).rd HXQ.out (by omega),.inr ⟨HF2.out.trans (if_neg hno),rfl⟩⟩
 have HF3:Hid (F=if p+2+2≤t.size∧(rnum t (p+2) 2:Int)=1 then
  if p+2+2+4≤t.size then
   if p+2+2+4+2≤t.size then recH t p (datF t (p+2+2+4+2) nm (rnum t p 2) (rnum t (p+2+2) 4)) else none
  else none
  else none):=HF2.out.trans (if_pos hle)
 have H3:Hid (Rx g (w.heap.size+1) t wq (p+2) #[.string nm,.int .i64 0,.int .i64 0,.int .i64 0,.string ⟨#[]⟩,.int .i64 0,.string ⟨#[]⟩] w2):=H2.out.call h1 h2
 have c1:w2.cell? ⟨w.heap.size+1,1,none⟩=some (.int .i64 0):=H3.out.cell 1
 have z1:=H3.out.free 1
 clear h1 h2 H1 H2 c0 z0 HF2
 generalize (rnum t p 2:Int)=ty at *
 go_wp2_with fail
 have H4:Hid (Rx g (w.heap.size+1) t wq (p+2) #[.string nm,.int .i64 ty,.int .i64 0,.int .i64 0,.string ⟨#[]⟩,.int .i64 0,.string ⟨#[]⟩] (w2.setCell ⟨w.heap.size+1,1,none⟩ (.int .i64 ty))):=H3.out.store 1 (.int .i64 ty)
 refine (expect_b g (p+2) 2 1 t _ H4.out.isR hs hle (by omega)).mono ?_
 rintro e w3 ⟨h2,⟨hle2,rfl,h1⟩ | ⟨hno,rfl⟩⟩
 rotate_left
 ·exact ⟨rfl,(H4.out.gone h2).rd HXQ.out (by omega),.inr ⟨HF3.out.trans (if_neg hno),rfl⟩⟩
 have HF4:Hid (F=if p+2+2+4≤t.size then
  if p+2+2+4+2≤t.size then recH t p (datF t (p+2+2+4+2) nm ty (rnum t (p+2+2) 4)) else none
  else none):=HF3.out.trans (if_pos hle2)
 have H5:Hid (Rx g (w.heap.size+1) t wq (p+2+2) #[.string nm,.int .i64 ty,.int .i64 0,.int .i64 0,.string ⟨#[]⟩,.int .i64 0,.string ⟨#[]⟩] w3):=H4.out.call h1 h2
 have hle3:=hle2.1
 clear h1 h2 H3 H4 c1 z1 HF3 hle2
 go_wp2_with fail
 refine (number_b g (p+2+2) 4 t _ H5.out.isR hs hle3 (by omega)).mono ?_
 rintro e w4 ⟨h2,⟨hle4,rfl,h1⟩ | ⟨hno,rfl⟩⟩
 rotate_left
 ·exact ⟨rfl,(H5.out.gone h2).rd HXQ.out (by omega),.inr ⟨HF4.out.trans (if_neg hno),rfl⟩⟩
 have HF5:Hid (F=if p+2+2+4+2≤t.size then recH t p (datF t (p+2+2+4+2) nm ty (rnum t (p+2+2) 4)) else none):=HF4.out.trans (if_pos hle4)
 have H6:Hid (Rx g (w.heap.size+1) t wq (p+2+2+4) #[.string nm,.int .i64 ty,.int .i64 0,.int .i64 0,.string ⟨#[]⟩,.int .i64 0,.string ⟨#[]⟩] w4):=H5.out.call h1 h2
 have c2:w4.cell? ⟨w.heap.size+1,2,none⟩=some (.int .i64 0):=H6.out.cell 2
 have z2:=H6.out.free 2
 clear h1 h2 H5 HF4
 generalize (rnum t (p+2+2) 4:Int)=la at *
 go_wp2_with fail
 have H7:Hid (Rx g (w.heap.size+1) t wq (p+2+2+4) #[.string nm,.int .i64 ty,.int .i64 la,.int .i64 0,.string ⟨#[]⟩,.int .i64 0,.string ⟨#[]⟩] (w4.setCell ⟨w.heap.size+1,2,none⟩ (.int .i64 la))):=H6.out.store 2 (.int .i64 la)
 refine (number_b g (p+2+2+4) 2 t _ H7.out.isR hs hle4 (by omega)).mono ?_
 rintro e w5 ⟨h2,⟨hle5,rfl,h1⟩ | ⟨hno,rfl⟩⟩
 rotate_left
 ·exact ⟨rfl,(H7.out.gone h2).rd HXQ.out (by omega),.inr ⟨HF5.out.trans (if_neg hno),rfl⟩⟩
 have HF6:Hid (F=recH t p (datF t (p+2+2+4+2) nm ty la)):=HF5.out.trans (if_pos hle5)
 have H8:Hid (Rx g (w.heap.size+1) t wq (p+2+2+4+2) #[.string nm,.int .i64 ty,.int .i64 la,.int .i64 0,.string ⟨#[]⟩,.int .i64 0,.string ⟨#[]⟩] w5):=H7.out.call h1 h2
 clear h1 h2 H6 H7 c2 z2 HF5
 have HRH:Hid (∀ r q,recH t p (some (r,q))=if (q:Int) - ((p+2+2+4+2:Nat):Int)=(rnum t (p+2+2+4) 2:Int) then some (r,q) else none):=fun r q=>rfl
 have HRN:Hid (recH t p none=none):=rfl
 generalize (rnum t (p+2+2+4) 2:Int)=sz at *
 generalize hB:p+2+2+4+2=B at *
 clear hB
 have ca:w5.cell? ⟨g,1,none⟩=some (.int .i64 (B:Int)):=H8.out.isR.c1
 go_wp2_with fail
 refine (rdat_b g (w.heap.size+1) B t nm ty la wq w5 H8.out hs hle5).mono ?_
 rintro e w9 (⟨r,q,h3,hq,⟨k1,k2,k3⟩,rfl,H9⟩ | ⟨h3,rfl,h9⟩)
 rotate_left
 ·exact ⟨rfl,h9.out.rd HXQ.out (by omega),.inr ⟨by rw [HF6.out,h3,HRN.out],rfl⟩⟩
 have HF7:Hid (F=if (q:Int) - (B:Int)=sz then some (r,q) else none):=(show _=_ by rw [HF6.out,h3,HRH.out])
 have hrok:r.ok:=⟨by rw [k1];unfold maxLen;omega,by unfold maxLen;omega,by unfold maxLen;omega⟩
 have HQ9:Hid (w9.heap[w.heap.size]?=some (.cells #[.string ⟨#[]⟩,.int .i64 0,.int .i64 0,.int .i64 0,.string ⟨#[]⟩,.int .i64 0,.string ⟨#[]⟩] 59 (0,0))):=(H9.out.block _ (by omega) (by omega) (by omega)).trans HGQ.out
 have cb:w9.cell? ⟨g,1,none⟩=some (.int .i64 (q:Int)):=H9.out.isR.c1
 clear H8 ca HF6 h3 HRH HRN k1 k2 k3
 have HROK:Hid r.ok:=hrok
 clear hrok
 have m0:w9.cell? ⟨w.heap.size+1,0,none⟩=some (.string r.name):=H9.out.cell 0
 have q0:w9.cell? ⟨w.heap.size,0,none⟩=some (.string ⟨#[]⟩):=cellsAt HQ9.out 0
 have y0:w9.frozen? ⟨w.heap.size,0,none⟩=false:=by simp [World.frozen?,HQ9.out]
 have m1:w9.cell? ⟨w.heap.size+1,1,none⟩=some (.int .i64 r.typ):=H9.out.cell 1
 have q1:w9.cell? ⟨w.heap.size,1,none⟩=some (.int .i64 0):=cellsAt HQ9.out 1
 have y1:w9.frozen? ⟨w.heap.size,1,none⟩=false:=by simp [World.frozen?,HQ9.out]
 have m2:w9.cell? ⟨w.heap.size+1,2,none⟩=some (.int .i64 r.lasts):=H9.out.cell 2
 have q2:w9.cell? ⟨w.heap.size,2,none⟩=some (.int .i64 0):=cellsAt HQ9.out 2
 have y2:w9.frozen? ⟨w.heap.size,2,none⟩=false:=by simp [World.frozen?,HQ9.out]
 have m3:w9.cell? ⟨w.heap.size+1,3,none⟩=some (.int .i64 r.addr):=H9.out.cell 3
 have q3:w9.cell? ⟨w.heap.size,3,none⟩=some (.int .i64 0):=cellsAt HQ9.out 3
 have y3:w9.frozen? ⟨w.heap.size,3,none⟩=false:=by simp [World.frozen?,HQ9.out]
 have m4:w9.cell? ⟨w.heap.size+1,4,none⟩=some (.string r.text):=H9.out.cell 4
 have q4:w9.cell? ⟨w.heap.size,4,none⟩=some (.string ⟨#[]⟩):=cellsAt HQ9.out 4
 have y4:w9.frozen? ⟨w.heap.size,4,none⟩=false:=by simp [World.frozen?,HQ9.out]
 have m5:w9.cell? ⟨w.heap.size+1,5,none⟩=some (.int .i64 r.port):=H9.out.cell 5
 have q5:w9.cell? ⟨w.heap.size,5,none⟩=some (.int .i64 0):=cellsAt HQ9.out 5
 have y5:w9.frozen? ⟨w.heap.size,5,none⟩=false:=by simp [World.frozen?,HQ9.out]
 have m6:w9.cell? ⟨w.heap.size+1,6,none⟩=some (.string r.target):=H9.out.cell 6
 have q6:w9.cell? ⟨w.heap.size,6,none⟩=some (.string ⟨#[]⟩):=cellsAt HQ9.out 6
 have y6:w9.frozen? ⟨w.heap.size,6,none⟩=false:=by simp [World.frozen?,HQ9.out]
 have hwr:IntKind.i64.wrap ((q:Int) - (B:Int))=(q:Int) - (B:Int):=by rw [IntKind.wrap_i64];omega
 by_cases hsz:(q:Int) - (B:Int)=sz
 ·have hbq:((q:Int) - (B:Int) == sz)=true:=by simpa using hsz
  have HF8:Hid (F=some (r,q)):=HF7.out.trans (if_pos hsz)
  clear hsz HF7
  go_wp2_with fail
  refine (need_ok _ _).mono ?_
  rintro e w10 ⟨rfl,hw10⟩
  subst hw10
  go_wp2_with fail
  refine bodyPost_ret (v:=recV r) ?_ rfl ⟨?_,.inl ⟨r,q,HF8.out,hq,HROK.out,rfl,?_⟩⟩
  ·simp [results,Tryz.results63,go_sem,q0,q1,q2,q3,q4,q5,q6]
  ·have hrd:Rd g w w10:=H9.out.ry.rd HXQ.out (by omega)
   exact (((((((hrd.put 0 _ (Nat.le_refl _)).put 1 _ (Nat.le_refl _)).put 2 _ (Nat.le_refl _)).put 3 _ (Nat.le_refl _)).put 4 _ (Nat.le_refl _)).put 5 _ (Nat.le_refl _)).put 6 _ (Nat.le_refl _))
  ·exact ((((((((H9.out.isR).put 0 _ (by omega)).put 1 _ (by omega)).put 2 _ (by omega)).put 3 _ (by omega)).put 4 _ (by omega)).put 5 _ (by omega)).put 6 _ (by omega))
 ·have hbq:((q:Int) - (B:Int) == sz)=false:=by simpa using hsz
  have HF8:Hid (F=none):=HF7.out.trans (if_neg hsz)
  clear hsz HF7
  go_wp2_with fail
  refine (need_no _ _).mono ?_
  rintro e w10 ⟨rfl,hw10⟩
  subst hw10
  exact ⟨rfl,H9.out.ry.rd HXQ.out (by omega),.inr ⟨HF8.out,rfl⟩⟩
set_option maxHeartbeats 800000 in
set_option maxRecDepth 100000 in
theorem write1_any (g n:Nat) (E id code typ:Int) (ans cut:Bool) (name:ByteArray) (pa:Option Addr) (cap:Nat) (w:World) (hg:w.heap[g]?=some (.cells #[.int .i64 id,.bool ans,.bool cut,.int .i64 code,.string name,.int .i64 typ,.slice pa n cap] 38 (0,0)))
 (hc:Calls Tryz.prog 22 #[.agg #[.int .i64 id,.bool ans,.bool cut,.int .i64 code,.string name,.int .i64 typ,.slice pa n cap]] w fun r w'=>r=outE E∧Below w.heap.size w w') :
 Calls Tryz.prog 21 #[.pointer (some ⟨g,0,none⟩)] w fun r w'=>r=outE E∧Below w.heap.size w w':=by
 have HC:Hid (Calls Tryz.prog 22 #[.agg #[.int .i64 id,.bool ans,.bool cut,.int .i64 code,.string name,.int .i64 typ,.slice pa n cap]] w fun r w'=>r=outE E∧Below w.heap.size w w'):=hc
 have c0:w.cell? ⟨g,0,none⟩=some (.int .i64 id):=cellsAt hg 0
 have c1:w.cell? ⟨g,1,none⟩=some (.bool ans):=cellsAt hg 1
 have c2:w.cell? ⟨g,2,none⟩=some (.bool cut):=cellsAt hg 2
 have c3:w.cell? ⟨g,3,none⟩=some (.int .i64 code):=cellsAt hg 3
 have c4:w.cell? ⟨g,4,none⟩=some (.string name):=cellsAt hg 4
 have c5:w.cell? ⟨g,5,none⟩=some (.int .i64 typ):=cellsAt hg 5
 have c6:w.cell? ⟨g,6,none⟩=some (.slice pa n cap):=cellsAt hg 6
 clear hc hg
 go_enter Tryz.func21,Tryz.ntmps21
 go_wp2_with fail
 refine HC.out.mono ?_
 rintro e w1 ⟨rfl,hb1⟩
 have HB1:Hid (Below w.heap.size w w1):=hb1
 clear hb1
 by_cases h0:E=0
 ·subst h0
  rw [outE_0]
  go_wp2_with fail
  simp [bodyPost,results,Tryz.results21]
  exact ⟨rfl,HB1.out⟩
 ·rw [outE_ne h0]
  exact ⟨rfl,(outE_ne h0).symm,HB1.out⟩
theorem attempt_any (f:Nat) (caps:Array Value) (E:Int) (w:World) (ef:∀ args W,(callFunc f args).run Tryz.prog W=.ok (.enter f args) W)
 (hc:Calls Tryz.prog f caps (w.alloc (.cells #[.int .i64 0] 29)) fun r w'=>r=outE E∧Below (w.heap.size+1) (w.alloc (.cells #[.int .i64 0] 29)) w') :
 Calls Tryz.prog 20 #[.func (.func f) #[] caps] w fun r w'=>r=.returned (.int .i64 E)∧Below w.heap.size w w':=by
 have hge:(w.alloc (.cells #[.int .i64 0] 29)).heap[w.heap.size]?=some (.cells #[.int .i64 0] 29 (0,0)):=heap_alloc_new w _
 by_cases h0:E=0
 ·subst h0
  refine (attempt_ok f caps w (fun W=>Below (w.heap.size+1) (w.alloc (.cells #[.int .i64 0] 29)) W) ef (hc.mono ?_)).mono ?_
  ·rintro r w' ⟨rfl,hb⟩
   have hk:w'.heap[w.heap.size]?=some (.cells #[.int .i64 0] 29 (0,0)):=(hb.block _ (by omega)).trans hge
   exact ⟨rfl,hb,cellsAt hk 0,by simp [World.frozen?,hk],(Array.getElem?_eq_some_iff.1 hk).1⟩
  ·rintro r w' ⟨rfl,w1,hR,_,rfl⟩
   exact ⟨rfl,(((Below.refl _ _).alloc (Nat.le_refl _) _).trans (hR.mono (by omega))).setCell (p:=⟨w.heap.size,0,none⟩) (Nat.le_refl _) _⟩
 ·refine (attempt_no f caps E w (fun W=>Below (w.heap.size+1) (w.alloc (.cells #[.int .i64 0] 29)) W) ef (hc.mono ?_)).mono ?_
  ·rintro r w' ⟨rfl,hb⟩
   have hk:w'.heap[w.heap.size]?=some (.cells #[.int .i64 0] 29 (0,0)):=(hb.block _ (by omega)).trans hge
   exact ⟨outE_ne h0,hb,cellsAt hk 0,by simp [World.frozen?,hk],(Array.getElem?_eq_some_iff.1 hk).1⟩
  ·rintro r w' ⟨rfl,w1,hR,_,hb⟩
   exact ⟨rfl,(((Below.refl _ _).alloc (Nat.le_refl _) _).trans (hR.mono (by omega))).trans hb⟩
def wrE (id code typ:Int) (ans cut:Bool) (name:ByteArray) (rs:List Rc.Rec):Int:=if chkMsg id code typ name rs=0 then (if 512 < (wallL id code typ ans cut name rs).length then 2 else 0) else chkMsg id code typ name rs
def wrT (id code typ:Int) (ans cut:Bool) (name:ByteArray) (rs:List Rc.Rec):ByteArray:=if chkMsg id code typ name rs=0 then (if 512 < (wallL id code typ ans cut name rs).length then ⟨#[]⟩ else ⟨(wallL id code typ ans cut name rs).toArray⟩) else ⟨#[]⟩
theorem row_below {w W:World} {b off:Nat} {rs:List Rc.Rec} (h:Rc.Row w b off rs) (hW:Below w.heap.size w W) (hb:b < w.heap.size):Rc.Row W b off rs:=fun j hj=>by
 obtain ⟨c0,c1,c2,c3,c4,c5,c6⟩:=h j hj
 exact ⟨(hW.cell (p:=⟨b,off+j * 7,none⟩) hb).trans c0,(hW.cell (p:=⟨b,off+j * 7+1,none⟩) hb).trans c1,(hW.cell (p:=⟨b,off+j * 7+2,none⟩) hb).trans c2,(hW.cell (p:=⟨b,off+j * 7+3,none⟩) hb).trans c3,(hW.cell (p:=⟨b,off+j * 7+4,none⟩) hb).trans c4,(hW.cell (p:=⟨b,off+j * 7+5,none⟩) hb).trans c5,(hW.cell (p:=⟨b,off+j * 7+6,none⟩) hb).trans c6⟩
set_option maxHeartbeats 1600000 in
set_option maxRecDepth 100000 in
theorem write_any (id code typ:Int) (ans cut:Bool) (name:ByteArray) (rs:List Rc.Rec) (v:Value) (w:World) (hm:ML w) (hs:name.size≤maxLen) (hv:Rc.Sl w v rs) :
 Calls Tryz.prog 10 #[.agg #[.int .i64 id,.bool ans,.bool cut,.int .i64 code,.string name,.int .i64 typ,v]] w fun e w'=>e=.returned (.tuple #[.string (wrT id code typ ans cut name rs),.int .i64 (wrE id code typ ans cut name rs)])∧Below w.heap.size w w':=by
 have HSL:Hid (Rc.Sl w v rs):=hv
 obtain ⟨pa,cap,rfl,hok,hrow⟩:=hv
 have HROW:Hid (∀ W,Below w.heap.size w W→rs=[]∨∃ b off,pa=some ⟨b,off,none⟩∧b < W.heap.size∧Rc.Row W b off rs):=fun W hW=>by
  rcases hrow with h | ⟨b,off,h1,h2,h3⟩
  ·exact .inl h
  ·exact .inr ⟨b,off,h1,Nat.lt_of_lt_of_le h2 hW.size,row_below h3 hW h2⟩
 have HWR:Hid (chkMsg id code typ name rs=0→∀ W,Below w.heap.size w W→Calls Tryz.prog 23 #[.agg #[.int .i64 id,.bool ans,.bool cut,.int .i64 code,.string name,.int .i64 typ,.slice pa rs.length cap]] W fun e w'=>e=.returned (.string ⟨(wallL id code typ ans cut name rs).toArray⟩)∧Below W.heap.size W w'):=fun hc W hW=>by
  obtain ⟨f1,f2,f3⟩:=chkMsg_facts hc
  exact written_any id code typ ans cut name rs pa cap W (hm.below hW) f2 f1 f3 (fun W2 hW2=>HROW.out W2 (hW.trans (hW2.mono hW.size)))
 have HC:Hid (∀ W,Below w.heap.size w W→Calls Tryz.prog 22 #[.agg #[.int .i64 id,.bool ans,.bool cut,.int .i64 code,.string name,.int .i64 typ,.slice pa rs.length cap]] W fun r w'=>r=outE (chkMsg id code typ name rs)∧Below W.heap.size W w'):=fun W hW=>dcheck_any id code typ ans cut name rs _ W hs (HSL.out.below hW)
 have hWL:(⟨(wallL id code typ ans cut name rs).toArray⟩:ByteArray).size=(wallL id code typ ans cut name rs).length:=by simp [ByteArray.size]
 have ef:∀ args W,(callFunc 21 args).run Tryz.prog W=.ok (.enter 21 args) W:=enters_of Tryz.func21 (by kernel_rfl) rfl
 have HR1:Hid (chkMsg id code typ name rs=0→¬ 512 < (⟨(wallL id code typ ans cut name rs).toArray⟩:ByteArray).size→wrT id code typ ans cut name rs=⟨(wallL id code typ ans cut name rs).toArray⟩∧wrE id code typ ans cut name rs=0):=fun h1 h2=>by
  rw [hWL] at h2
  unfold wrT wrE
  rw [if_pos h1,if_pos h1,if_neg h2,if_neg h2]
  exact ⟨rfl,rfl⟩
 have HR2:Hid (chkMsg id code typ name rs=0→512 < (⟨(wallL id code typ ans cut name rs).toArray⟩:ByteArray).size→wrT id code typ ans cut name rs=⟨#[]⟩∧wrE id code typ ans cut name rs=2):=fun h1 h2=>by
  rw [hWL] at h2
  unfold wrT wrE
  rw [if_pos h1,if_pos h1,if_pos h2,if_pos h2]
  exact ⟨rfl,rfl⟩
 have HR3:Hid (chkMsg id code typ name rs≠0→wrT id code typ ans cut name rs=⟨#[]⟩∧wrE id code typ ans cut name rs=chkMsg id code typ name rs):=fun h1=>by
  unfold wrT wrE
  rw [if_neg h1,if_neg h1]
  exact ⟨rfl,rfl⟩
 clear hm hs hok hrow HROW HSL hWL
 generalize chkMsg id code typ name rs=E at *
 generalize (⟨(wallL id code typ ans cut name rs).toArray⟩:ByteArray)=T at *
 generalize wrT id code typ ans cut name rs=RT at *
 generalize wrE id code typ ans cut name rs=RE at *
 generalize rs.length=n at *
 go_enter Tryz.func10,Tryz.ntmps10
 go_wp2_with fail
 obtain ⟨w0,hw0⟩:∃ w0,w0=w.alloc (.cells #[.int .i64 id,.bool ans,.bool cut,.int .i64 code,.string name,.int .i64 typ,.slice pa n cap] 38):=⟨_,rfl⟩
 rw [← hw0]
 have hg0:w0.heap[w.heap.size]?=some (.cells #[.int .i64 id,.bool ans,.bool cut,.int .i64 code,.string name,.int .i64 typ,.slice pa n cap] 38 (0,0)):=by rw [hw0];exact heap_alloc_new w _
 have HB0:Hid (Below w.heap.size w w0):=(show Below _ _ _ by rw [hw0];exact (Below.refl _ _).alloc (Nat.le_refl _) _)
 have hl0:w.heap.size < w0.heap.size:=(Array.getElem?_eq_some_iff.1 hg0).1
 clear hw0
 have HAT:Hid (Calls Tryz.prog 20 #[.func (.func 21) #[] #[.pointer (some ⟨w.heap.size,0,none⟩)]] w0 fun r w'=>r=.returned (.int .i64 E)∧Below w0.heap.size w0 w'):=(show Calls _ _ _ _ _ by
  refine attempt_any 21 #[.pointer (some ⟨w.heap.size,0,none⟩)] E w0 ef ?_
  have h:=write1_any w.heap.size n E id code typ ans cut name pa cap (w0.alloc (.cells #[.int .i64 0] 29)) ((Lib.alloc_old w0 _ _ hl0).trans hg0) (HC.out _ (HB0.out.alloc (Nat.le_of_lt hl0) _))
  simpa using h)
 have HCB:Hid (∀ W,Below w0.heap.size w0 W→W.heap[w.heap.size]?=some (.cells #[.int .i64 id,.bool ans,.bool cut,.int .i64 code,.string name,.int .i64 typ,.slice pa n cap] 38 (0,0))):=fun W hW=>(hW.block _ hl0).trans hg0
 clear hg0 ef HC
 refine HAT.out.mono ?_
 rintro e w1 ⟨rfl,hb1⟩
 have HB1:Hid (Below w.heap.size w w1):=HB0.out.trans (hb1.mono (Nat.le_of_lt hl0))
 have hg1:=HCB.out w1 hb1
 have c0:w1.cell? ⟨w.heap.size,0,none⟩=some (.int .i64 id):=cellsAt hg1 0
 have c1:w1.cell? ⟨w.heap.size,1,none⟩=some (.bool ans):=cellsAt hg1 1
 have c2:w1.cell? ⟨w.heap.size,2,none⟩=some (.bool cut):=cellsAt hg1 2
 have c3:w1.cell? ⟨w.heap.size,3,none⟩=some (.int .i64 code):=cellsAt hg1 3
 have c4:w1.cell? ⟨w.heap.size,4,none⟩=some (.string name):=cellsAt hg1 4
 have c5:w1.cell? ⟨w.heap.size,5,none⟩=some (.int .i64 typ):=cellsAt hg1 5
 have c6:w1.cell? ⟨w.heap.size,6,none⟩=some (.slice pa n cap):=cellsAt hg1 6
 clear hb1 hg1 HAT HCB
 by_cases h0:E=0
 ·have HWR2:=HWR.out h0 w1 HB1.out
  have HWR3:Hid (Calls Tryz.prog 23 #[.agg #[.int .i64 id,.bool ans,.bool cut,.int .i64 code,.string name,.int .i64 typ,.slice pa n cap]] w1 fun e w'=>e=.returned (.string T)∧Below w1.heap.size w1 w'):=HWR2
  clear HWR2
  have h1:(E != 0)=false:=by simpa using h0
  have H1:=HR1.out h0
  have H2:=HR2.out h0
  subst h0
  clear h1 HR1 HR2 HR3
  have K1:Hid (¬ 512 < T.size→RT=T∧RE=0):=H1
  have K2:Hid (512 < T.size→RT=⟨#[]⟩∧RE=2):=H2
  clear H1 H2
  go_wp2_with fail
  refine HWR3.out.mono ?_
  rintro e w2 ⟨rfl,hb2⟩
  have HB2:Hid (Below w.heap.size w w2):=HB1.out.trans (hb2.mono HB1.out.size)
  clear hb2
  by_cases hT:512 < T.size
  ·obtain ⟨e1,e2⟩:=K2.out hT
   have hcmp:decide (512 < (T.size:Int))=true:=by simp;omega
   go_wp2_with fail
   go_ret2
   exact ⟨by rw [e1,e2];rfl,HB2.out⟩
  ·obtain ⟨e1,e2⟩:=K1.out hT
   have hcmp:decide (512 < (T.size:Int))=false:=by simp;omega
   go_wp2_with fail
   go_ret2
   exact ⟨by rw [e1,e2];rfl,HB2.out⟩
 ·have h1:(E != 0)=true:=by simpa using h0
  have K3:Hid (RT=⟨#[]⟩∧RE=E):=HR3.out h0
  go_wp2_with fail
  go_ret2
  exact ⟨by rw [K3.out.1,K3.out.2];rfl,HB1.out⟩
def headB (id code typ:Int) (ans cut:Bool) (name:ByteArray) (n:Nat):ByteArray:=
 numB id 2++numB (flg ans cut) 1++numB code 1++numB 1 2++numB n 2++numB 0 4++nmB name++numB typ 2++numB 1 2
def datB (r:Rc.Rec):ByteArray:=
 if r.typ=1 then numB r.addr 4
 else if r.typ=16 then numB r.text.size 1++r.text
 else if r.typ=33 then numB 0 4++numB r.port 2++nmB r.target
 else ⟨#[]⟩
def recB (r:Rc.Rec):ByteArray:=nmB r.name++numB r.typ 2++numB 1 2++numB r.lasts 4++numB (datB r).size 2++datB r
theorem zero4:nbl 0 4=nbl 0 2++nbl 0 2:=by kernel_rfl
theorem headB_is (id code typ:Int) (ans cut:Bool) (name:ByteArray) (n:Nat):headB id code typ ans cut name n=⟨(wheadL id code typ ans cut name n).toArray⟩:=by
 apply ba_ext
 simp [headB,numB,nmB,wheadL,zero4]
theorem datB_is (r:Rc.Rec):datB r=⟨(wdatL r).toArray⟩:=by
 unfold datB wdatL
 split
 ·rfl
 split
 ·apply ba_ext;simp [numB]
 split
 ·apply ba_ext;simp [numB,nmB,zero4]
 ·rfl
theorem recB_is (r:Rc.Rec):recB r=⟨(wrecL r).toArray⟩:=by
 have h:(⟨(wdatL r).toArray⟩:ByteArray).size=(wdatL r).length:=by simp [ByteArray.size]
 apply ba_ext
 unfold recB wrecL
 rw [datB_is,h]
 simp [numB,nmB]
def recsB (rs:List Rc.Rec):ByteArray:=⟨(rs.flatMap wrecL).toArray⟩
theorem recsB_step (B:ByteArray) (rs:List Rc.Rec) (k:Nat) (h:k < rs.length):(B++recsB (rs.take k))++recB (rs.getD k Rc.dm)=B++recsB (rs.take (k+1)):=by
 have e:(rs.take (k+1)).flatMap wrecL=(rs.take k).flatMap wrecL++wrecL rs[k]:=by
  rw [List.take_succ_eq_append_getElem h,List.flatMap_append]
  simp
 apply ba_ext
 rw [recB_is]
 unfold recsB
 rw [e]
 simp [List.getD,h]
theorem allB_is (id code typ:Int) (ans cut:Bool) (name:ByteArray) (rs:List Rc.Rec):headB id code typ ans cut name rs.length++recsB rs=⟨(wallL id code typ ans cut name rs).toArray⟩:=by
 apply ba_ext
 rw [headB_is]
 simp [recsB,wallL]
theorem msgFacts {id code typ:Int} {name:ByteArray} {rs:List Rc.Rec} (h:chkMsg id code typ name rs=0):(0≤id∧id≤65535)∧(0≤code∧code≤15)∧(0≤typ∧typ≤33):=by
 unfold chkMsg at h
 split at h
 ·omega
 rename_i h1
 split at h
 ·omega
 split at h
 ·omega
 split at h
 ·omega
 rename_i h4
 have h1':(within id 0 65535 && within code 0 15)=true:=by simpa using h1
 have h4':typB typ=true:=by simpa using h4
 simp only [within,Bool.and_eq_true,decide_eq_true_eq] at h1'
 simp only [typB,Bool.or_eq_true,decide_eq_true_eq] at h4'
 exact ⟨h1'.1,h1'.2,by omega,by omega⟩
theorem recFacts {r:Rc.Rec} (h:chkRec r=0):(0≤r.lasts∧r.lasts≤2147483647)∧(0≤r.addr∧r.addr≤4294967295)∧(0≤r.port∧r.port≤65535):=by
 unfold chkRec at h
 split at h
 ·omega
 split at h
 ·omega
 split at h
 ·omega
 rename_i h3
 split at h
 ·omega
 split at h
 ·omega
 rename_i h5
 have h3':within r.lasts 0 2147483647=true:=by simpa using h3
 have h5':(within r.addr 0 4294967295 && within r.port 0 65535)=true:=by simpa using h5
 simp only [within,Bool.and_eq_true,decide_eq_true_eq] at h3' h5'
 exact ⟨h3',h5'.1,h5'.2⟩
theorem app_nil (b:ByteArray):b++recsB []=b:=by
 apply ba_ext
 simp [recsB]
theorem nmB_size {s:ByteArray} (h:chkN s=0):(nmB s).size≤249:=by
 have h1:=wname_len h
 rw [wname_cells,Lib.byteCells_length] at h1
 have:(nmB s).size=(wnameL s).length:=by simp [nmB,ByteArray.size]
 omega
def fitB (id code typ:Int) (ans cut:Bool) (name:ByteArray) (rs:List Rc.Rec) (n:Nat):List UInt8:=wallL id code typ ans (cut || decide (n < rs.length)) name (rs.take n)
def fitN (f:Nat→List UInt8) (size:Int):Nat→Option (List UInt8)
 | 0=>if ((f 0).length:Int)≤size then some (f 0) else none
 | k+1=>if ((f (k+1)).length:Int)≤size then some (f (k+1)) else fitN f size k
def fitE (id code typ:Int) (ans cut:Bool) (name:ByteArray) (rs:List Rc.Rec) (size:Int):Int:=
 if within size 12 512=false then 3
 else if chkMsg id code typ name rs=0 then (if (fitN (fitB id code typ ans cut name rs) size rs.length).isSome then 0 else 2)
 else chkMsg id code typ name rs
def fitT (id code typ:Int) (ans cut:Bool) (name:ByteArray) (rs:List Rc.Rec) (size:Int):ByteArray:=
 if within size 12 512=false then ⟨#[]⟩
 else if chkMsg id code typ name rs=0 then ⟨((fitN (fitB id code typ ans cut name rs) size rs.length).getD []).toArray⟩
 else ⟨#[]⟩
theorem fitN_yes {f:Nat→List UInt8} {size:Int}:∀ {n j:Nat},j≤n→(∀ i,j < i→i≤n→size < ((f i).length:Int))→((f j).length:Int)≤size→fitN f size n=some (f j)
 | 0,j,hj,_,h=>by
   obtain rfl:j=0:=by omega
   simp only [fitN,if_pos h]
 | n+1,j,hj,hi,h=>by
   rcases Nat.lt_or_ge n j with h1 | h1
   ·obtain rfl:j=n+1:=by omega
    simp only [fitN,if_pos h]
   ·have h2:=hi (n+1) (by omega) (by omega)
    simp only [fitN]
    rw [if_neg (by omega)]
    exact fitN_yes h1 (fun i h3 h4=>hi i h3 (by omega)) h
theorem fitN_no {f:Nat→List UInt8} {size:Int}:∀ {n:Nat},(∀ i,i≤n→size < ((f i).length:Int))→fitN f size n=none
 | 0,hi=>by
   have h:=hi 0 (by omega)
   simp only [fitN]
   rw [if_neg (by omega)]
 | n+1,hi=>by
   have h:=hi (n+1) (by omega)
   simp only [fitN]
   rw [if_neg (by omega)]
   exact fitN_no (fun i h3=>hi i (by omega))
theorem chkRs_of:∀ {rs:List Rc.Rec},(∀ r∈rs,chkRec r=0)→chkRs rs=0
 | [],_=>rfl
 | x :: t,h=>by
   simp only [chkRs]
   rw [if_pos (h x List.mem_cons_self)]
   exact chkRs_of (fun r hr=>h r (List.mem_cons_of_mem _ hr))
theorem chkMsg_take {id code typ:Int} {name:ByteArray} {rs:List Rc.Rec} (h:chkMsg id code typ name rs=0) (n:Nat):chkMsg id code typ name (rs.take n)=0:=by
 have hf:=chkMsg_facts h
 unfold chkMsg at h ⊢
 split at h
 ·omega
 rename_i h1
 split at h
 ·omega
 split at h
 ·omega
 rename_i h3
 split at h
 ·omega
 rename_i h4
 rw [if_neg h1,if_neg (by rw [List.length_take];omega),if_neg h3,if_neg h4]
 exact chkRs_of (fun r hr=>hf.2.2 r (List.mem_of_mem_take hr))
theorem row_take {w:World} {b off:Nat} {rs:List Rc.Rec} (h:Rc.Row w b off rs) (n:Nat):Rc.Row w b off (rs.take n):=fun j hj=>by
 have h1:j < rs.length:=by rw [List.length_take] at hj;omega
 have h2:(rs.take n).getD j Rc.dm=rs.getD j Rc.dm:=by
  have h3:j < n:=by rw [List.length_take] at hj;omega
  simp [List.getD,h3]
 rw [h2]
 exact h j h1
end Go.Proofs.YtignmeaeibaejaaGreatDoor
