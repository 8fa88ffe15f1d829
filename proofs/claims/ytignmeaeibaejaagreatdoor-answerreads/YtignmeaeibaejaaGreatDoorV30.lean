import Derived.Test.YtignmeaeibaejaaGreatDoorV26
import Derived.Test.YtignmeaeibaejaaGreatDoorV27
import Derived.Test.YtignmeaeibaejaaGreatDoorV25
import Derived.Test.YtignmeaeibaejaaGreatDoorV8
import Derived.Shelf.Strings.Builder1
import Derived.Shelf.Strings.Builder2
import Derived.Shelf.Strings.OnBuilder
import Derived.Shelf.Small.Bits
import Derived.Shelf.Small.Strs
import Derived.Shelf.Small.Wraps
import Derived.Shelf.Utf8.RuneCount
import Derived.Shelf.Strconv.Itoa0
import Derived.Shelf.LaysM
import Derived.Shelf.Strconv.Clone
import Derived.Shelf.Strings.Search1
import Derived.Shelf.Strings.Search2
import Derived.Shelf.Strings.Search3
import Derived.Shelf.Strings.Cut
import Derived.Shelf.Strings.Count
import Derived.Shelf.Strings.Shaped
import Derived.Shelf.Strings.Split
import Derived.Shelf.Strings.SplitShaped
import Derived.Shelf.Unicode.Decode
import Derived.Shelf.Strings.RuneCount
import Derived.Shelf.Strings.Explode
import Derived.Shelf.Unicode.DecodeSlow
import Derived.Shelf.Unicode.DecodeAny
import Derived.Shelf.Slices.Turned
import Derived.Ground.Names2Prog
import Derived.Shelf.Slices.Clone
import Derived.Shelf.Slices.SearchI
import Derived.Ground.SlgnProg
import Derived.Shelf.SlicesE.Clone
import Derived.Ground.SlgfProg
import Derived.Shelf.SlicesE.IndexFunc
import Derived.Shelf.SlicesE.DeleteFunc
import Derived.Ground.SlsfProg
import Derived.Shelf.SlSortCmp.Insertion
import Derived.Shelf.SlSortCmp.SiftDown1
import Derived.Shelf.SlSortCmp.HeapSort1
import Derived.Shelf.SlSortCmp.Insertion1
import Derived.Shelf.SlSortCmp.Median1
import Derived.Shelf.SlSortCmp.Pivot1
import Derived.Shelf.SlSortCmp.ReverseRange1
import Derived.Shelf.SlSortCmp.PartialInsertion1
import Derived.Shelf.SlSortCmp.PartitionEqual1
import Derived.Shelf.SlSortCmp.Partition1
import Derived.Shelf.SlSortCmp.Pdq1
import Derived.Shelf.SlSortCmp.Whole1
import Derived.Shelf.SlSortCmp.NoneTotal
import Derived.Test.YtignmeaeibaejaaGreatDoorProg
import Derived.Test.YtignmeaeibaejaaGreatDoorV28
import Derived.Deep.RegionHeld3
import Derived.StillTactics
import Derived.Test.YtignmeaeibaejaaGreatDoorV29
import Derived.Lib.QuietBelow
namespace Go.Proofs.YtignmeaeibaejaaGreatDoor
open Go.RowKit
def wrecL (r:Rc.Rec):List UInt8:=wnameL r.name++(nbl r.typ 2++(nbl 1 2++(nbl r.lasts 4++(nbl (wdatL r).length 2++wdatL r))))
def wheadL (id code typ:Int) (ans cut:Bool) (name:ByteArray) (n:Nat):List UInt8:=
 nbl id 2++(nbl (flg ans cut) 1++(nbl code 1++(nbl 1 2++(nbl n 2++(nbl 0 2++(nbl 0 2++(wnameL name++(nbl typ 2++nbl 1 2))))))))
def wallL (id code typ:Int) (ans cut:Bool) (name:ByteArray) (rs:List Rc.Rec):List UInt8:=wheadL id code typ ans cut name rs.length++rs.flatMap wrecL
theorem wrec_cells (r:Rc.Rec):wrec r=Lib.byteCells (wrecL r):=by
 unfold wrec wrecL
 rw [wdat_cells]
 simp only [cells_app,nbs_cells,wname_cells,Lib.byteCells_length]
theorem recs_cells:∀ (rs:List Rc.Rec),rs.flatMap wrec=Lib.byteCells (rs.flatMap wrecL)
 | []=>rfl
 | r :: t=>by rw [List.flatMap_cons,List.flatMap_cons,cells_app,wrec_cells,recs_cells t]
theorem wall_cells (id code typ:Int) (ans cut:Bool) (name:ByteArray) (rs:List Rc.Rec):whead id code typ ans cut name rs.length++rs.flatMap wrec=Lib.byteCells (wallL id code typ ans cut name rs):=by
 unfold whead wallL wheadL
 simp only [cells_app,nbs_cells,wname_cells,recs_cells]
theorem wallL_ne (id code typ:Int) (ans cut:Bool) (name:ByteArray) (rs:List Rc.Rec):wallL id code typ ans cut name rs≠[]:=by
 unfold wallL wheadL
 simp [nbl]
theorem chkRs_all:∀ {rs:List Rc.Rec},chkRs rs=0→∀ r∈rs,chkRec r=0
 | [],_,_,h=>by cases h
 | x :: t,h0,r,hr=>by
   unfold chkRs at h0
   split at h0
   ·rename_i h1
    rcases List.mem_cons.1 hr with rfl | hr
    ·exact h1
    ·exact chkRs_all h0 r hr
   ·rename_i h1
    exact absurd h0 h1
theorem chkMsg_facts {id code typ:Int} {name:ByteArray} {rs:List Rc.Rec} (h:chkMsg id code typ name rs=0):rs.length≤20∧chkN name=0∧∀ r∈rs,chkRec r=0:=by
 unfold chkMsg at h
 split at h
 ·omega
 split at h
 ·omega
 rename_i h2
 split at h
 ·omega
 rename_i h3
 split at h
 ·omega
 exact ⟨by omega,by omega,chkRs_all h⟩
set_option maxHeartbeats 1600000 in
set_option maxRecDepth 100000 in
theorem written_any (id code typ:Int) (ans cut:Bool) (name:ByteArray) (rs:List Rc.Rec) (pa:Option Addr) (cap:Nat) (w:World) (hm:ML w) (hn:chkN name=0) (h20:rs.length≤20) (hcs:∀ r∈rs,chkRec r=0)
 (hrow:∀ W,Below w.heap.size w W→rs=[]∨∃ b off,pa=some ⟨b,off,none⟩∧b < W.heap.size∧Rc.Row W b off rs) :
 Calls Tryz.prog 23 #[.agg #[.int .i64 id,.bool ans,.bool cut,.int .i64 code,.string name,.int .i64 typ,.slice pa rs.length cap]] w fun e w'=>e=.returned (.string ⟨(wallL id code typ ans cut name rs).toArray⟩)∧Below w.heap.size w w':=by
 have HMS:Hid (∀ W,ML W→IsW (w.heap.size+1) (w.heap.size+1) [] W→Below w.heap.size w W→w.heap.size+1≤W.heap.size→Calls Tryz.prog 57 #[.pointer (some ⟨w.heap.size+1,0,none⟩),.agg #[.int .i64 id,.bool ans,.bool cut,.int .i64 code,.string name,.int .i64 typ,.slice pa rs.length cap]] W fun e w'=>e=.returned (.tuple #[])∧IsW (w.heap.size+1) (w.heap.size+1) ([]++(whead id code typ ans cut name rs.length++rs.flatMap wrec)) w'∧Kp (w.heap.size+1) (w.heap.size+1) W w'):=fun W h1 h2 h3 h4=>message_any (w.heap.size+1) (w.heap.size+1) [] id code typ ans cut name rs pa cap W h1 h2 (by simp) hn h4 (by omega) h20 hcs (fun W2 hW2=>hrow W2 (h3.trans (hW2.mono (by omega))))
 clear hrow hcs h20 hn
 generalize hln:rs.length=n at *
 have HLN:Hid (rs.length=n):=hln
 clear hln
 go_enter Tryz.func23,Tryz.ntmps23
 go_wp2_with fail
 obtain ⟨w0,hw0⟩:∃ w0,w0=(w.alloc (.cells #[.int .i64 id,.bool ans,.bool cut,.int .i64 code,.string name,.int .i64 typ,.slice pa n cap] 38)).alloc (.cells #[.pointer none,.slice none 0 0] 106):=⟨_,rfl⟩
 rw [← hw0]
 have hsz:w0.heap.size=w.heap.size+2:=by rw [hw0];simp
 have hgb:w0.heap[w.heap.size+1]?=some (.cells #[.pointer none,.slice none 0 0] 106 (0,0)):=by
  have h:=heap_alloc_new (w.alloc (.cells #[.int .i64 id,.bool ans,.bool cut,.int .i64 code,.string name,.int .i64 typ,.slice pa n cap] 38)) (.cells #[.pointer none,.slice none 0 0] 106)
  rw [hw0]
  simpa using h
 have HB0:Hid (Below w.heap.size w w0):=(show Below _ _ _ by rw [hw0];exact ((Below.refl _ _).alloc (Nat.le_refl _) _).alloc (by simp) _)
 have HI0:Hid (IsW (w.heap.size+1) (w.heap.size+1) [] w0):=(show IsW _ _ _ _ from .inl ⟨Nat.le_refl _,.slice none 0 0,hgb,World.ownsRow_nil w0 _ 5 1,by simp [Value.ownBlock]⟩)
 have HM0:Hid (ML w0):=(show ML w0 from hm.below HB0.out)
 clear hw0 hgb hm
 refine (HMS.out w0 HM0.out HI0.out HB0.out (by omega)).mono ?_
 rintro e w1 ⟨rfl,h1,hb1⟩
 have HI1:Hid (IsW (w.heap.size+1) (w.heap.size+1) (Lib.byteCells (wallL id code typ ans cut name rs)) w1):=(show IsW _ _ _ _ by rw [← wall_cells,HLN.out];simpa using h1)
 have HB1:Hid (Below w.heap.size w w1):=HB0.out.trans (hb1.bel.mono (by omega))
 have hz1:=HB1.out.size
 have hz2:=hb1.size
 clear h1 hb1
 go_wp2_with fail
 refine (string_any (w.heap.size+1) (w.heap.size+1) _ w1 HI1.out (wallL_ne _ _ _ _ _ _ _)).mono ?_
 rintro e w2 ⟨rfl,hb2⟩
 have HB2:Hid (Below w.heap.size w w2):=HB1.out.trans (hb2.mono (by omega))
 clear hb2
 go_wp2_with fail
 go_ret
 exact ⟨rfl,HB2.out⟩
def AtW (t:ByteArray) (a:Nat) (l:List UInt8):Prop:=∃ p q,t.data.toList=p++(l++q)∧p.length=a
theorem AtW.left {t:ByteArray} {a:Nat} {l m:List UInt8} (h:AtW t a (l++m)):AtW t a l:=by
 obtain ⟨p,q,h1,h2⟩:=h
 exact ⟨p,m++q,by rw [h1,List.append_assoc],h2⟩
theorem AtW.right {t:ByteArray} {a:Nat} {l m:List UInt8} (h:AtW t a (l++m)):AtW t (a+l.length) m:=by
 obtain ⟨p,q,h1,h2⟩:=h
 exact ⟨p++l,q,by rw [h1];simp,by rw [List.length_append,h2]⟩
theorem AtW.size {t:ByteArray} {a:Nat} {l:List UInt8} (h:AtW t a l):a+l.length≤t.size:=by
 obtain ⟨p,q,h1,h2⟩:=h
 have h3:t.size=t.data.toList.length:=by simp
 rw [h3,h1]
 simp
 omega
theorem AtW.get {t:ByteArray} {a:Nat} {l:List UInt8} (h:AtW t a l) (k:Nat) (hk:k < l.length):t.data[a+k]?=some l[k]:=by
 obtain ⟨p,q,h1,h2⟩:=h
 have h3:t.data[a+k]?=t.data.toList[a+k]?:=by simp
 rw [h3,h1,List.getElem?_append_right (by omega),show a+k - p.length=k by omega,List.getElem?_append_left hk,List.getElem?_eq_getElem hk]
theorem AtW.extract {t l:ByteArray} {a:Nat} (h:AtW t a l.data.toList):t.extract a (a+l.size)=l:=by
 obtain ⟨p,q,h1,h2⟩:=h
 apply ba_ext
 have h3:(t.extract a (a+l.size)).data.toList=(t.data.toList.drop a).take l.size:=by simp
 rw [h3,h1,show (p++(l.data.toList++q)).drop a=l.data.toList++q by rw [← h2];simp]
 have h4:l.size=l.data.toList.length:=by simp
 rw [h4]
 simp
theorem nbl_at (n:Int):∀ (j k:Nat) (h:k < j),(nbl n j)[k]'(by rw [nbl_len];exact h)=(bt n (j - 1 - k)).toNat.toUInt8
 | 0,k,h=>by omega
 | j+1,0,_=>by simp [nbl]
 | j+1,k+1,h=>by
   have ih:=nbl_at n j k (by omega)
   simp only [nbl,List.getElem_cons_succ]
   rw [ih,show j+1 - 1 - (k+1)=j - 1 - k by omega]
theorem rnum_nbl {t:ByteArray} {a:Nat} {n:Int} (h0:0≤n):∀ (k j:Nat),k≤j→AtW t a (nbl n j)→n < 256 ^ j→(rnum t a k:Int)=n / 256 ^ (j - k)
 | 0,j,_,_,hn=>by
   simp only [rnum]
   rw [Int.ediv_eq_zero_of_lt h0 (by simpa using hn)]
   rfl
 | k+1,j,hk,h,hn=>by
   have ih:=rnum_nbl h0 k j (by omega) h hn
   have hg:=h.get k (by rw [nbl_len];omega)
   simp only [rnum,hg,Option.getD_some]
   have hb:((nbl n j)[k]'(by rw [nbl_len];omega))=(bt n (j - 1 - k)).toNat.toUInt8:=nbl_at n j k (by omega)
   rw [hb,Int.natCast_add,Int.natCast_mul,ih]
   have e1:=bt_step (n:=n) (m:=n / 2 ^ (8 * (j - 1 - k))) (j:=j - 1 - k) rfl
   rw [← e1]
   have e2:(2:Int) ^ (8 * (j - 1 - k))=256 ^ (j - (k+1)):=by
    rw [show j - 1 - k=j - (k+1) by omega,Int.pow_mul]
    rfl
   have e3:(256:Int) ^ (j - k)=256 ^ (j - (k+1)) * 256:=by
    rw [show j - k=(j - (k+1))+1 by omega,Int.pow_succ]
   rw [e2,e3,← Int.ediv_ediv_of_nonneg (Int.le_of_lt (Int.pow_pos (by decide)))]
   have:=Int.mul_ediv_add_emod (n / 256 ^ (j - (k+1))) 256
   omega
theorem rnum_is {t:ByteArray} {a:Nat} {n:Int} {k:Nat} (h0:0≤n) (hn:n < 256 ^ k) (h:AtW t a (nbl n k)):(rnum t a k:Int)=n:=by
 have h1:=rnum_nbl h0 k k (Nat.le_refl _) h hn
 rw [h1,Nat.sub_self,Int.pow_zero,Int.ediv_one]
theorem stand_of {t:ByteArray}:∀ (ls:List ByteArray) (a:Nat),(∀ l∈ls,labB l=true)→AtW t a (ls.flatMap wlabL++nbl 0 1)→Stand t a ls∧behind a ls=a+(ls.flatMap wlabL).length
 | [],a,_,h=>by
   have h1:AtW t a (nbl 0 1):=h
   have h2:=h1.size
   have h3:=rnum_is (n:=0) (by decide) (by decide) h1
   rw [nbl_len] at h2
   exact ⟨⟨h2,by omega⟩,rfl⟩
 | l :: r,a,hl,h=>by
   have h30:=lab_size (hl l List.mem_cons_self)
   have h1:AtW t a (nbl l.size 1++(l.data.toList++(r.flatMap wlabL++nbl 0 1))):=by
    have e:(l :: r).flatMap wlabL++nbl 0 1=nbl l.size 1++(l.data.toList++(r.flatMap wlabL++nbl 0 1)):=by simp [wlabL]
    rwa [e] at h
   have h2:=rnum_is (n:=l.size) (by omega) (by omega) h1.left
   have h3:=h1.right
   rw [nbl_len] at h3
   have h4:=h3.left.size
   have h5:l.data.toList.length=l.size:=by simp
   rw [h5] at h4
   have h6:=h3.right
   rw [h5] at h6
   obtain ⟨i1,i2⟩:=stand_of r (a+1+l.size) (fun x hx=>hl x (List.mem_cons_of_mem _ hx)) h6
   refine ⟨⟨by omega,h4,h3.left.extract,i1⟩,?_⟩
   show behind (a+1+l.size) r=_
   rw [i2]
   have h7:(wlabL l).length=1+l.size:=by simp [wlabL,nbl_len]
   rw [List.flatMap_cons,List.length_append,h7]
   omega
theorem labs_ok {s:ByteArray} (h:chkN s=0):(∀ l∈labs s,labB l=true)∧(labs s).length≤8∧s.size≤1000:=by
 refine ⟨?_,(chk_facts h).1,?_⟩
 ·rw [chkN_labs] at h
  split at h
  ·omega
  ·rename_i h1
   have h3:(labs s).all labB=true:=by simpa using h1
   exact fun l hl=>List.all_eq_true.1 h3 l hl
 ·by_cases h0:s.size=0
  ·omega
  ·unfold chkN at h
   rw [if_neg h0] at h
   split at h
   ·omega
   ·split at h<;>omega
theorem labs_join (s:ByteArray):mk (jn ((labs s).map bts))=s:=by
 unfold labs
 split
 ·rename_i h0
  have:=isempty h0
  subst this
  rfl
 ·have e:((spl s.data.toList).map mk).map bts=spl s.data.toList:=by
   rw [List.map_map]
   have:(bts∘mk)=id:=by funext x;exact data_mk x
   rw [this,List.map_id]
  rw [e,jn_spl,mk_data]
theorem rname_any (g a:Nat) (s t:ByteArray) (w:World) (h:IsR g t a w) (hs:t.size≤1000) (hn:chkN s=0) (hat:AtW t a (wnameL s)) :
 Calls Tryz.prog 62 #[.pointer (some ⟨g,0,none⟩)] w fun e w'=>e=.returned (.string s)∧Hid (IsR g t (a+(wnameL s).length) w')∧Hid (Rd g w w'):=by
 obtain ⟨h1,h2,h3⟩:=labs_ok hn
 obtain ⟨i1,i2⟩:=stand_of (labs s) a h1 hat
 have hj:(jn ((labs s).map bts)).length=s.size:=by
  have h4:=congrArg (fun x:ByteArray=>x.size) (labs_join s)
  simp only [mk_size] at h4
  exact h4
 have hw:(wnameL s).length=((labs s).flatMap wlabL).length+1:=by
  unfold wnameL
  rw [List.length_append,nbl_len]
 have h:=name_ok g a (labs s) t w h hs i1 h1 h2 (by omega)
 rw [labs_join,i2] at h
 rw [hw,← Nat.add_assoc]
 exact h
end Go.Proofs.YtignmeaeibaejaaGreatDoor
namespace Go.Proofs
open Go.Shelf
def Tryz.laysM316_ren:Go.Shelf.Ren:=⟨fun | 316=>142 | n=>n,fun | 9=>9 | 3=>3 | 4=>4 | 37=>102 | 0=>0 | 127=>130 | 5=>5 | n=>n,fun | n=>n⟩
theorem Tryz.laysM316:Go.Proofs.LaysM.n316 Tryz.prog Tryz.laysM316_ren:={
 mixed:=by kernel_rfl
 f316:=Tryz.func142.trans (congrArg some (by kernel_rfl))
 t0:=Tryz.underlying0
 a0:=Tryz.isAgg0
 z0:=Tryz.sizeOf0
 v0:=Tryz.zeroValue0
 t3:=Tryz.underlying3
 a3:=Tryz.isAgg3
 z3:=Tryz.sizeOf3
 v3:=Tryz.zeroValue3
 t4:=Tryz.underlying4
 a4:=Tryz.isAgg4
 z4:=Tryz.sizeOf4
 v4:=Tryz.zeroValue4
 t9:=Tryz.underlying9
 a9:=Tryz.isAgg9
 z9:=Tryz.sizeOf9
 v9:=Tryz.zeroValue9
 t37:=Tryz.underlying102
 a37:=Tryz.isAgg102
 z37:=Tryz.sizeOf102
 v37:=Tryz.zeroValue102
 t127:=Tryz.underlying130
 a127:=Tryz.isAgg130
 z127:=Tryz.sizeOf130
 v127:=Tryz.zeroValue130
 t5:=Tryz.underlying5
 a5:=Tryz.isAgg5
 z5:=Tryz.sizeOf5
 v5:=Tryz.zeroValue5
 i0:=by kernel_rfl
 i3:=by kernel_rfl
 i4:=by kernel_rfl
 i5:=by kernel_rfl
 i9:=by kernel_rfl
 i37:=by kernel_rfl
 i127:=by kernel_rfl }
open Go.RowKit in
theorem Tryz.stringslite_Clone (s:ByteArray) (w:World) (hlim:s.size≤281474976710656) :
 Calls Tryz.prog 142 #[.string s] w fun e w'=>e=.returned (.string s)∧Below w.heap.size w w':=Any.stringslite_Clone Tryz.laysM316 s w hlim
end Go.Proofs
namespace Go.Proofs.YtignmeaeibaejaaGreatDoor
open Go.RowKit
structure Rx (g X:Nat) (t:ByteArray) (w:World) (a:Nat) (cs:Array Value) (W:World):Prop where
 isR:IsR g t a W
 bx:W.heap[X]?=some (.cells cs 59 (0,0))
 os:W.os=w.os
 tape:W.tape=w.tape
 output:W.output=w.output
 size:w.heap.size≤W.heap.size
 block:∀ k:Nat,k < w.heap.size→k≠g→k≠X→W.heap[k]?=w.heap[k]?
 ne:g≠X
theorem Rx.call {g X a b:Nat} {t:ByteArray} {w W W':World} {cs:Array Value} (h:Rx g X t w a cs W) (h1:Hid (IsR g t b W')) (h2:Hid (Rd g W W')):Rx g X t w b cs W':=
 ⟨h1.out,(h2.out.block X (Array.getElem?_eq_some_iff.1 h.bx).1 (Ne.symm h.ne)).trans h.bx,h2.out.os.trans h.os,h2.out.tape.trans h.tape,h2.out.output.trans h.output,Nat.le_trans h.size h2.out.size,fun k hk h3 h4=>(h2.out.block k (Nat.lt_of_lt_of_le hk h.size) h3).trans (h.block k hk h3 h4),h.ne⟩
theorem Rx.below {g X a:Nat} {t:ByteArray} {w W W':World} {cs:Array Value} (h:Rx g X t w a cs W) (hb:Below W.heap.size W W'):Rx g X t w a cs W':=
 h.call (h.isR.below hb h.isR.hg) (Rd.of_below hb (Nat.le_refl _):Rd g W W')
theorem Rx.store {g X a:Nat} {t:ByteArray} {w W:World} {cs:Array Value} (h:Rx g X t w a cs W) (i:Nat) (v:Value):Rx g X t w a (cs.setIfInBounds i v) (W.setCell ⟨X,i,none⟩ v) where
 isR:=⟨(World.cell?_setCell_other _ _ _ _ (by have:=h.ne;intro e;simp at e)).trans h.isR.c0,(World.cell?_setCell_other _ _ _ _ (by have:=h.ne;intro e;simp at e)).trans h.isR.c1,by simpa using h.isR.hz,by simpa using h.isR.hg⟩
 bx:=Joins.block_setCell h.bx v
 os:=h.os
 tape:=h.tape
 output:=h.output
 size:=by simpa using h.size
 block:=fun k hk h3 h4=>(Below.heap_setCell W _ v k (by simpa using h4)).trans (h.block k hk h3 h4)
 ne:=h.ne
theorem Rx.cell {g X a:Nat} {t:ByteArray} {w W:World} {cs:Array Value} (h:Rx g X t w a cs W) (i:Nat):W.cell? ⟨X,i,none⟩=cs[i]?:=cellsAt h.bx i
theorem Rx.free {g X a:Nat} {t:ByteArray} {w W:World} {cs:Array Value} (h:Rx g X t w a cs W) (i:Nat):W.frozen? ⟨X,i,none⟩=false:=by simp [World.frozen?,h.bx]
set_option maxHeartbeats 400000 in
theorem sclone_any (s:ByteArray) (w:World) (hs:s.size≤1000) :
 Calls Tryz.prog 122 #[.string s] w fun e w'=>e=.returned (.string s)∧Below w.heap.size w w':=by
 have HC:Hid (Calls Tryz.prog 142 #[.string s] w fun e w'=>e=.returned (.string s)∧Below w.heap.size w w'):=Tryz.stringslite_Clone s w (by omega)
 go_enter Tryz.func122,Tryz.ntmps122
 go_wp2_with fail
 refine HC.out.mono ?_
 rintro e w1 ⟨rfl,hb⟩
 go_wp2_with fail
 go_ret
 exact ⟨rfl,hb⟩
set_option maxHeartbeats 1600000 in
set_option maxRecDepth 100000 in
theorem rdata_1 (g X a:Nat) (t nm:ByteArray) (la ad:Int) (w W:World) (h:Rx g X t w a #[.string nm,.int .i64 1,.int .i64 la,.int .i64 0,.string ⟨#[]⟩,.int .i64 0,.string ⟨#[]⟩] W) (hs:t.size≤1000) (h0:0≤ad) (h1:ad < 256 ^ 4) (hat:AtW t a (nbl ad 4)) :
 Calls Tryz.prog 97 #[.pointer (some ⟨g,0,none⟩),.pointer (some ⟨X,0,none⟩)] W fun e w'=>e=.returned (.tuple #[])∧Rx g X t w (a+4) #[.string nm,.int .i64 1,.int .i64 la,.int .i64 ad,.string ⟨#[]⟩,.int .i64 0,.string ⟨#[]⟩] w':=by
 have hr:=rnum_is h0 h1 hat
 have hsz:=hat.size
 rw [nbl_len] at hsz
 have H:Hid (Rx g X t w a #[.string nm,.int .i64 1,.int .i64 la,.int .i64 0,.string ⟨#[]⟩,.int .i64 0,.string ⟨#[]⟩] W):=h
 have HN:Hid (Calls Tryz.prog 59 #[.pointer (some ⟨g,0,none⟩),.int .i64 4] W fun e w'=>e=.returned (.int .i64 ad)∧Hid (IsR g t (a+4) w')∧Hid (Rd g W w')):=(show Calls _ _ _ _ _ by
  have h:=number_r g a 4 t W H.out.isR hs hsz (by omega)
  rw [hr] at h
  exact h)
 have c1:W.cell? ⟨X,1,none⟩=some (.int .i64 1):=h.cell 1
 clear h hat hr h0 h1
 go_enter Tryz.func97,Tryz.ntmps97
 go_wp2_with fail
 refine HN.out.mono ?_
 rintro e w1 ⟨rfl,h1,h2⟩
 have H1:Hid (Rx g X t w (a+4) #[.string nm,.int .i64 1,.int .i64 la,.int .i64 0,.string ⟨#[]⟩,.int .i64 0,.string ⟨#[]⟩] w1):=H.out.call h1 h2
 have c3:w1.cell? ⟨X,3,none⟩=some (.int .i64 0):=H1.out.cell 3
 have z3:=H1.out.free 3
 clear h1 h2
 go_wp2_with fail
 simp [bodyPost,results,Tryz.results97]
 exact H1.out.store 3 (.int .i64 ad)
set_option maxHeartbeats 1600000 in
set_option maxRecDepth 100000 in
theorem rdata_16 (g X a:Nat) (t nm tx:ByteArray) (la:Int) (w W:World) (h:Rx g X t w a #[.string nm,.int .i64 16,.int .i64 la,.int .i64 0,.string ⟨#[]⟩,.int .i64 0,.string ⟨#[]⟩] W) (hs:t.size≤1000) (htx:tx.size≤200) (hat:AtW t a (nbl tx.size 1++tx.data.toList)) :
 Calls Tryz.prog 97 #[.pointer (some ⟨g,0,none⟩),.pointer (some ⟨X,0,none⟩)] W fun e w'=>e=.returned (.tuple #[])∧Rx g X t w (a+1+tx.size) #[.string nm,.int .i64 16,.int .i64 la,.int .i64 0,.string tx,.int .i64 0,.string ⟨#[]⟩] w':=by
 have hr:=rnum_is (n:=tx.size) (by omega) (by omega) hat.left
 have hsz:=hat.size
 have hl:tx.data.toList.length=tx.size:=by simp
 rw [List.length_append,nbl_len,hl] at hsz
 have hex:t.extract (a+1) (a+1+tx.size)=tx:=by
  have h2:=hat.right
  rw [nbl_len] at h2
  exact h2.extract
 have H:Hid (Rx g X t w a #[.string nm,.int .i64 16,.int .i64 la,.int .i64 0,.string ⟨#[]⟩,.int .i64 0,.string ⟨#[]⟩] W):=h
 have HN:Hid (Calls Tryz.prog 96 #[.pointer (some ⟨g,0,none⟩)] W fun e w'=>e=.returned (.string tx)∧Hid (IsR g t (a+1+tx.size) w')∧Hid (Rd g W w')):=counted_r g a tx.size t tx W h.isR hs (by omega) (by omega) hex
 have HCL:Hid (∀ W,Calls Tryz.prog 122 #[.string tx] W fun e w'=>e=.returned (.string tx)∧Below W.heap.size W w'):=fun W=>sclone_any tx W (by omega)
 have c1:W.cell? ⟨X,1,none⟩=some (.int .i64 16):=h.cell 1
 clear h hat hr hex
 go_enter Tryz.func97,Tryz.ntmps97
 go_wp2_with fail
 refine HN.out.mono ?_
 rintro e w1 ⟨rfl,h1,h2⟩
 have H1:Hid (Rx g X t w (a+1+tx.size) #[.string nm,.int .i64 16,.int .i64 la,.int .i64 0,.string ⟨#[]⟩,.int .i64 0,.string ⟨#[]⟩] w1):=H.out.call h1 h2
 clear h1 h2
 go_wp2_with fail
 refine (HCL.out w1).mono ?_
 rintro e w2 ⟨rfl,hb2⟩
 have H2:Hid (Rx g X t w (a+1+tx.size) #[.string nm,.int .i64 16,.int .i64 la,.int .i64 0,.string ⟨#[]⟩,.int .i64 0,.string ⟨#[]⟩] w2):=H1.out.below hb2
 have c4:w2.cell? ⟨X,4,none⟩=some (.string ⟨#[]⟩):=H2.out.cell 4
 have z4:=H2.out.free 4
 clear hb2
 go_wp2_with fail
 simp [bodyPost,results,Tryz.results97]
 exact H2.out.store 4 (.string tx)
set_option maxHeartbeats 1600000 in
set_option maxRecDepth 100000 in
theorem rdata_33 (g X a:Nat) (t nm ta:ByteArray) (la po:Int) (w W:World) (h:Rx g X t w a #[.string nm,.int .i64 33,.int .i64 la,.int .i64 0,.string ⟨#[]⟩,.int .i64 0,.string ⟨#[]⟩] W) (hs:t.size≤1000) (h0:0≤po) (h1:po < 256 ^ 2) (hn:chkN ta=0) (hat:AtW t a (nbl 0 2++(nbl 0 2++(nbl po 2++wnameL ta)))) :
 Calls Tryz.prog 97 #[.pointer (some ⟨g,0,none⟩),.pointer (some ⟨X,0,none⟩)] W fun e w'=>e=.returned (.tuple #[])∧Rx g X t w (a+6+(wnameL ta).length) #[.string nm,.int .i64 33,.int .i64 la,.int .i64 0,.string ⟨#[]⟩,.int .i64 po,.string ta] w':=by
 have hsz:=hat.size
 simp only [List.length_append,nbl_len] at hsz
 have a1:=hat.left
 have a2:=hat.right
 rw [nbl_len] at a2
 have a3:=a2.left
 have a4:=a2.right
 rw [nbl_len] at a4
 have a5:=a4.left
 have a6:=a4.right
 rw [nbl_len] at a6
 have r1:=rnum_is (n:=0) (by omega) (by omega) a1
 have r2:=rnum_is (n:=0) (by omega) (by omega) a3
 have r3:=rnum_is h0 h1 a5
 have H:Hid (Rx g X t w a #[.string nm,.int .i64 33,.int .i64 la,.int .i64 0,.string ⟨#[]⟩,.int .i64 0,.string ⟨#[]⟩] W):=h
 have R1:Hid (rnum t a 2=0):=(show _=_ by omega)
 have R2:Hid (rnum t (a+2) 2=0):=(show _=_ by omega)
 have R3:Hid ((rnum t (a+2+2) 2:Int)=po):=r3
 have A6:Hid (AtW t (a+2+2+2) (wnameL ta)):=a6
 have c1:W.cell? ⟨X,1,none⟩=some (.int .i64 33):=h.cell 1
 clear h hat a1 a2 a3 a4 a5 a6 r1 r2 r3
 go_enter Tryz.func97,Tryz.ntmps97
 go_wp2_with fail
 refine (expect_r g a 2 0 t W H.out.isR hs (by omega) (by omega) R1.out).mono ?_
 rintro e w1 ⟨rfl,h1,h2⟩
 have H1:Hid (Rx g X t w (a+2) #[.string nm,.int .i64 33,.int .i64 la,.int .i64 0,.string ⟨#[]⟩,.int .i64 0,.string ⟨#[]⟩] w1):=H.out.call h1 h2
 clear h1 h2
 go_wp2_with fail
 refine (expect_r g (a+2) 2 0 t w1 H1.out.isR hs (by omega) (by omega) R2.out).mono ?_
 rintro e w2 ⟨rfl,h1,h2⟩
 have H2:Hid (Rx g X t w (a+2+2) #[.string nm,.int .i64 33,.int .i64 la,.int .i64 0,.string ⟨#[]⟩,.int .i64 0,.string ⟨#[]⟩] w2):=H1.out.call h1 h2
 clear h1 h2
 go_wp2_with fail
 refine (number_r g (a+2+2) 2 t w2 H2.out.isR hs (by omega) (by omega)).mono ?_
 rintro e w3 ⟨rfl,h1,h2⟩
 rw [R3.out]
 have H3:Hid (Rx g X t w (a+2+2+2) #[.string nm,.int .i64 33,.int .i64 la,.int .i64 0,.string ⟨#[]⟩,.int .i64 0,.string ⟨#[]⟩] w3):=H2.out.call h1 h2
 have c5:w3.cell? ⟨X,5,none⟩=some (.int .i64 0):=H3.out.cell 5
 have z5:=H3.out.free 5
 clear h1 h2
 go_wp2_with fail
 have H4:Hid (Rx g X t w (a+2+2+2) #[.string nm,.int .i64 33,.int .i64 la,.int .i64 0,.string ⟨#[]⟩,.int .i64 po,.string ⟨#[]⟩] (w3.setCell ⟨X,5,none⟩ (.int .i64 po))):=H3.out.store 5 (.int .i64 po)
 refine (rname_any g (a+2+2+2) ta t _ H4.out.isR hs hn A6.out).mono ?_
 rintro e w4 ⟨rfl,h1,h2⟩
 have H5:Hid (Rx g X t w (a+2+2+2+(wnameL ta).length) #[.string nm,.int .i64 33,.int .i64 la,.int .i64 0,.string ⟨#[]⟩,.int .i64 po,.string ⟨#[]⟩] w4):=H4.out.call h1 h2
 have c6:w4.cell? ⟨X,6,none⟩=some (.string ⟨#[]⟩):=H5.out.cell 6
 have z6:=H5.out.free 6
 clear h1 h2 H4 c5 z5
 go_wp2_with fail
 simp [bodyPost,results,Tryz.results97]
 exact H5.out.store 6 (.string ta)
def tgF (t:ByteArray) (a:Nat):Option (ByteArray × Nat):=(nmF t a a [] none).map fun x=>(mk (jn (x.1.map bts)),x.2)
theorem name_c (g a:Nat) (t:ByteArray) (w:World) (h:IsR g t a w) (hs:t.size≤1000) (ha:a≤t.size) :
 Calls Tryz.prog 62 #[.pointer (some ⟨g,0,none⟩)] w fun e w'=>Hid (Rd g w w')∧((∃ s q,tgF t a=some (s,q)∧s.size≤1000∧q≤t.size∧e=.returned (.string s)∧Hid (IsR g t q w'))∨(tgF t a=none∧e=outE 1)):=by
 refine (name_b g a t w h hs ha).mono ?_
 rintro e w' ⟨h1,⟨ls,q,h2,⟨h3,h4⟩,h5,h6,h7⟩ | ⟨h2,h3⟩⟩
 ·refine ⟨h1,.inl ⟨_,q,by unfold tgF;rw [h2];rfl,?_,h5,h6,h7⟩⟩
  rw [mk_size]
  have:=jn_len ls h4
  omega
 ·exact ⟨h1,.inr ⟨by unfold tgF;rw [h2];rfl,h3⟩⟩
def datF (t:ByteArray) (a:Nat) (nm:ByteArray) (ty la:Int):Option (Rc.Rec × Nat):=
 if ty=1 then (if a+4≤t.size then some (⟨nm,ty,la,rnum t a 4,⟨#[]⟩,0,⟨#[]⟩⟩,a+4) else none)
 else if ty=16 then (if a+1+rnum t a 1≤t.size then some (⟨nm,ty,la,0,t.extract (a+1) (a+1+rnum t a 1),0,⟨#[]⟩⟩,a+1+rnum t a 1) else none)
 else if ty=33 then
  (if a+2≤t.size∧(rnum t a 2:Int)=0 then
    if a+2+2≤t.size∧(rnum t (a+2) 2:Int)=0 then
     if a+2+2+2≤t.size then (tgF t (a+2+2+2)).map fun x=>(⟨nm,ty,la,0,⟨#[]⟩,rnum t (a+2+2) 2,x.1⟩,x.2) else none
    else none
  else none)
 else some (⟨nm,ty,la,0,⟨#[]⟩,0,⟨#[]⟩⟩,a)
structure Ry (g X:Nat) (w W:World):Prop where
 os:W.os=w.os
 tape:W.tape=w.tape
 output:W.output=w.output
 size:w.heap.size≤W.heap.size
 block:∀ k:Nat,k < w.heap.size→k≠g→k≠X→W.heap[k]?=w.heap[k]?
theorem Rx.ry {g X a:Nat} {t:ByteArray} {w W:World} {cs:Array Value} (h:Rx g X t w a cs W):Ry g X w W:=⟨h.os,h.tape,h.output,h.size,h.block⟩
theorem Rx.gone {g X a:Nat} {t:ByteArray} {w W W':World} {cs:Array Value} (h:Rx g X t w a cs W) (h2:Hid (Rd g W W')):Ry g X w W':=
 ⟨h2.out.os.trans h.os,h2.out.tape.trans h.tape,h2.out.output.trans h.output,Nat.le_trans h.size h2.out.size,fun k hk h3 h4=>(h2.out.block k (Nat.lt_of_lt_of_le hk h.size) h3).trans (h.block k hk h3 h4)⟩
abbrev recA (r:Rc.Rec):Array Value:=#[.string r.name,.int .i64 r.typ,.int .i64 r.lasts,.int .i64 r.addr,.string r.text,.int .i64 r.port,.string r.target]
abbrev DatP (g X a:Nat) (t nm:ByteArray) (ty la:Int) (w:World) (e:Ending) (w':World):Prop:=
 (∃ r q,datF t a nm ty la=some (r,q)∧q≤t.size∧(r.name=nm∧r.text.size≤1000∧r.target.size≤1000)∧e=.returned (.tuple #[])∧Hid (Rx g X t w q (recA r) w'))∨(datF t a nm ty la=none∧e=outE 1∧Hid (Ry g X w w'))
set_option maxHeartbeats 1600000 in
set_option maxRecDepth 100000 in
theorem rdatb_1 (g X a:Nat) (t nm:ByteArray) (la:Int) (w W:World) (h:Rx g X t w a #[.string nm,.int .i64 1,.int .i64 la,.int .i64 0,.string ⟨#[]⟩,.int .i64 0,.string ⟨#[]⟩] W) (hs:t.size≤1000) (ha:a≤t.size) :
 Calls Tryz.prog 97 #[.pointer (some ⟨g,0,none⟩),.pointer (some ⟨X,0,none⟩)] W (DatP g X a t nm 1 la w):=by
 have HF:Hid (datF t a nm 1 la=if a+4≤t.size then some (⟨nm,1,la,rnum t a 4,⟨#[]⟩,0,⟨#[]⟩⟩,a+4) else none):=if_pos rfl
 have H:Hid (Rx g X t w a #[.string nm,.int .i64 1,.int .i64 la,.int .i64 0,.string ⟨#[]⟩,.int .i64 0,.string ⟨#[]⟩] W):=h
 have HN:Hid (Calls Tryz.prog 59 #[.pointer (some ⟨g,0,none⟩),.int .i64 4] W fun e w'=>Hid (Rd g W w')∧((a+4≤t.size∧e=.returned (.int .i64 (rnum t a 4))∧Hid (IsR g t (a+4) w'))∨(¬ a+4≤t.size∧e=outE 1))):=number_b g a 4 t W h.isR hs ha (by omega)
 have c1:W.cell? ⟨X,1,none⟩=some (.int .i64 1):=h.cell 1
 clear h
 unfold DatP
 generalize datF t a nm 1 la=F at *
 go_enter Tryz.func97,Tryz.ntmps97
 go_wp2_with fail
 refine HN.out.mono ?_
 rintro e w1 ⟨h2,⟨hle,rfl,h1⟩ | ⟨hno,rfl⟩⟩
 rotate_left
 ·exact ⟨rfl,.inr ⟨HF.out.trans (if_neg hno),rfl,H.out.gone h2⟩⟩
 have H1:Hid (Rx g X t w (a+4) #[.string nm,.int .i64 1,.int .i64 la,.int .i64 0,.string ⟨#[]⟩,.int .i64 0,.string ⟨#[]⟩] w1):=H.out.call h1 h2
 have c3:w1.cell? ⟨X,3,none⟩=some (.int .i64 0):=H1.out.cell 3
 have z3:=H1.out.free 3
 have HF1:Hid (F=some (⟨nm,1,la,rnum t a 4,⟨#[]⟩,0,⟨#[]⟩⟩,a+4)):=HF.out.trans (if_pos hle)
 clear h1 h2 HF
 generalize (rnum t a 4:Int)=x at *
 go_wp2_with fail
 simp only [bodyPost,results,Tryz.results97]
 exact ⟨trivial,.tuple #[],by simp,.inl ⟨_,_,HF1.out,hle,⟨rfl,by simp [ByteArray.size],by simp [ByteArray.size]⟩,rfl,H1.out.store 3 (.int .i64 x)⟩⟩
set_option maxHeartbeats 1600000 in
set_option maxRecDepth 100000 in
theorem rdatb_16 (g X a:Nat) (t nm:ByteArray) (la:Int) (w W:World) (h:Rx g X t w a #[.string nm,.int .i64 16,.int .i64 la,.int .i64 0,.string ⟨#[]⟩,.int .i64 0,.string ⟨#[]⟩] W) (hs:t.size≤1000) (ha:a≤t.size) :
 Calls Tryz.prog 97 #[.pointer (some ⟨g,0,none⟩),.pointer (some ⟨X,0,none⟩)] W (DatP g X a t nm 16 la w):=by
 have HF:Hid (datF t a nm 16 la=if a+1+rnum t a 1≤t.size then some (⟨nm,16,la,0,t.extract (a+1) (a+1+rnum t a 1),0,⟨#[]⟩⟩,a+1+rnum t a 1) else none):=rfl
 have H:Hid (Rx g X t w a #[.string nm,.int .i64 16,.int .i64 la,.int .i64 0,.string ⟨#[]⟩,.int .i64 0,.string ⟨#[]⟩] W):=h
 have HN:Hid (Calls Tryz.prog 96 #[.pointer (some ⟨g,0,none⟩)] W fun e w'=>Hid (Rd g W w')∧((a+1+rnum t a 1≤t.size∧e=.returned (.string (t.extract (a+1) (a+1+rnum t a 1)))∧Hid (IsR g t (a+1+rnum t a 1) w'))∨(¬ a+1+rnum t a 1≤t.size∧e=outE 1))):=counted_b g a t W h.isR hs ha
 have hxs:a+1+rnum t a 1≤t.size→(t.extract (a+1) (a+1+rnum t a 1)).size≤1000:=fun hl=>by rw [lwS_ext t a _ hl];omega
 have c1:W.cell? ⟨X,1,none⟩=some (.int .i64 16):=h.cell 1
 clear h
 unfold DatP
 generalize datF t a nm 16 la=F at *
 generalize t.extract (a+1) (a+1+rnum t a 1)=x at *
 generalize rnum t a 1=y at *
 go_enter Tryz.func97,Tryz.ntmps97
 go_wp2_with fail
 refine HN.out.mono ?_
 rintro e w1 ⟨h2,⟨hle,rfl,h1⟩ | ⟨hno,rfl⟩⟩
 rotate_left
 ·exact ⟨rfl,.inr ⟨HF.out.trans (if_neg hno),rfl,H.out.gone h2⟩⟩
 have H1:Hid (Rx g X t w (a+1+y) #[.string nm,.int .i64 16,.int .i64 la,.int .i64 0,.string ⟨#[]⟩,.int .i64 0,.string ⟨#[]⟩] w1):=H.out.call h1 h2
 have HF1:Hid (F=some (⟨nm,16,la,0,x,0,⟨#[]⟩⟩,a+1+y)):=HF.out.trans (if_pos hle)
 have HCL:Hid (∀ W,Calls Tryz.prog 122 #[.string x] W fun e w'=>e=.returned (.string x)∧Below W.heap.size W w'):=fun W=>sclone_any x W (hxs hle)
 have hx1:=hxs hle
 clear h1 h2 HF hxs
 go_wp2_with fail
 refine (HCL.out w1).mono ?_
 rintro e w2 ⟨rfl,hb2⟩
 have H2:Hid (Rx g X t w (a+1+y) #[.string nm,.int .i64 16,.int .i64 la,.int .i64 0,.string ⟨#[]⟩,.int .i64 0,.string ⟨#[]⟩] w2):=H1.out.below hb2
 have c4:w2.cell? ⟨X,4,none⟩=some (.string ⟨#[]⟩):=H2.out.cell 4
 have z4:=H2.out.free 4
 clear hb2
 go_wp2_with fail
 simp only [bodyPost,results,Tryz.results97]
 exact ⟨trivial,.tuple #[],by simp,.inl ⟨_,_,HF1.out,hle,⟨rfl,hx1,by simp [ByteArray.size]⟩,rfl,H2.out.store 4 (.string x)⟩⟩
set_option maxHeartbeats 1600000 in
set_option maxRecDepth 100000 in
theorem rdatb_33 (g X a:Nat) (t nm:ByteArray) (la:Int) (w W:World) (h:Rx g X t w a #[.string nm,.int .i64 33,.int .i64 la,.int .i64 0,.string ⟨#[]⟩,.int .i64 0,.string ⟨#[]⟩] W) (hs:t.size≤1000) (ha:a≤t.size) :
 Calls Tryz.prog 97 #[.pointer (some ⟨g,0,none⟩),.pointer (some ⟨X,0,none⟩)] W (DatP g X a t nm 33 la w):=by
 have HF:Hid (datF t a nm 33 la=if a+2≤t.size∧(rnum t a 2:Int)=0 then
  if a+2+2≤t.size∧(rnum t (a+2) 2:Int)=0 then
   if a+2+2+2≤t.size then (tgF t (a+2+2+2)).map fun x=>(⟨nm,33,la,0,⟨#[]⟩,rnum t (a+2+2) 2,x.1⟩,x.2) else none
  else none
  else none):=rfl
 have H:Hid (Rx g X t w a #[.string nm,.int .i64 33,.int .i64 la,.int .i64 0,.string ⟨#[]⟩,.int .i64 0,.string ⟨#[]⟩] W):=h
 have c1:W.cell? ⟨X,1,none⟩=some (.int .i64 33):=h.cell 1
 clear h
 unfold DatP
 generalize datF t a nm 33 la=F at *
 go_enter Tryz.func97,Tryz.ntmps97
 go_wp2_with fail
 refine (expect_b g a 2 0 t W H.out.isR hs ha (by omega)).mono ?_
 rintro e w1 ⟨h2,⟨hle,rfl,h1⟩ | ⟨hno,rfl⟩⟩
 rotate_left
 ·exact ⟨rfl,.inr ⟨HF.out.trans (if_neg hno),rfl,H.out.gone h2⟩⟩
 have H1:Hid (Rx g X t w (a+2) #[.string nm,.int .i64 33,.int .i64 la,.int .i64 0,.string ⟨#[]⟩,.int .i64 0,.string ⟨#[]⟩] w1):=H.out.call h1 h2
 have HF1:Hid _:=HF.out.trans (if_pos hle)
 have hl1:=hle.1
 clear h1 h2 HF hle
 go_wp2_with fail
 refine (expect_b g (a+2) 2 0 t w1 H1.out.isR hs hl1 (by omega)).mono ?_
 rintro e w2 ⟨h2,⟨hle,rfl,h1⟩ | ⟨hno,rfl⟩⟩
 rotate_left
 ·exact ⟨rfl,.inr ⟨HF1.out.trans (if_neg hno),rfl,H1.out.gone h2⟩⟩
 have H2:Hid (Rx g X t w (a+2+2) #[.string nm,.int .i64 33,.int .i64 la,.int .i64 0,.string ⟨#[]⟩,.int .i64 0,.string ⟨#[]⟩] w2):=H1.out.call h1 h2
 have HF2:Hid _:=HF1.out.trans (if_pos hle)
 have hl2:=hle.1
 clear h1 h2 HF1 hle
 go_wp2_with fail
 refine (number_b g (a+2+2) 2 t w2 H2.out.isR hs hl2 (by omega)).mono ?_
 rintro e w3 ⟨h2,⟨hle,rfl,h1⟩ | ⟨hno,rfl⟩⟩
 rotate_left
 ·exact ⟨rfl,.inr ⟨HF2.out.trans (if_neg hno),rfl,H2.out.gone h2⟩⟩
 have H3:Hid (Rx g X t w (a+2+2+2) #[.string nm,.int .i64 33,.int .i64 la,.int .i64 0,.string ⟨#[]⟩,.int .i64 0,.string ⟨#[]⟩] w3):=H2.out.call h1 h2
 have HF3:Hid (F=(tgF t (a+2+2+2)).map fun x=>(⟨nm,33,la,0,⟨#[]⟩,rnum t (a+2+2) 2,x.1⟩,x.2)):=HF2.out.trans (if_pos hle)
 have c5:w3.cell? ⟨X,5,none⟩=some (.int .i64 0):=H3.out.cell 5
 have z5:=H3.out.free 5
 clear h1 h2 HF2
 generalize (rnum t (a+2+2) 2:Int)=po at *
 go_wp2_with fail
 have H4:Hid (Rx g X t w (a+2+2+2) #[.string nm,.int .i64 33,.int .i64 la,.int .i64 0,.string ⟨#[]⟩,.int .i64 po,.string ⟨#[]⟩] (w3.setCell ⟨X,5,none⟩ (.int .i64 po))):=H3.out.store 5 (.int .i64 po)
 refine (name_c g (a+2+2+2) t _ H4.out.isR hs hle).mono ?_
 rintro e w4 ⟨h2,⟨ta,q,h3,h4,h5,rfl,h1⟩ | ⟨h3,rfl⟩⟩
 rotate_left
 ·exact ⟨rfl,.inr ⟨by rw [HF3.out,h3];rfl,rfl,H4.out.gone h2⟩⟩
 have H5:Hid (Rx g X t w q #[.string nm,.int .i64 33,.int .i64 la,.int .i64 0,.string ⟨#[]⟩,.int .i64 po,.string ⟨#[]⟩] w4):=H4.out.call h1 h2
 have HF4:Hid (F=some (⟨nm,33,la,0,⟨#[]⟩,po,ta⟩,q)):=(show _=_ by rw [HF3.out,h3];rfl)
 have c6:w4.cell? ⟨X,6,none⟩=some (.string ⟨#[]⟩):=H5.out.cell 6
 have z6:=H5.out.free 6
 clear h1 h2 h3 HF3 H4 c5 z5
 go_wp2_with fail
 simp only [bodyPost,results,Tryz.results97]
 exact ⟨trivial,.tuple #[],by simp,.inl ⟨_,_,HF4.out,h5,⟨rfl,by simp [ByteArray.size],h4⟩,rfl,H5.out.store 6 (.string ta)⟩⟩
set_option maxHeartbeats 1600000 in
set_option maxRecDepth 100000 in
theorem rdatb_else (g X a:Nat) (t nm:ByteArray) (ty la:Int) (w W:World) (h:Rx g X t w a #[.string nm,.int .i64 ty,.int .i64 la,.int .i64 0,.string ⟨#[]⟩,.int .i64 0,.string ⟨#[]⟩] W) (ha:a≤t.size) (h1:ty≠1) (h2:ty≠16) (h3:ty≠33) :
 Calls Tryz.prog 97 #[.pointer (some ⟨g,0,none⟩),.pointer (some ⟨X,0,none⟩)] W (DatP g X a t nm ty la w):=by
 have HF:Hid (datF t a nm ty la=some (⟨nm,ty,la,0,⟨#[]⟩,0,⟨#[]⟩⟩,a)):=(show _=_ by unfold datF;rw [if_neg h1,if_neg h2,if_neg h3])
 have H:Hid (Rx g X t w a #[.string nm,.int .i64 ty,.int .i64 la,.int .i64 0,.string ⟨#[]⟩,.int .i64 0,.string ⟨#[]⟩] W):=h
 have c1:W.cell? ⟨X,1,none⟩=some (.int .i64 ty):=h.cell 1
 have e1:(ty == 1)=false:=by simpa using h1
 have e2:(ty == 16)=false:=by simpa using h2
 have e3:(ty == 33)=false:=by simpa using h3
 clear h
 unfold DatP
 generalize datF t a nm ty la=F at *
 go_enter Tryz.func97,Tryz.ntmps97
 go_wp2_with fail
 simp only [bodyPost,results,Tryz.results97]
 exact ⟨trivial,.tuple #[],by simp,.inl ⟨_,_,HF.out,ha,⟨rfl,by simp [ByteArray.size],by simp [ByteArray.size]⟩,rfl,H.out⟩⟩
theorem rdat_b (g X a:Nat) (t nm:ByteArray) (ty la:Int) (w W:World) (h:Rx g X t w a #[.string nm,.int .i64 ty,.int .i64 la,.int .i64 0,.string ⟨#[]⟩,.int .i64 0,.string ⟨#[]⟩] W) (hs:t.size≤1000) (ha:a≤t.size) :
 Calls Tryz.prog 97 #[.pointer (some ⟨g,0,none⟩),.pointer (some ⟨X,0,none⟩)] W (DatP g X a t nm ty la w):=by
 by_cases h1:ty=1
 ·subst h1;exact rdatb_1 g X a t nm la w W h hs ha
 by_cases h2:ty=16
 ·subst h2;exact rdatb_16 g X a t nm la w W h hs ha
 by_cases h3:ty=33
 ·subst h3;exact rdatb_33 g X a t nm la w W h hs ha
 exact rdatb_else g X a t nm ty la w W h ha h1 h2 h3
theorem IsR.put {g a b:Nat} {t:ByteArray} {W:World} (h:IsR g t a W) (i:Nat) (v:Value) (hb:b≠g):IsR g t a (W.setCell ⟨b,i,none⟩ v):=
 ⟨(World.cell?_setCell_other _ _ _ _ (by intro e;simp at e)).trans h.c0,(World.cell?_setCell_other _ _ _ _ (by intro e;simp at e)).trans h.c1,by simpa using h.hz,by simpa using h.hg⟩
theorem chkRec_own {r:Rc.Rec} (h:chkRec r=0):ownB r=true:=by
 unfold chkRec at h
 split at h
 ·omega
 split at h
 ·omega
 split at h
 ·omega
 split at h
 ·omega
 rename_i h4
 simpa using h4
theorem recNums {r:Rc.Rec} (h:chkRec r=0):(0≤r.lasts∧r.lasts < 256 ^ 4)∧(0≤r.addr∧r.addr < 256 ^ 4)∧(0≤r.port∧r.port < 256 ^ 2)∧(0≤r.typ∧r.typ < 256 ^ 2):=by
 have h2:=(chkRec_facts h).2.1
 unfold chkRec at h
 split at h
 ·omega
 split at h
 ·omega
 split at h
 ·omega
 rename_i h3
 split at h
 ·omega
 split at h
 ·omega
 rename_i h5
 have h3':within r.lasts 0 2147483647=true:=by simpa using h3
 have h5':(within r.addr 0 4294967295 && within r.port 0 65535)=true:=by simpa using h5
 simp only [within,Bool.and_eq_true,decide_eq_true_eq] at h3' h5'
 simp only [typB,Bool.or_eq_true,decide_eq_true_eq] at h2
 refine ⟨⟨h3'.1,by omega⟩,⟨h5'.1.1,by omega⟩,⟨h5'.2.1,by omega⟩,by omega,by omega⟩
theorem rdata_any (g X a:Nat) (t:ByteArray) (r:Rc.Rec) (w W:World) (h:Rx g X t w a #[.string r.name,.int .i64 r.typ,.int .i64 r.lasts,.int .i64 0,.string ⟨#[]⟩,.int .i64 0,.string ⟨#[]⟩] W) (hs:t.size≤1000) (hc:chkRec r=0) (hat:AtW t a (wdatL r)) :
 Calls Tryz.prog 97 #[.pointer (some ⟨g,0,none⟩),.pointer (some ⟨X,0,none⟩)] W fun e w'=>e=.returned (.tuple #[])∧Rx g X t w (a+(wdatL r).length) #[.string r.name,.int .i64 r.typ,.int .i64 r.lasts,.int .i64 r.addr,.string r.text,.int .i64 r.port,.string r.target] w':=by
 have ho:=chkRec_own hc
 obtain ⟨n1,n2,n3,n4⟩:=chkRec_facts hc
 obtain ⟨_,⟨m3,m4⟩,⟨m5,m6⟩,_⟩:=recNums hc
 obtain ⟨name,typ,lasts,addr,text,port,target⟩:=r
 simp only at *
 have htt:typ=1∨typ=16∨typ=33:=by
  simp only [typB,Bool.or_eq_true,decide_eq_true_eq,or_assoc] at n2
  exact n2
 simp only [ownB,Bool.and_eq_true,Bool.or_eq_true,decide_eq_true_eq] at ho
 obtain ⟨o1,o2,o3⟩:=ho
 have htl:text.data.toList.length=text.size:=by simp
 rcases htt with rfl | rfl | rfl
 ·have e2:=isempty (by omega:text.size=0)
  have e3:port=0:=by omega
  have e4:=isempty (by omega:target.size=0)
  subst e2 e3 e4
  have hw:wdatL ⟨name,1,lasts,addr,⟨#[]⟩,0,⟨#[]⟩⟩=nbl addr 4:=rfl
  rw [hw] at hat ⊢
  rw [nbl_len]
  exact rdata_1 g X a t name lasts addr w W h hs m3 m4 hat
 ·have e1:addr=0:=by omega
  have e3:port=0:=by omega
  have e4:=isempty (by omega:target.size=0)
  subst e1 e3 e4
  have hw:wdatL ⟨name,16,lasts,0,text,0,⟨#[]⟩⟩=nbl text.size 1++text.data.toList:=rfl
  rw [hw] at hat ⊢
  rw [List.length_append,nbl_len,htl,← Nat.add_assoc]
  exact rdata_16 g X a t name text lasts w W h hs n3 hat
 ·have e1:addr=0:=by omega
  have e2:=isempty (by omega:text.size=0)
  subst e1 e2
  have hw:wdatL ⟨name,33,lasts,0,⟨#[]⟩,port,target⟩=nbl 0 2++(nbl 0 2++(nbl port 2++wnameL target)):=rfl
  rw [hw] at hat ⊢
  have hl:a+(nbl 0 2++(nbl 0 2++(nbl port 2++wnameL target))).length=a+6+(wnameL target).length:=by
   simp only [List.length_append,nbl_len];omega
  rw [hl]
  exact rdata_33 g X a t name target lasts port w W h hs m5 m6 n4 hat
set_option maxHeartbeats 1600000 in
set_option maxRecDepth 100000 in
theorem rrec_any (g a:Nat) (r:Rc.Rec) (t:ByteArray) (w:World) (h:IsR g t a w) (hs:t.size≤1000) (hc:chkRec r=0) (hat:AtW t a (wrecL r)) :
 Calls Tryz.prog 63 #[.pointer (some ⟨g,0,none⟩)] w fun e w'=>e=.returned (recV r)∧Hid (IsR g t (a+(wrecL r).length) w')∧Hid (Rd g w w'):=by
 have HI:Hid (IsR g t a w):=h
 have hg:=h.hg
 obtain ⟨n1,n2,n3,n4⟩:=chkRec_facts hc
 obtain ⟨⟨m1,m2⟩,_,_,m7,m8⟩:=recNums hc
 have hdl:=wdat_len n3 n4
 rw [wdat_cells,Lib.byteCells_length] at hdl
 have hsz:=hat.size
 unfold wrecL at hat hsz ⊢
 have a1:=hat.left
 have a2:=hat.right
 have a3:=a2.left
 have a4:=a2.right
 rw [nbl_len] at a4
 have a5:=a4.left
 have a6:=a4.right
 rw [nbl_len] at a6
 have a7:=a6.left
 have a8:=a6.right
 rw [nbl_len] at a8
 have a9:=a8.left
 have a10:=a8.right
 rw [nbl_len] at a10
 have r3:=rnum_is m7 m8 a3
 have r5:=rnum_is (n:=1) (by omega) (by omega) a5
 have r7:=rnum_is m1 m2 a7
 have r9:=rnum_is (n:=(wdatL r).length) (by omega) (by omega) a9
 simp only [List.length_append,nbl_len] at hsz ⊢
 have A1:Hid (AtW t a (wnameL r.name)):=a1
 have R3:Hid ((rnum t (a+(wnameL r.name).length) 2:Int)=r.typ):=r3
 have R5:Hid (rnum t (a+(wnameL r.name).length+2) 2=1):=(show _=_ by omega)
 have R7:Hid ((rnum t (a+(wnameL r.name).length+2+2) 4:Int)=r.lasts):=r7
 have R9:Hid ((rnum t (a+(wnameL r.name).length+2+2+4) 2:Int)=((wdatL r).length:Int)):=r9
 have HDA:Hid (∀ wb X W,Rx g X t wb (a+(wnameL r.name).length+2+2+4+2) #[.string r.name,.int .i64 r.typ,.int .i64 r.lasts,.int .i64 0,.string ⟨#[]⟩,.int .i64 0,.string ⟨#[]⟩] W→Calls Tryz.prog 97 #[.pointer (some ⟨g,0,none⟩),.pointer (some ⟨X,0,none⟩)] W fun e w'=>e=.returned (.tuple #[])∧Rx g X t wb (a+(wnameL r.name).length+2+2+4+2+(wdatL r).length) #[.string r.name,.int .i64 r.typ,.int .i64 r.lasts,.int .i64 r.addr,.string r.text,.int .i64 r.port,.string r.target] w'):=fun wb X W hX=>rdata_any g X _ t r wb W hX hs hc a10
 clear h hat a1 a2 a3 a4 a5 a6 a7 a8 a9 a10 r3 r5 r7 r9 n2 n3 n4 m1 m2 m7 m8 hc
 generalize (wdatL r).length=dn at *
 generalize hnl:(wnameL r.name).length=nl at *
 have HNL:Hid ((wnameL r.name).length=nl):=hnl
 clear hnl
 go_enter Tryz.func63,Tryz.ntmps63
 go_wp2_with fail
 obtain ⟨wq,hwq⟩:∃ wq,wq=w.alloc (.cells #[.string ⟨#[]⟩,.int .i64 0,.int .i64 0,.int .i64 0,.string ⟨#[]⟩,.int .i64 0,.string ⟨#[]⟩] 59):=⟨_,rfl⟩
 have hnq:wq.heap.size=w.heap.size+1:=by rw [hwq];simp
 have hxq:w.Extends wq:=by rw [hwq];exact (World.Extends.refl w).alloc _
 have hgq:wq.heap[w.heap.size]?=some (.cells #[.string ⟨#[]⟩,.int .i64 0,.int .i64 0,.int .i64 0,.string ⟨#[]⟩,.int .i64 0,.string ⟨#[]⟩] 59 (0,0)):=by rw [hwq];exact heap_alloc_new w _
 rw [← hwq]
 clear hwq
 have H0:Hid (Rx g (w.heap.size+1) t wq a #[.string ⟨#[]⟩,.int .i64 0,.int .i64 0,.int .i64 0,.string ⟨#[]⟩,.int .i64 0,.string ⟨#[]⟩] (wq.alloc (.cells #[.string ⟨#[]⟩,.int .i64 0,.int .i64 0,.int .i64 0,.string ⟨#[]⟩,.int .i64 0,.string ⟨#[]⟩] 59))):=(show Rx _ _ _ _ _ _ _ by
  have hx:wq.Extends (wq.alloc (.cells #[.string ⟨#[]⟩,.int .i64 0,.int .i64 0,.int .i64 0,.string ⟨#[]⟩,.int .i64 0,.string ⟨#[]⟩] 59)):=(World.Extends.refl wq).alloc _
  have hn:=heap_alloc_new wq (.cells #[.string ⟨#[]⟩,.int .i64 0,.int .i64 0,.int .i64 0,.string ⟨#[]⟩,.int .i64 0,.string ⟨#[]⟩] 59)
  rw [hnq] at hn
  exact ⟨(HI.out.ext hxq).ext hx,hn,rfl,rfl,rfl,hx.size,fun k hk _ _=>hx.block k hk,by omega⟩)
 refine (rname_any g a r.name t _ H0.out.isR hs n1 A1.out).mono ?_
 rintro e w1 ⟨rfl,h1,h2⟩
 rw [HNL.out] at h1
 have H1:Hid (Rx g (w.heap.size+1) t wq (a+nl) #[.string ⟨#[]⟩,.int .i64 0,.int .i64 0,.int .i64 0,.string ⟨#[]⟩,.int .i64 0,.string ⟨#[]⟩] w1):=H0.out.call h1 h2
 have c0:w1.cell? ⟨w.heap.size+1,0,none⟩=some (.string ⟨#[]⟩):=H1.out.cell 0
 have z0:=H1.out.free 0
 clear h1 h2 H0
 go_wp2_with fail
 have H2:Hid (Rx g (w.heap.size+1) t wq (a+nl) #[.string r.name,.int .i64 0,.int .i64 0,.int .i64 0,.string ⟨#[]⟩,.int .i64 0,.string ⟨#[]⟩] (w1.setCell ⟨w.heap.size+1,0,none⟩ (.string r.name))):=H1.out.store 0 (.string r.name)
 refine (number_r g (a+nl) 2 t _ H2.out.isR hs (by omega) (by omega)).mono ?_
 rintro e w2 ⟨rfl,h1,h2⟩
 rw [R3.out]
 have H3:Hid (Rx g (w.heap.size+1) t wq (a+nl+2) #[.string r.name,.int .i64 0,.int .i64 0,.int .i64 0,.string ⟨#[]⟩,.int .i64 0,.string ⟨#[]⟩] w2):=H2.out.call h1 h2
 have c1:w2.cell? ⟨w.heap.size+1,1,none⟩=some (.int .i64 0):=H3.out.cell 1
 have z1:=H3.out.free 1
 clear h1 h2 H1 H2 c0 z0
 go_wp2_with fail
 have H4:Hid (Rx g (w.heap.size+1) t wq (a+nl+2) #[.string r.name,.int .i64 r.typ,.int .i64 0,.int .i64 0,.string ⟨#[]⟩,.int .i64 0,.string ⟨#[]⟩] (w2.setCell ⟨w.heap.size+1,1,none⟩ (.int .i64 r.typ))):=H3.out.store 1 (.int .i64 r.typ)
 refine (expect_r g (a+nl+2) 2 1 t _ H4.out.isR hs (by omega) (by omega) R5.out).mono ?_
 rintro e w3 ⟨rfl,h1,h2⟩
 have H5:Hid (Rx g (w.heap.size+1) t wq (a+nl+2+2) #[.string r.name,.int .i64 r.typ,.int .i64 0,.int .i64 0,.string ⟨#[]⟩,.int .i64 0,.string ⟨#[]⟩] w3):=H4.out.call h1 h2
 clear h1 h2 H3 H4 c1 z1
 go_wp2_with fail
 refine (number_r g (a+nl+2+2) 4 t _ H5.out.isR hs (by omega) (by omega)).mono ?_
 rintro e w4 ⟨rfl,h1,h2⟩
 rw [R7.out]
 have H6:Hid (Rx g (w.heap.size+1) t wq (a+nl+2+2+4) #[.string r.name,.int .i64 r.typ,.int .i64 0,.int .i64 0,.string ⟨#[]⟩,.int .i64 0,.string ⟨#[]⟩] w4):=H5.out.call h1 h2
 have c2:w4.cell? ⟨w.heap.size+1,2,none⟩=some (.int .i64 0):=H6.out.cell 2
 have z2:=H6.out.free 2
 clear h1 h2 H5
 go_wp2_with fail
 have H7:Hid (Rx g (w.heap.size+1) t wq (a+nl+2+2+4) #[.string r.name,.int .i64 r.typ,.int .i64 r.lasts,.int .i64 0,.string ⟨#[]⟩,.int .i64 0,.string ⟨#[]⟩] (w4.setCell ⟨w.heap.size+1,2,none⟩ (.int .i64 r.lasts))):=H6.out.store 2 (.int .i64 r.lasts)
 refine (number_r g (a+nl+2+2+4) 2 t _ H7.out.isR hs (by omega) (by omega)).mono ?_
 rintro e w5 ⟨rfl,h1,h2⟩
 rw [R9.out]
 have H8:Hid (Rx g (w.heap.size+1) t wq (a+nl+2+2+4+2) #[.string r.name,.int .i64 r.typ,.int .i64 r.lasts,.int .i64 0,.string ⟨#[]⟩,.int .i64 0,.string ⟨#[]⟩] w5):=H7.out.call h1 h2
 have ca:w5.cell? ⟨g,1,none⟩=some (.int .i64 ((a+nl+2+2+4+2:Nat):Int)):=H8.out.isR.c1
 clear h1 h2 H6 H7 c2 z2
 go_wp2_with fail
 refine (HDA.out wq _ w5 H8.out).mono ?_
 rintro e w9 ⟨rfl,h9⟩
 have H9:Hid (Rx g (w.heap.size+1) t wq (a+nl+2+2+4+2+dn) #[.string r.name,.int .i64 r.typ,.int .i64 r.lasts,.int .i64 r.addr,.string r.text,.int .i64 r.port,.string r.target] w9):=h9
 have HQ9:Hid (w9.heap[w.heap.size]?=some (.cells #[.string ⟨#[]⟩,.int .i64 0,.int .i64 0,.int .i64 0,.string ⟨#[]⟩,.int .i64 0,.string ⟨#[]⟩] 59 (0,0))):=(h9.block _ (by omega) (by omega) (by omega)).trans hgq
 have cb:w9.cell? ⟨g,1,none⟩=some (.int .i64 ((a+nl+2+2+4+2+dn:Nat):Int)):=h9.isR.c1
 clear h9 H8 ca
 have m0:w9.cell? ⟨w.heap.size+1,0,none⟩=some (.string r.name):=H9.out.cell 0
 have q0:w9.cell? ⟨w.heap.size,0,none⟩=some (.string ⟨#[]⟩):=cellsAt HQ9.out 0
 have y0:w9.frozen? ⟨w.heap.size,0,none⟩=false:=by simp [World.frozen?,HQ9.out]
 have m1:w9.cell? ⟨w.heap.size+1,1,none⟩=some (.int .i64 r.typ):=H9.out.cell 1
 have q1:w9.cell? ⟨w.heap.size,1,none⟩=some (.int .i64 0):=cellsAt HQ9.out 1
 have y1:w9.frozen? ⟨w.heap.size,1,none⟩=false:=by simp [World.frozen?,HQ9.out]
 have m2:w9.cell? ⟨w.heap.size+1,2,none⟩=some (.int .i64 r.lasts):=H9.out.cell 2
 have q2:w9.cell? ⟨w.heap.size,2,none⟩=some (.int .i64 0):=cellsAt HQ9.out 2
 have y2:w9.frozen? ⟨w.heap.size,2,none⟩=false:=by simp [World.frozen?,HQ9.out]
 have m3:w9.cell? ⟨w.heap.size+1,3,none⟩=some (.int .i64 r.addr):=H9.out.cell 3
 have q3:w9.cell? ⟨w.heap.size,3,none⟩=some (.int .i64 0):=cellsAt HQ9.out 3
 have y3:w9.frozen? ⟨w.heap.size,3,none⟩=false:=by simp [World.frozen?,HQ9.out]
 have m4:w9.cell? ⟨w.heap.size+1,4,none⟩=some (.string r.text):=H9.out.cell 4
 have q4:w9.cell? ⟨w.heap.size,4,none⟩=some (.string ⟨#[]⟩):=cellsAt HQ9.out 4
 have y4:w9.frozen? ⟨w.heap.size,4,none⟩=false:=by simp [World.frozen?,HQ9.out]
 have m5:w9.cell? ⟨w.heap.size+1,5,none⟩=some (.int .i64 r.port):=H9.out.cell 5
 have q5:w9.cell? ⟨w.heap.size,5,none⟩=some (.int .i64 0):=cellsAt HQ9.out 5
 have y5:w9.frozen? ⟨w.heap.size,5,none⟩=false:=by simp [World.frozen?,HQ9.out]
 have m6:w9.cell? ⟨w.heap.size+1,6,none⟩=some (.string r.target):=H9.out.cell 6
 have q6:w9.cell? ⟨w.heap.size,6,none⟩=some (.string ⟨#[]⟩):=cellsAt HQ9.out 6
 have y6:w9.frozen? ⟨w.heap.size,6,none⟩=false:=by simp [World.frozen?,HQ9.out]
 have hsub:((a+nl+2+2+4+2+dn:Nat):Int) - ((a+nl+2+2+4+2:Nat):Int)=(dn:Int):=by omega
 have hwr:IntKind.i64.wrap (((a+nl+2+2+4+2+dn:Nat):Int) - ((a+nl+2+2+4+2:Nat):Int))=(dn:Int):=by rw [hsub,IntKind.wrap_i64];omega
 have hbq:((a:Int)+(nl:Int)+2+2+4+2+(dn:Int) - ((a:Int)+(nl:Int)+2+2+4+2) == (dn:Int))=true:=by rw [beq_iff_eq];omega
 have HBQ:Hid (((a:Int)+(nl:Int)+2+2+4+2+(dn:Int) - ((a:Int)+(nl:Int)+2+2+4+2) == (dn:Int))=true):=hbq
 clear hbq hsub hwr
 go_wp2_with fail
 rw [HBQ.out]
 refine (need_ok _ _).mono ?_
 rintro e w10 ⟨rfl,hw10⟩
 subst hw10
 go_wp2_with fail
 refine bodyPost_ret (v:=recV r) ?_ rfl ⟨rfl,?_,?_⟩
 ·simp [results,Tryz.results63,go_sem,q0,q1,q2,q3,q4,q5,q6]
 ·have he:a+(nl+(2+(2+(4+(2+dn)))))=a+nl+2+2+4+2+dn:=by omega
  rw [he]
  exact ((((((((H9.out.isR).put 0 _ (by omega)).put 1 _ (by omega)).put 2 _ (by omega)).put 3 _ (by omega)).put 4 _ (by omega)).put 5 _ (by omega)).put 6 _ (by omega))
 ·have hrd:Rd g w w10:=⟨H9.out.os.trans hxq.os,H9.out.tape.trans hxq.tape,H9.out.output.trans hxq.output,by have:=H9.out.size;omega,fun k hk hkg=>(H9.out.block k (by omega) hkg (by omega)).trans (hxq.block k hk)⟩
  exact (((((((hrd.put 0 _ (Nat.le_refl _)).put 1 _ (Nat.le_refl _)).put 2 _ (Nat.le_refl _)).put 3 _ (Nat.le_refl _)).put 4 _ (Nat.le_refl _)).put 5 _ (Nat.le_refl _)).put 6 _ (Nat.le_refl _))
def recH (t:ByteArray) (p:Nat) (o:Option (Rc.Rec × Nat)):Option (Rc.Rec × Nat):=
 match o with
 | none=>none
 | some (r,q)=>if (q:Int) - ((p+2+2+4+2:Nat):Int)=(rnum t (p+2+2+4) 2:Int) then some (r,q) else none
def recG (t nm:ByteArray) (p:Nat):Option (Rc.Rec × Nat):=
 if p+2≤t.size then
  if p+2+2≤t.size∧(rnum t (p+2) 2:Int)=1 then
   if p+2+2+4≤t.size then
    if p+2+2+4+2≤t.size then recH t p (datF t (p+2+2+4+2) nm (rnum t p 2) (rnum t (p+2+2) 4)) else none
   else none
  else none
 else none
def recF (t:ByteArray) (a:Nat):Option (Rc.Rec × Nat):=
 match tgF t a with
 | none=>none
 | some (nm,p)=>recG t nm p
theorem Ry.rd {g X:Nat} {w wq W:World} (h:Ry g X wq W) (hx:w.Extends wq) (hX:w.heap.size≤X):Rd g w W:=
 ⟨h.os.trans hx.os,h.tape.trans hx.tape,h.output.trans hx.output,Nat.le_trans hx.size h.size,fun k hk hg=>(h.block k (Nat.lt_of_lt_of_le hk hx.size) hg (by omega)).trans (hx.block k hk)⟩
set_option maxHeartbeats 1600000 in
set_option maxRecDepth 100000 in
theorem rrec_b (g a:Nat) (t:ByteArray) (w:World) (h:IsR g t a w) (hs:t.size≤1000) (ha:a≤t.size) :
 Calls Tryz.prog 63 #[.pointer (some ⟨g,0,none⟩)] w fun e w'=>Hid (Rd g w w')∧((∃ r q,recF t a=some (r,q)∧q≤t.size∧r.ok∧e=.returned (recV r)∧Hid (IsR g t q w'))∨(recF t a=none∧e=outE 1)):=by
 have HI:Hid (IsR g t a w):=h
 have hg:=h.hg
 have HF:Hid (recF t a=match tgF t a with | none=>none | some (nm,p)=>recG t nm p):=rfl
 clear h
 generalize recF t a=F at *
 go_enter Tryz.func63,Tryz.ntmps63
 go_wp2_with fail
 obtain ⟨wq,hwq⟩:∃ wq,wq=w.alloc (.cells #[.string ⟨#[]⟩,.int .i64 0,.int .i64 0,.int .i64 0,.string ⟨#[]⟩,.int .i64 0,.string ⟨#[]⟩] 59):=⟨_,rfl⟩
 have hnq:wq.heap.size=w.heap.size+1:=by rw [hwq];simp
 have hxq:w.Extends wq:=by rw [hwq];exact (World.Extends.refl w).alloc _
 have hgq:wq.heap[w.heap.size]?=some (.cells #[.string ⟨#[]⟩,.int .i64 0,.int .i64 0,.int .i64 0,.string ⟨#[]⟩,.int .i64 0,.string ⟨#[]⟩] 59 (0,0)):=by rw [hwq];exact heap_alloc_new w _
 rw [← hwq]
 clear hwq
 have HXQ:Hid (w.Extends wq):=hxq
 have HGQ:Hid (wq.heap[w.heap.size]?=some (.cells #[.string ⟨#[]⟩,.int .i64 0,.int .i64 0,.int .i64 0,.string ⟨#[]⟩,.int .i64 0,.string ⟨#[]⟩] 59 (0,0))):=hgq
 have H0:Hid (Rx g (w.heap.size+1) t wq a #[.string ⟨#[]⟩,.int .i64 0,.int .i64 0,.int .i64 0,.string ⟨#[]⟩,.int .i64 0,.string ⟨#[]⟩] (wq.alloc (.cells #[.string ⟨#[]⟩,.int .i64 0,.int .i64 0,.int .i64 0,.string ⟨#[]⟩,.int .i64 0,.string ⟨#[]⟩] 59))):=(show Rx _ _ _ _ _ _ _ by
  have hx:wq.Extends (wq.alloc (.cells #[.string ⟨#[]⟩,.int .i64 0,.int .i64 0,.int .i64 0,.string ⟨#[]⟩,.int .i64 0,.string ⟨#[]⟩] 59)):=(World.Extends.refl wq).alloc _
  have hn:=heap_alloc_new wq (.cells #[.string ⟨#[]⟩,.int .i64 0,.int .i64 0,.int .i64 0,.string ⟨#[]⟩,.int .i64 0,.string ⟨#[]⟩] 59)
  rw [hnq] at hn
  exact ⟨(HI.out.ext hxq).ext hx,hn,rfl,rfl,rfl,hx.size,fun k hk _ _=>hx.block k hk,by omega⟩)
 clear hxq hgq
 refine (name_c g a t _ H0.out.isR hs ha).mono ?_
 rintro e w1 ⟨h2,⟨nm,p,h3,h4,h5,rfl,h1⟩ | ⟨h3,rfl⟩⟩
 rotate_left
 ·exact ⟨rfl,(H0.out.gone h2).rd HXQ.out (by omega),.inr ⟨by rw [HF.out,h3],rfl⟩⟩
 have HF1:Hid (F=recG t nm p):=(show _=_ by rw [HF.out,h3])
 have HF2:Hid (F=if p+2≤t.size then
  if p+2+2≤t.size∧(rnum t (p+2) 2:Int)=1 then
   if p+2+2+4≤t.size then
    if p+2+2+4+2≤t.size then recH t p (datF t (p+2+2+4+2) nm (rnum t p 2) (rnum t (p+2+2) 4)) else none
   else none
  else none
  else none):=HF1
 have H1:Hid (Rx g (w.heap.size+1) t wq p #[.string ⟨#[]⟩,.int .i64 0,.int .i64 0,.int .i64 0,.string ⟨#[]⟩,.int .i64 0,.string ⟨#[]⟩] w1):=H0.out.call h1 h2
 have c0:w1.cell? ⟨w.heap.size+1,0,none⟩=some (.string ⟨#[]⟩):=H1.out.cell 0
 have z0:=H1.out.free 0
 clear h1 h2 h3 H0 HF HF1
 go_wp2_with fail
 have H2:Hid (Rx g (w.heap.size+1) t wq p #[.string nm,.int .i64 0,.int .i64 0,.int .i64 0,.string ⟨#[]⟩,.int .i64 0,.string ⟨#[]⟩] (w1.setCell ⟨w.heap.size+1,0,none⟩ (.string nm))):=H1.out.store 0 (.string nm)
 refine (number_b g p 2 t _ H2.out.isR hs h5 (by omega)).mono ?_
 rintro e w2 ⟨h2,⟨hle,rfl,h1⟩ | ⟨hno,rfl⟩⟩
 rotate_left
 ·exact ⟨rfl,(H2.out.gone h2).rd HXQ.out (by omega),.inr ⟨HF2.out.trans (if_neg hno),rfl⟩⟩
 have HF3:Hid (F=if p+2+2≤t.size∧(rnum t (p+2) 2:Int)=1 then
  if p+2+2+4≤t.size then
   if p+2+2+4+2≤t.size then recH t p (datF t (p+2+2+4+2) nm (rnum t p 2) (rnum t (p+2+2) 4)) else none
  else none
  else none):=HF2.out.trans (if_pos hle)
 have H3:Hid (Rx g (w.heap.size+1) t wq (p+2) #[.string nm,.int .i64 0,.int .i64 0,.int .i64 0,.string ⟨#[]⟩,.int .i64 0,.string ⟨#[]⟩] w2):=H2.out.call h1 h2
 have c1:w2.cell? ⟨w.heap.size+1,1,none⟩=some (.int .i64 0):=H3.out.cell 1
 have z1:=H3.out.free 1
 clear h1 h2 H1 H2 c0 z0 HF2
 generalize (rnum t p 2:Int)=ty at *
 go_wp2_with fail
 have H4:Hid (Rx g (w.heap.size+1) t wq (p+2) #[.string nm,.int .i64 ty,.int .i64 0,.int .i64 0,.string ⟨#[]⟩,.int .i64 0,.string ⟨#[]⟩] (w2.setCell ⟨w.heap.size+1,1,none⟩ (.int .i64 ty))):=H3.out.store 1 (.int .i64 ty)
 refine (expect_b g (p+2) 2 1 t _ H4.out.isR hs hle (by omega)).mono ?_
 rintro e w3 ⟨h2,⟨hle2,rfl,h1⟩ | ⟨hno,rfl⟩⟩
 rotate_left
 ·exact ⟨rfl,(H4.out.gone h2).rd HXQ.out (by omega),.inr ⟨HF3.out.trans (if_neg hno),rfl⟩⟩
 have HF4:Hid (F=if p+2+2+4≤t.size then
  if p+2+2+4+2≤t.size then recH t p (datF t (p+2+2+4+2) nm ty (rnum t (p+2+2) 4)) else none
  else none):=HF3.out.trans (if_pos hle2)
 have H5:Hid (Rx g (w.heap.size+1) t wq (p+2+2) #[.string nm,.int .i64 ty,.int .i64 0,.int .i64 0,.string ⟨#[]⟩,.int .i64 0,.string ⟨#[]⟩] w3):=H4.out.call h1 h2
 have hle3:=hle2.1
 clear h1 h2 H3 H4 c1 z1 HF3 hle2
 go_wp2_with fail
 refine (number_b g (p+2+2) 4 t _ H5.out.isR hs hle3 (by omega)).mono ?_
 rintro e w4 ⟨h2,⟨hle4,rfl,h1⟩ | ⟨hno,rfl⟩⟩
 rotate_left
 ·exact ⟨rfl,(H5.out.gone h2).rd HXQ.out (by omega),.inr ⟨HF4.out.trans (if_neg hno),rfl⟩⟩
 have HF5:Hid (F=if p+2+2+4+2≤t.size then recH t p (datF t (p+2+2+4+2) nm ty (rnum t (p+2+2) 4)) else none):=HF4.out.trans (if_pos hle4)
 have H6:Hid (Rx g (w.heap.size+1) t wq (p+2+2+4) #[.string nm,.int .i64 ty,.int .i64 0,.int .i64 0,.string ⟨#[]⟩,.int .i64 0,.string ⟨#[]⟩] w4):=H5.out.call h1 h2
 have c2:w4.cell? ⟨w.heap.size+1,2,none⟩=some (.int .i64 0):=H6.out.cell 2
 have z2:=H6.out.free 2
 clear h1 h2 H5 HF4
 generalize (rnum t (p+2+2) 4:Int)=la at *
 go_wp2_with fail
 have H7:Hid (Rx g (w.heap.size+1) t wq (p+2+2+4) #[.string nm,.int .i64 ty,.int .i64 la,.int .i64 0,.string ⟨#[]⟩,.int .i64 0,.string ⟨#[]⟩] (w4.setCell ⟨w.heap.size+1,2,none⟩ (.int .i64 la))):=H6.out.store 2 (.int .i64 la)
 refine (number_b g (p+2+2+4) 2 t _ H7.out.isR hs hle4 (by omega)).mono ?_
 rintro e w5 ⟨h2,⟨hle5,rfl,h1⟩ | ⟨hno,rfl⟩⟩
 rotate_left
 ·exact ⟨rfl,(H7.out.gone h2).rd HXQ.out (by omega),.inr ⟨HF5.out.trans (if_neg hno),rfl⟩⟩
 have HF6:Hid (F=recH t p (datF t (p+2+2+4+2) nm ty la)):=HF5.out.trans (if_pos hle5)
 have H8:Hid (Rx g (w.heap.size+1) t wq (p+2+2+4+2) #[.string nm,.int .i64 ty,.int .i64 la,.int .i64 0,.string ⟨#[]⟩,.int .i64 0,.string ⟨#[]⟩] w5):=H7.out.call h1 h2
 clear h1 h2 H6 H7 c2 z2 HF5
 have HRH:Hid (∀ r q,recH t p (some (r,q))=if (q:Int) - ((p+2+2+4+2:Nat):Int)=(rnum t (p+2+2+4) 2:Int) then some (r,q) else none):=fun r q=>rfl
 have HRN:Hid (recH t p none=none):=rfl
 generalize (rnum t (p+2+2+4) 2:Int)=sz at *
 generalize hB:p+2+2+4+2=B at *
 clear hB
 have ca:w5.cell? ⟨g,1,none⟩=some (.int .i64 (B:Int)):=H8.out.isR.c1
 go_wp2_with fail
 refine (rdat_b g (w.heap.size+1) B t nm ty la wq w5 H8.out hs hle5).mono ?_
 rintro e w9 (⟨r,q,h3,hq,⟨k1,k2,k3⟩,rfl,H9⟩ | ⟨h3,rfl,h9⟩)
 rotate_left
 ·exact ⟨rfl,h9.out.rd HXQ.out (by omega),.inr ⟨by rw [HF6.out,h3,HRN.out],rfl⟩⟩
 have HF7:Hid (F=if (q:Int) - (B:Int)=sz then some (r,q) else none):=(show _=_ by rw [HF6.out,h3,HRH.out])
 have hrok:r.ok:=⟨by rw [k1];unfold maxLen;omega,by unfold maxLen;omega,by unfold maxLen;omega⟩
 have HQ9:Hid (w9.heap[w.heap.size]?=some (.cells #[.string ⟨#[]⟩,.int .i64 0,.int .i64 0,.int .i64 0,.string ⟨#[]⟩,.int .i64 0,.string ⟨#[]⟩] 59 (0,0))):=(H9.out.block _ (by omega) (by omega) (by omega)).trans HGQ.out
 have cb:w9.cell? ⟨g,1,none⟩=some (.int .i64 (q:Int)):=H9.out.isR.c1
 clear H8 ca HF6 h3 HRH HRN k1 k2 k3
 have HROK:Hid r.ok:=hrok
 clear hrok
 have m0:w9.cell? ⟨w.heap.size+1,0,none⟩=some (.string r.name):=H9.out.cell 0
 have q0:w9.cell? ⟨w.heap.size,0,none⟩=some (.string ⟨#[]⟩):=cellsAt HQ9.out 0
 have y0:w9.frozen? ⟨w.heap.size,0,none⟩=false:=by simp [World.frozen?,HQ9.out]
 have m1:w9.cell? ⟨w.heap.size+1,1,none⟩=some (.int .i64 r.typ):=H9.out.cell 1
 have q1:w9.cell? ⟨w.heap.size,1,none⟩=some (.int .i64 0):=cellsAt HQ9.out 1
 have y1:w9.frozen? ⟨w.heap.size,1,none⟩=false:=by simp [World.frozen?,HQ9.out]
 have m2:w9.cell? ⟨w.heap.size+1,2,none⟩=some (.int .i64 r.lasts):=H9.out.cell 2
 have q2:w9.cell? ⟨w.heap.size,2,none⟩=some (.int .i64 0):=cellsAt HQ9.out 2
 have y2:w9.frozen? ⟨w.heap.size,2,none⟩=false:=by simp [World.frozen?,HQ9.out]
 have m3:w9.cell? ⟨w.heap.size+1,3,none⟩=some (.int .i64 r.addr):=H9.out.cell 3
 have q3:w9.cell? ⟨w.heap.size,3,none⟩=some (.int .i64 0):=cellsAt HQ9.out 3
 have y3:w9.frozen? ⟨w.heap.size,3,none⟩=false:=by simp [World.frozen?,HQ9.out]
 have m4:w9.cell? ⟨w.heap.size+1,4,none⟩=some (.string r.text):=H9.out.cell 4
 have q4:w9.cell? ⟨w.heap.size,4,none⟩=some (.string ⟨#[]⟩):=cellsAt HQ9.out 4
 have y4:w9.frozen? ⟨w.heap.size,4,none⟩=false:=by simp [World.frozen?,HQ9.out]
 have m5:w9.cell? ⟨w.heap.size+1,5,none⟩=some (.int .i64 r.port):=H9.out.cell 5
 have q5:w9.cell? ⟨w.heap.size,5,none⟩=some (.int .i64 0):=cellsAt HQ9.out 5
 have y5:w9.frozen? ⟨w.heap.size,5,none⟩=false:=by simp [World.frozen?,HQ9.out]
 have m6:w9.cell? ⟨w.heap.size+1,6,none⟩=some (.string r.target):=H9.out.cell 6
 have q6:w9.cell? ⟨w.heap.size,6,none⟩=some (.string ⟨#[]⟩):=cellsAt HQ9.out 6
 have y6:w9.frozen? ⟨w.heap.size,6,none⟩=false:=by simp [World.frozen?,HQ9.out]
 have hwr:IntKind.i64.wrap ((q:Int) - (B:Int))=(q:Int) - (B:Int):=by rw [IntKind.wrap_i64];omega
 by_cases hsz:(q:Int) - (B:Int)=sz
 ·have hbq:((q:Int) - (B:Int) == sz)=true:=by simpa using hsz
  have HF8:Hid (F=some (r,q)):=HF7.out.trans (if_pos hsz)
  clear hsz HF7
  go_wp2_with fail
  refine (need_ok _ _).mono ?_
  rintro e w10 ⟨rfl,hw10⟩
  subst hw10
  go_wp2_with fail
  refine bodyPost_ret (v:=recV r) ?_ rfl ⟨?_,.inl ⟨r,q,HF8.out,hq,HROK.out,rfl,?_⟩⟩
  ·simp [results,Tryz.results63,go_sem,q0,q1,q2,q3,q4,q5,q6]
  ·have hrd:Rd g w w10:=H9.out.ry.rd HXQ.out (by omega)
   exact (((((((hrd.put 0 _ (Nat.le_refl _)).put 1 _ (Nat.le_refl _)).put 2 _ (Nat.le_refl _)).put 3 _ (Nat.le_refl _)).put 4 _ (Nat.le_refl _)).put 5 _ (Nat.le_refl _)).put 6 _ (Nat.le_refl _))
  ·exact ((((((((H9.out.isR).put 0 _ (by omega)).put 1 _ (by omega)).put 2 _ (by omega)).put 3 _ (by omega)).put 4 _ (by omega)).put 5 _ (by omega)).put 6 _ (by omega))
 ·have hbq:((q:Int) - (B:Int) == sz)=false:=by simpa using hsz
  have HF8:Hid (F=none):=HF7.out.trans (if_neg hsz)
  clear hsz HF7
  go_wp2_with fail
  refine (need_no _ _).mono ?_
  rintro e w10 ⟨rfl,hw10⟩
  subst hw10
  exact ⟨rfl,H9.out.ry.rd HXQ.out (by omega),.inr ⟨HF8.out,rfl⟩⟩
theorem attempt_any (f:Nat) (caps:Array Value) (E:Int) (w:World) (ef:∀ args W,(callFunc f args).run Tryz.prog W=.ok (.enter f args) W)
 (hc:Calls Tryz.prog f caps (w.alloc (.cells #[.int .i64 0] 29)) fun r w'=>r=outE E∧Below (w.heap.size+1) (w.alloc (.cells #[.int .i64 0] 29)) w') :
 Calls Tryz.prog 20 #[.func (.func f) #[] caps] w fun r w'=>r=.returned (.int .i64 E)∧Below w.heap.size w w':=by
 have hge:(w.alloc (.cells #[.int .i64 0] 29)).heap[w.heap.size]?=some (.cells #[.int .i64 0] 29 (0,0)):=heap_alloc_new w _
 by_cases h0:E=0
 ·subst h0
  refine (attempt_ok f caps w (fun W=>Below (w.heap.size+1) (w.alloc (.cells #[.int .i64 0] 29)) W) ef (hc.mono ?_)).mono ?_
  ·rintro r w' ⟨rfl,hb⟩
   have hk:w'.heap[w.heap.size]?=some (.cells #[.int .i64 0] 29 (0,0)):=(hb.block _ (by omega)).trans hge
   exact ⟨rfl,hb,cellsAt hk 0,by simp [World.frozen?,hk],(Array.getElem?_eq_some_iff.1 hk).1⟩
  ·rintro r w' ⟨rfl,w1,hR,_,rfl⟩
   exact ⟨rfl,(((Below.refl _ _).alloc (Nat.le_refl _) _).trans (hR.mono (by omega))).setCell (p:=⟨w.heap.size,0,none⟩) (Nat.le_refl _) _⟩
 ·refine (attempt_no f caps E w (fun W=>Below (w.heap.size+1) (w.alloc (.cells #[.int .i64 0] 29)) W) ef (hc.mono ?_)).mono ?_
  ·rintro r w' ⟨rfl,hb⟩
   have hk:w'.heap[w.heap.size]?=some (.cells #[.int .i64 0] 29 (0,0)):=(hb.block _ (by omega)).trans hge
   exact ⟨outE_ne h0,hb,cellsAt hk 0,by simp [World.frozen?,hk],(Array.getElem?_eq_some_iff.1 hk).1⟩
  ·rintro r w' ⟨rfl,w1,hR,_,hb⟩
   exact ⟨rfl,(((Below.refl _ _).alloc (Nat.le_refl _) _).trans (hR.mono (by omega))).trans hb⟩
theorem row_below {w W:World} {b off:Nat} {rs:List Rc.Rec} (h:Rc.Row w b off rs) (hW:Below w.heap.size w W) (hb:b < w.heap.size):Rc.Row W b off rs:=fun j hj=>by
 obtain ⟨c0,c1,c2,c3,c4,c5,c6⟩:=h j hj
 exact ⟨(hW.cell (p:=⟨b,off+j * 7,none⟩) hb).trans c0,(hW.cell (p:=⟨b,off+j * 7+1,none⟩) hb).trans c1,(hW.cell (p:=⟨b,off+j * 7+2,none⟩) hb).trans c2,(hW.cell (p:=⟨b,off+j * 7+3,none⟩) hb).trans c3,(hW.cell (p:=⟨b,off+j * 7+4,none⟩) hb).trans c4,(hW.cell (p:=⟨b,off+j * 7+5,none⟩) hb).trans c5,(hW.cell (p:=⟨b,off+j * 7+6,none⟩) hb).trans c6⟩
theorem msgFacts {id code typ:Int} {name:ByteArray} {rs:List Rc.Rec} (h:chkMsg id code typ name rs=0):(0≤id∧id≤65535)∧(0≤code∧code≤15)∧(0≤typ∧typ≤33):=by
 unfold chkMsg at h
 split at h
 ·omega
 rename_i h1
 split at h
 ·omega
 split at h
 ·omega
 split at h
 ·omega
 rename_i h4
 have h1':(within id 0 65535 && within code 0 15)=true:=by simpa using h1
 have h4':typB typ=true:=by simpa using h4
 simp only [within,Bool.and_eq_true,decide_eq_true_eq] at h1'
 simp only [typB,Bool.or_eq_true,decide_eq_true_eq] at h4'
 exact ⟨h1'.1,h1'.2,by omega,by omega⟩
def fitB (id code typ:Int) (ans cut:Bool) (name:ByteArray) (rs:List Rc.Rec) (n:Nat):List UInt8:=wallL id code typ ans (cut || decide (n < rs.length)) name (rs.take n)
def fitN (f:Nat→List UInt8) (size:Int):Nat→Option (List UInt8)
 | 0=>if ((f 0).length:Int)≤size then some (f 0) else none
 | k+1=>if ((f (k+1)).length:Int)≤size then some (f (k+1)) else fitN f size k
def fitE (id code typ:Int) (ans cut:Bool) (name:ByteArray) (rs:List Rc.Rec) (size:Int):Int:=
 if within size 12 512=false then 3
 else if chkMsg id code typ name rs=0 then (if (fitN (fitB id code typ ans cut name rs) size rs.length).isSome then 0 else 2)
 else chkMsg id code typ name rs
def fitT (id code typ:Int) (ans cut:Bool) (name:ByteArray) (rs:List Rc.Rec) (size:Int):ByteArray:=
 if within size 12 512=false then ⟨#[]⟩
 else if chkMsg id code typ name rs=0 then ⟨((fitN (fitB id code typ ans cut name rs) size rs.length).getD []).toArray⟩
 else ⟨#[]⟩
theorem fitN_yes {f:Nat→List UInt8} {size:Int}:∀ {n j:Nat},j≤n→(∀ i,j < i→i≤n→size < ((f i).length:Int))→((f j).length:Int)≤size→fitN f size n=some (f j)
 | 0,j,hj,_,h=>by
   obtain rfl:j=0:=by omega
   simp only [fitN,if_pos h]
 | n+1,j,hj,hi,h=>by
   rcases Nat.lt_or_ge n j with h1 | h1
   ·obtain rfl:j=n+1:=by omega
    simp only [fitN,if_pos h]
   ·have h2:=hi (n+1) (by omega) (by omega)
    simp only [fitN]
    rw [if_neg (by omega)]
    exact fitN_yes h1 (fun i h3 h4=>hi i h3 (by omega)) h
theorem fitN_no {f:Nat→List UInt8} {size:Int}:∀ {n:Nat},(∀ i,i≤n→size < ((f i).length:Int))→fitN f size n=none
 | 0,hi=>by
   have h:=hi 0 (by omega)
   simp only [fitN]
   rw [if_neg (by omega)]
 | n+1,hi=>by
   have h:=hi (n+1) (by omega)
   simp only [fitN]
   rw [if_neg (by omega)]
   exact fitN_no (fun i h3=>hi i (by omega))
theorem chkRs_of:∀ {rs:List Rc.Rec},(∀ r∈rs,chkRec r=0)→chkRs rs=0
 | [],_=>rfl
 | x :: t,h=>by
   simp only [chkRs]
   rw [if_pos (h x List.mem_cons_self)]
   exact chkRs_of (fun r hr=>h r (List.mem_cons_of_mem _ hr))
theorem chkMsg_take {id code typ:Int} {name:ByteArray} {rs:List Rc.Rec} (h:chkMsg id code typ name rs=0) (n:Nat):chkMsg id code typ name (rs.take n)=0:=by
 have hf:=chkMsg_facts h
 unfold chkMsg at h ⊢
 split at h
 ·omega
 rename_i h1
 split at h
 ·omega
 split at h
 ·omega
 rename_i h3
 split at h
 ·omega
 rename_i h4
 rw [if_neg h1,if_neg (by rw [List.length_take];omega),if_neg h3,if_neg h4]
 exact chkRs_of (fun r hr=>hf.2.2 r (List.mem_of_mem_take hr))
theorem row_take {w:World} {b off:Nat} {rs:List Rc.Rec} (h:Rc.Row w b off rs) (n:Nat):Rc.Row w b off (rs.take n):=fun j hj=>by
 have h1:j < rs.length:=by rw [List.length_take] at hj;omega
 have h2:(rs.take n).getD j Rc.dm=rs.getD j Rc.dm:=by
  have h3:j < n:=by rw [List.length_take] at hj;omega
  simp [List.getD,h3]
 rw [h2]
 exact h j h1
end Go.Proofs.YtignmeaeibaejaaGreatDoor
