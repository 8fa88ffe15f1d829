import Derived.WalkKit
import Derived.Test.YtignmeaeibaejaaGreatDoorV34
import Derived.Test.YtignmeaeibaejaaGreatDoorV33
namespace Go.Proofs.YtignmeaeibaejaaGreatDoor
open Go.RowKit
structure Sc (w:World) (t:ByteArray) (mb a:Nat) (bad:Bool) (mc:Array Value) (W:World):Prop where
 sc:IsC (w.heap.size+1) t a bad W
 bl:Below w.heap.size w W
 qx:W.heap[w.heap.size]?=some (.cells zmsg 38 (0,0))
 bx:W.heap[mb]?=some (.cells mc 38 (0,0))
 lt:w.heap.size+1 < mb
variable {w W W':World} {t:ByteArray} {mb a b:Nat} {bad bad2:Bool} {mc:Array Value}
theorem Sc.lm (h:Sc w t mb a bad mc W):mb < W.heap.size:=(Array.getElem?_eq_some_iff.1 h.bx).1
theorem Sc.call (h:Sc w t mb a bad mc W) (h1:Hid (IsC (w.heap.size+1) t b bad2 W')) (h2:Hid (Rd (w.heap.size+1) W W')):Sc w t mb b bad2 mc W':=by
 have hl:=h.lt
 have hm:=h.lm
 exact ⟨h1.out,⟨h2.out.os.trans h.bl.os,h2.out.tape.trans h.bl.tape,h2.out.output.trans h.bl.output,Nat.le_trans h.bl.size h2.out.size,fun j hj=>(h2.out.block j (by omega) (by omega)).trans (h.bl.block j hj)⟩,(h2.out.block _ (by omega) (by omega)).trans h.qx,(h2.out.block _ hm (by omega)).trans h.bx,hl⟩
theorem Sc.keep (h:Sc w t mb a bad mc W) (hx:W.Extends W'):Sc w t mb a bad mc W':=
 h.call ((hx.block _ h.sc.lt).trans h.sc:IsC _ _ _ _ _) (Rd.ext hx:Rd _ W W')
theorem Sc.below (h:Sc w t mb a bad mc W) (hb:Below W.heap.size W W'):Sc w t mb a bad mc W':=
 h.call ((hb.block _ h.sc.lt).trans h.sc:IsC _ _ _ _ _) (Rd.of_below hb (Nat.le_refl _):Rd _ W W')
theorem Sc.grown {row:Option Nat} (h:Sc w t mb a bad mc W) (hg:W.grownBy W' row) (hne:∀ q,q < mb+1→some q≠row):Sc w t mb a bad mc W':=by
 have hl:=h.lt
 have hm:=h.lm
 have hblk:∀ q,q < mb+1→W'.heap[q]?=W.heap[q]?:=fun q hq=>hg.block q (by omega) (hne q hq)
 exact ⟨(hblk _ (by omega)).trans h.sc,⟨hg.os.trans h.bl.os,hg.tape.trans h.bl.tape,hg.output.trans h.bl.output,Nat.le_trans h.bl.size hg.size,fun j hj=>(hblk j (by omega)).trans (h.bl.block j hj)⟩,(hblk _ (by omega)).trans h.qx,(hblk _ (by omega)).trans h.bx,hl⟩
theorem Sc.other (h:Sc w t mb a bad mc W) (g i:Nat) (v:Value) (hg:mb < g):Sc w t mb a bad mc (W.setCell ⟨g,i,none⟩ v):=by
 have hl:=h.lt
 have e:∀ j,j≠g→(W.setCell ⟨g,i,none⟩ v).heap[j]?=W.heap[j]?:=fun j hj=>Below.heap_setCell W _ _ j (by simpa using hj)
 exact ⟨(e _ (by omega)).trans h.sc,⟨h.bl.os,h.bl.tape,h.bl.output,by simpa using h.bl.size,fun j hj=>(e j (by omega)).trans (h.bl.block j hj)⟩,(e _ (by omega)).trans h.qx,(e _ (by omega)).trans h.bx,hl⟩
theorem Sc.store (h:Sc w t mb a bad mc W) (i:Nat) (v:Value):Sc w t mb a bad (mc.setIfInBounds i v) (W.setCell ⟨mb,i,none⟩ v):=by
 have hl:=h.lt
 have e:∀ j,j≠mb→(W.setCell ⟨mb,i,none⟩ v).heap[j]?=W.heap[j]?:=fun j hj=>Below.heap_setCell W _ _ j (by simpa using hj)
 exact ⟨(e _ (by omega)).trans h.sc,⟨h.bl.os,h.bl.tape,h.bl.output,by simpa using h.bl.size,fun j hj=>(e j (by omega)).trans (h.bl.block j hj)⟩,(e _ (by omega)).trans h.qx,Joins.block_setCell (i:=i) h.bx v,hl⟩
theorem Sc.at (h:Sc w t mb a bad mc W) (b:Nat):Sc w t mb b bad mc (W.setCell ⟨w.heap.size+1,1,none⟩ (.int .i64 b)):=
 h.call (h.sc.at b:IsC _ _ _ _ _) ((Rd.refl _ W).here 1 _:Rd _ _ _)
theorem Sc.cell (h:Sc w t mb a bad mc W) (i:Nat):W.cell? ⟨mb,i,none⟩=mc[i]?:=cellsAt h.bx i
theorem Sc.free (h:Sc w t mb a bad mc W) (i:Nat):W.frozen? ⟨mb,i,none⟩=false:=frozenAt h.bx i
theorem Sc.qcell (h:Sc w t mb a bad mc W) (i:Nat):W.cell? ⟨w.heap.size,i,none⟩=zmsg[i]?:=cellsAt h.qx i
theorem Sc.qfree (h:Sc w t mb a bad mc W) (i:Nat):W.frozen? ⟨w.heap.size,i,none⟩=false:=frozenAt h.qx i
structure Sr (k rb:Nat) (t:ByteArray) (wr:World) (a:Nat) (bad:Bool) (rc:Array Value) (W:World):Prop where
 rd:Rd k wr W
 sc:IsC k t a bad W
 rx:W.heap[rb]?=some (.cells rc 59 (0,0))
 lr:wr.heap.size≤rb
 lk:k < wr.heap.size
variable {k rb:Nat} {wr:World} {rc:Array Value}
theorem Sr.call (h:Sr k rb t wr a bad rc W) (h1:Hid (IsC k t b bad2 W')) (h2:Hid (Rd k W W')):Sr k rb t wr b bad2 rc W':=
 ⟨h.rd.trans h2.out,h1.out,(h2.out.block rb (Array.getElem?_eq_some_iff.1 h.rx).1 (by have:=h.lr;have:=h.lk;omega)).trans h.rx,h.lr,h.lk⟩
theorem Sr.store (h:Sr k rb t wr a bad rc W) (i:Nat) (v:Value):Sr k rb t wr a bad (rc.setIfInBounds i v) (W.setCell ⟨rb,i,none⟩ v):=
 ⟨h.rd.put i v h.lr,(Below.heap_setCell W _ _ k (by have:=h.lr;have:=h.lk;simp;omega)).trans h.sc,Joins.block_setCell (i:=i) h.rx v,h.lr,h.lk⟩
theorem Sr.at (h:Sr k rb t wr a bad rc W) (b:Nat):Sr k rb t wr b bad rc (W.setCell ⟨k,1,none⟩ (.int .i64 b)):=
 h.call (h.sc.at b:IsC _ _ _ _ _) ((Rd.refl _ W).here 1 _:Rd _ _ _)
theorem Sr.drewN (h:Sr k rb t wr a bad rc W) (m:Nat):Sr k rb t wr a bad rc (W.drewN m):=
 h.call (h.sc.drewN m:IsC _ _ _ _ _) (rd_drewN k W m:Rd _ _ _)
theorem Sr.ext (h:Sr k rb t wr a bad rc W) (hx:W.Extends W'):Sr k rb t wr a bad rc W':=
 h.call ((hx.block _ h.sc.lt).trans h.sc:IsC _ _ _ _ _) (Rd.ext hx:Rd _ W W')
theorem Sr.cell (h:Sr k rb t wr a bad rc W) (i:Nat):W.cell? ⟨rb,i,none⟩=rc[i]?:=cellsAt h.rx i
theorem Sr.free (h:Sr k rb t wr a bad rc W) (i:Nat):W.frozen? ⟨rb,i,none⟩=false:=frozenAt h.rx i
variable {t s s1 s8:ByteArray} {a b b1 b2 b3 b4 b5 b6 b7 b8 v2 v3 v4 v5 v6 v7:Nat} {d1 d2 d3 d4 d5 d6 d7 d8:Bool} {la:Int}
variable {id code:Int} {ans cut:Bool} {n v8 v9 b9:Nat} {R:ByteArray} {d9:Bool}
end Go.Proofs.YtignmeaeibaejaaGreatDoor
