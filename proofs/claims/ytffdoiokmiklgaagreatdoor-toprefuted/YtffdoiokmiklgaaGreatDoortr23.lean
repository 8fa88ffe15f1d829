import Derived.Shelf.Strings.Builder1
import Derived.Shelf.Small.Bits
import Derived.Shelf.Small.Strs
import Derived.Shelf.Strconv.Atoi
import Derived.Shelf.Strconv.Itoa0
import Derived.Shelf.Strconv.Itoa1
import Derived.Shelf.LaysM
import Derived.Shelf.Strconv.Itoa2
import Derived.Shelf.Strconv.Itoa3
import Derived.Shelf.Strconv.AtoiErrFast
import Derived.Shelf.Strconv.ParseIntEmpty
import Derived.Shelf.Strconv.AtoiFail
import Derived.Shelf.Strconv.Clone
import Derived.Shelf.Strconv.SyntaxError
import Derived.Shelf.LaysC
import Derived.Shelf.Strconv.ToError
import Derived.Shelf.Strconv.Lower
import Derived.Shelf.Strconv.ParseUint10
import Derived.Shelf.Strconv.ParseUint10Empty
import Derived.Shelf.Strconv.ParseUint10Any
import Derived.Shelf.Strconv.ParseInt10
import Derived.Shelf.Strconv.AtoiLong
import Derived.Shelf.Strconv.AtoiInnerAll
import Derived.Shelf.Strconv.RangeError
import Derived.Shelf.Strconv.ToErrorRange
import Derived.Shelf.Strconv.AtoiAll
import Derived.Shelf.Strings.Search1
import Derived.Test.YtffdoiokmiklgaaGreatDoorProg
import Derived.Test.YtffdoiokmiklgaaGreatDoortr1
import Derived.Lib.Builder
import Derived.OwnWalk
import Derived.Lib.OthersKept
import Derived.Maps.AppendAt
import Derived.Deep.RegionHeld3
import Derived.StillTactics
import Derived.Lib.AppendIntMem
import Derived.Lib.QuietBelow
import Derived.Deep.Cut
import Derived.Test.YtffdoiokmiklgaaGreatDoortr5
import Derived.Test.YtffdoiokmiklgaaGreatDoortr2
namespace Go.Proofs
open Go.Shelf
end Go.Proofs
namespace Go.Proofs.YtffdoiokmiklgaaGreatDoor
open Go.RowKit
theorem Tryz.infoByte:(Tryz.prog.info? 5).map (fun i=>(i.zero,i.size,i.bytes))=some (some (.int .u8 0),1,1):=by kernel_rfl
theorem Tryz.sizeBuilder:(Tryz.prog.info? 270).map (·.size)=some 2:=by kernel_rfl
theorem Tryz.liesWriter:liesAt Tryz.prog Tryz.prog.depth 272 (2 / Tryz.prog.cellsOf 272) 0 270 1=true:=by kernel_rfl
abbrev WAt (B b:Nat) (p:Value) (bs:List Value) (w:World):Prop:=Lib.BuilderAt 272 5 B b p bs w
def IsW (B b:Nat) (bs:List Value) (w:World):Prop:=WAt B b (.pointer none) bs w∨WAt B b (.pointer (some ⟨b,0,none⟩)) bs w
def bufOf (w:World) (b:Nat):Option Nat:=(w.cell? ⟨b,1,none⟩).bind Value.ownBlock
def Kq (b:Nat) (w w':World):Prop:=b < w.heap.size→(∀ k,k < w.heap.size→k≠b→some k≠bufOf w b→w'.heap[k]?=w.heap[k]?)∧(bufOf w' b=bufOf w b∨∀ k,bufOf w' b=some k→w.heap.size≤k)
structure Kp (B b:Nat) (w w':World):Prop where
 bel:Below B w w'
 oth:Lib.OthersKept 5 (some b) w w'
 kq:Kq b w w'
theorem Kq.refl (b:Nat) (w:World):Kq b w w:=fun _=>⟨fun _ _ _ _=>rfl,.inl rfl⟩
theorem Kq.trans {b:Nat} {w w1 w2:World} (h:Kq b w w1) (k:Kq b w1 w2) (hs:w.heap.size≤w1.heap.size):Kq b w w2:=fun hb=>by
 obtain ⟨h1,h2⟩:=h hb
 obtain ⟨k1,k2⟩:=k (Nat.lt_of_lt_of_le hb hs)
 refine ⟨fun j hj hjb hjn=>?_,?_⟩
 ·refine (k1 j (Nat.lt_of_lt_of_le hj hs) hjb fun e=>?_).trans (h1 j hj hjb hjn)
  rcases h2 with h2 | h2
  ·exact hjn (e.trans h2)
  ·have:=h2 j e.symm;omega
 ·rcases k2 with k2 | k2
  ·rcases h2 with h2 | h2
   ·exact .inl (k2.trans h2)
   ·exact .inr fun j hj=>h2 j (k2▸hj)
  ·exact .inr fun j hj=>Nat.le_trans hs (k2 j hj)
theorem Kp.refl (B b:Nat) (w:World):Kp B b w w:=⟨Below.refl _ _,Lib.OthersKept.refl _ _ _,Kq.refl b w⟩
theorem Kp.trans {B b:Nat} {w w1 w2:World} (h:Kp B b w w1) (k:Kp B b w1 w2):Kp B b w w2:=⟨h.bel.trans k.bel,h.oth.trans k.oth,h.kq.trans k.kq h.bel.size⟩
theorem Kp.size {B b:Nat} {w w1:World} (h:Kp B b w w1):w.heap.size≤w1.heap.size:=h.bel.size
theorem Kq.step {b:Nat} {w1 w2:World} {p v v':Value} {T:TypeId} (hb1:w1.heap[b]?=some (.cells #[p,v] T (0,0))) (hb2:w2.heap[b]?=some (.cells #[p,v] T (0,0))) (hg:∀ k,k < w1.heap.size→some k≠v.ownBlock→w2.heap[k]?=w1.heap[k]?) (hat:v'.ownBlock=v.ownBlock∨∀ k,v'.ownBlock=some k→w1.heap.size≤k):Kq b w1 (w2.setCell ⟨b,1,none⟩ v'):=fun _=>by
 have e1:bufOf w1 b=v.ownBlock:=by unfold bufOf;rw [cellsAt hb1 1];rfl
 have e2:bufOf (w2.setCell ⟨b,1,none⟩ v') b=v'.ownBlock:=by unfold bufOf;rw [World.cell?_setCell_same _ _ _ (cellsAt hb2 1:w2.cell? ⟨b,1,none⟩=some v)];rfl
 rw [e1,e2]
 exact ⟨fun k hk hkb hkn=>(Below.heap_setCell w2 _ v' k hkb).trans (hg k hk hkn),hat⟩
theorem own_kind {B n:Nat} {w:World} {v:Value} {xs:List Value} (h:w.ownsRow B 5 1 v n xs):∀ g,v.ownBlock=some g→∃ c fz,w.heap[g]?=some (.cells c 5 fz):=by
 intro g hg
 rcases h.2 with ⟨rfl,_⟩ | ⟨g',cap,cur,rfl,_,hgg,_⟩
 ·simp [Value.ownBlock] at hg
 ·simp [Value.ownBlock] at hg
  subst hg
  exact ⟨cur,_,hgg⟩
set_option maxHeartbeats 1000000 in
set_option maxRecDepth 100000 in
theorem copy_fresh (b:Nat) (w:World) (h0:w.cell? ⟨b,0,none⟩=some (.pointer none)) (hsh:w.shape? b=some (272,2)) (hfz:w.frozen? ⟨b,0,none⟩=false) :
 Calls Tryz.prog 329 #[.pointer (some ⟨b,0,none⟩)] w fun e w'=>e=.returned (.tuple #[])∧w'=w.setCell ⟨b,0,none⟩ (.pointer (some ⟨b,0,none⟩)):=by
 obtain ⟨j,hj,hjs⟩:=Option.map_eq_some_iff.1 Tryz.sizeBuilder
 go_enter Tryz.func329,Tryz.ntmps329
 go_wp2_with fail
 rw [Lib.run_to_unsafe w ⟨b,0,none⟩ Tryz.underlying268 Tryz.underlying345 hj (by rw [hjs];decide) hsh (Nat.zero_lt_succ 1)]
 simp only [Result.andThen]
 rw [Oper.upon_value]
 go_wp2_with fail
 rw [run_callFunc_extern Tryz.func339 (by kernel_rfl) (by kernel_rfl) (by kernel_rfl) (e:=Extern.AbiNoEscape.same) (by kernel_rfl)]
 rw [Lib.run_noEscape]
 simp only [Result.andThen]
 rw [Oper.upon_value]
 go_wp2_with fail
 rw [Lib.run_from_unsafe w ⟨b,0,none⟩ Tryz.underlying345 Tryz.underlying268 hj hsh Tryz.liesWriter]
 simp only [Result.andThen]
 rw [Oper.upon_value]
 go_wp2_with fail
 simp [bodyPost,results,Tryz.results329]
set_option maxHeartbeats 1000000 in
set_option maxRecDepth 100000 in
theorem copy_used (b:Nat) (w:World) (h0:w.cell? ⟨b,0,none⟩=some (.pointer (some ⟨b,0,none⟩))) :
 Calls Tryz.prog 329 #[.pointer (some ⟨b,0,none⟩)] w fun e w'=>e=.returned (.tuple #[])∧w'=w:=by
 obtain ⟨j,hj,_⟩:=Option.map_eq_some_iff.1 Tryz.sizeBuilder
 go_enter Tryz.func329,Tryz.ntmps329
 go_wp2_with fail
 rw [Lib.run_neq_ptr_same w _ Tryz.underlying268 hj]
 go_wp2_with fail
 simp [bodyPost,results,Tryz.results329]
theorem copy_any (B b:Nat) (bs:List Value) (w:World) (h:IsW B b bs w) :
 Calls Tryz.prog 329 #[.pointer (some ⟨b,0,none⟩)] w fun e w'=>e=.returned (.tuple #[])∧WAt B b (.pointer (some ⟨b,0,none⟩)) bs w'∧Kp B b w w':=by
 rcases h with h | h
 ·refine (copy_fresh b w h.cell0 h.shape h.frozen0).mono ?_
  rintro e w' ⟨rfl,rfl⟩
  exact ⟨rfl,h.used _,(Below.refl B w).setCell (p:=⟨b,0,none⟩) h.1 _,(Lib.OthersKept.refl _ _ w).setCell ⟨b,0,none⟩ rfl _,fun _=>⟨fun k _ hkb _=>Below.heap_setCell w _ _ k hkb,.inl (by unfold bufOf;rw [World.cell?_setCell_other _ _ _ _ (by simp)])⟩⟩
 ·refine (copy_used b w h.cell0).mono ?_
  rintro e w' ⟨rfl,rfl⟩
  exact ⟨rfl,h,Kp.refl B b _⟩
set_option maxHeartbeats 2000000 in
set_option maxRecDepth 100000 in
theorem writeByte_any (B b:Nat) (bs:List Value) (c:Int) (w:World) (h:IsW B b bs w) (hlen:bs.length+1≤1000000) (hBw:B≤w.heap.size) :
 Calls Tryz.prog 313 #[.pointer (some ⟨b,0,none⟩),.int .u8 c] w fun e w'=>e=.returned .nilIface∧WAt B b (.pointer (some ⟨b,0,none⟩)) (bs++[.int .u8 c]) w'∧Kp B b w w':=by
 obtain ⟨i0,hi,hz0,hz1,hz2⟩:=info_parts Tryz.infoByte
 have HC:Hid (Calls Tryz.prog 329 #[.pointer (some ⟨b,0,none⟩)] w fun e w'=>e=.returned (.tuple #[])∧WAt B b (.pointer (some ⟨b,0,none⟩)) bs w'∧Kp B b w w'):=copy_any B b bs w h
 clear h
 go_enter Tryz.func313,Tryz.ntmps313
 go_wp2_with fail
 refine HC.out.mono ?_
 rintro e w1 ⟨rfl,h1,hb1⟩
 obtain ⟨hB,v,hbk,hown,hne⟩:=h1
 have c0:w1.cell? ⟨b,0,none⟩=some (.pointer (some ⟨b,0,none⟩)):=cellsAt hbk 0
 have c1:w1.cell? ⟨b,1,none⟩=some v:=cellsAt hbk 1
 have hsz1:=hb1.size
 have HO:Hid (w1.ownsRow B 5 1 v bs.length bs):=hown
 have HK:Hid (w1.heap[b]?=some (.cells #[.pointer (some ⟨b,0,none⟩),v] 272 (0,0))):=hbk
 clear hown hbk
 go_wp2_with (at_builtin;refine wpList_append_own_at _ rfl _ _ 157 rfl B 5 i0 (.int .u8 0) 1 1 Tryz.underlying157 hi hz0 hz1 hz2 rfl (by decide) _ bs.length bs rfl (HO.out.alloc _) ⟨w1.heap.size,0,none⟩ 1 1 [.int .u8 c] rfl rfl ?c1 ?c2 ?c3 ?c4 ?c5 ?_)
 case c1=>(intro j u hj;rw [Addr.add_lit];exact (cell_topL (by simp)).trans (by simpa using hj))
 case c2=>(intro u hu;simp at hu;subst hu;rfl)
 case c3=>(unfold maxLen;omega)
 case c4=>omega
 case c5=>(simp;omega)
 intro v' w2 hown' hgrow _ hat
 have hlt:b < w1.heap.size:=(Array.getElem?_eq_some_iff.1 HK.out).1
 have hb2:w2.heap[b]?=some (.cells #[.pointer (some ⟨b,0,none⟩),v] 272 (0,0)):=by
  rw [hgrow.block b (by simp;omega) (fun e=>hne e.symm),Lib.alloc_old w1 _ b hlt]
  exact HK.out
 have d0:w2.cell? ⟨b,0,none⟩=some (.pointer (some ⟨b,0,none⟩)):=cellsAt hb2 0
 have d1:w2.cell? ⟨b,1,none⟩=some v:=cellsAt hb2 1
 have f1:w2.frozen? ⟨b,1,none⟩=false:=Lib.frozen_of_heap hb2 1
 have HB2:Hid (Below B w w2∧Lib.OthersKept 5 (some b) w w2):=(show _∧_ from ⟨(hb1.bel.alloc (by omega) _).grown hgrow (by simp;omega) (fun k hk=>(HO.out.lt k hk).1),(hb1.oth.alloc _).grown hgrow (own_kind (HO.out.alloc _))⟩)
 have HKQ:Hid (Kq b w (w2.setCell ⟨b,1,none⟩ v')):=hb1.kq.trans (Kq.step HK.out hb2 (fun k hk hkn=>(hgrow.block k (by simp;omega) hkn).trans (Lib.alloc_old w1 _ k hk)) (hat.imp id (fun e k hk=>by rw [e] at hk;simp at hk;omega))) hsz1
 have HK2:Hid (w2.heap[b]?=some (.cells #[.pointer (some ⟨b,0,none⟩),v] 272 (0,0))):=hb2
 have HO2:Hid (w2.ownsRow B 5 1 v' (bs.length+1) (bs++[.int .u8 c])):=hown'
 obtain ⟨g,cap,hv⟩:∃ g cap,v'=.slice (some ⟨g,0,none⟩) (bs.length+1) cap:=by
  rcases hown'.2 with ⟨_,h0⟩ | ⟨g,cap,cur,hv,_⟩
  ·omega
  ·exact ⟨g,cap,hv⟩
 subst hv
 clear hown' hgrow hb2 c0 c1 hb1 hat
 go_wp2_with fail
 go_ret
 refine ⟨rfl,?_,?_⟩
 ·exact Lib.BuilderAt.put (T:=272) (e:=5) hB HK2.out (bs':=bs++[.int .u8 c]) (by simpa using HO2.out) (by decide)
 ·exact ⟨HB2.out.1.setCell (p:=⟨b,1,none⟩) hB _,HB2.out.2.setCell ⟨b,1,none⟩ rfl _,HKQ.out⟩
theorem append_text_at {P:Program} {w W:World} {base n:Nat} {t u ty e:TypeId} {i:TypeInfo} {v v':Value} {xs:List Value} {s:ByteArray} (ht:P.underlying t=some (.slice e)) (hu:P.underlying u=some .string) (hi:P.info? e=some i) (hz:i.zero=some (.int .u8 0)) (hsize:i.size=1) (hby:i.bytes=1)
 (hown:w.ownsRow base e 1 v n xs) (h63:n+s.size≤maxLen) (hbytes:n+s.size≤140737488355328) (hr:(Builtin.append_ #[t,u] ty #[v,.string s]).run P w=.ok v' W) (hnil:v'=.slice none 0 0↔v=.slice none 0 0∧s.size=0):v'.ownBlock=v.ownBlock∨v'.ownBlock=some w.heap.size:=by
 have hm:n+s.size≤9223372036854775807:=by simp only [maxLen] at h63;omega
 have hxl:xs.length=n:=by simpa using hown.1
 rcases hown.2 with ⟨rfl,rfl⟩ | ⟨g,cap,cur,rfl,_,hg,_,_,hcs,_⟩
 ·by_cases h0:s.size=0
  ·exact .inl (by rw [hnil.2 ⟨rfl,h0⟩])
  ·rw [run_append_nil_string (P:=P) w t u ty e i (.int .u8 0) ht hu hi hz s (by omega) (by omega) (by rw [hby];omega)] at hr
   injection hr with h1 _
   exact .inr (by rw [← h1];rfl)
 ·by_cases hroom:n+s.size≤cap
  ·rw [Lib.run_append_room_string (P:=P) w t u ty e i ht hu hi hsize g n cap cur hg s hroom (by have:=hcs;omega)] at hr
   injection hr with h1 _
   exact .inl (by rw [← h1];rfl)
  ·rw [Lib.run_append_grow_string (P:=P) w t u ty e i (.int .u8 0) ht hu hi hz ⟨g,0,none⟩ n cap xs (by rw [hsize];simpa using hxl) (hown.cells (g:=g) rfl) s (by omega) (by omega) (by rw [hby];exact growslice_fits (by omega) (by omega))] at hr
   injection hr with h1 _
   exact .inr (by rw [← h1];rfl)
theorem wpList_append_text {P:Program} (w:World) {ops:Array Oper} {rest:List Oper} {o:Oper} {a:Act} {Q:Exit→Act→World→Prop} (hgd:o.guard=none) (sl x:Operand) (t u:TypeId)
 (ho:o.op=.call { callee:=.builtin .append,args:=#[sl,x],argTypes:=#[t,u] }) (base:Nat) (e:TypeId) (i:TypeInfo) (ht:P.underlying t=some (.slice e)) (hu:P.underlying u=some .string) (hi:P.info? e=some i) (hz:i.zero=some (.int .u8 0)) (hsize:i.size=1) (hby:i.bytes=1)
 (v:Value) (n:Nat) (xs:List Value) (hs:a.eval sl=v) (hown:w.ownsRow base e 1 v n xs) (s:ByteArray) (hx:a.eval x=.string s) (h63:n+s.size≤maxLen) (hbytes:n+s.size≤140737488355328) (hbase:base≤w.heap.size)
 (h:∀ v' w',w'.ownsRow base e 1 v' (n+s.size) (xs++Lib.strCells s)→w.grownBy w' v.ownBlock→(v'.ownBlock=v.ownBlock∨v'.ownBlock=some w.heap.size)→wpList P ops Q rest (a.put o.dst v') w'):wpList P ops Q (o :: rest) a w:=by
 obtain ⟨v',w',hr,h2,h3,h4⟩:=Lib.run_append_own_string (P:=P) w base t u o.type e i ht hu hi hz hsize hby v n xs hown s h63 hbytes hbase
 have h5:=append_text_at ht hu hi hz hsize hby hown h63 hbytes hr h4
 refine wpList_plain hgd fun K hK=>?_
 have hgo:K (a.put o.dst v') w':=hK _ _ (h v' w' h2 h3 h5)
 simp only [Oper.wp,execOp,ho,resolve,invoke,builtin,Sem.run_bind,Sem.run_pure,Result.andThen_ok,List.map_toArray,List.map_cons,List.map_nil,hs,hx,hr]
 exact hgo
set_option maxHeartbeats 2000000 in
set_option maxRecDepth 100000 in
theorem writeString_any (B b:Nat) (bs:List Value) (s:ByteArray) (w:World) (h:IsW B b bs w) (hlen:bs.length+s.size≤1000000) (hBw:B≤w.heap.size) :
 Calls Tryz.prog 312 #[.pointer (some ⟨b,0,none⟩),.string s] w fun e w'=>e=.returned (.tuple #[.int .i64 s.size,.nilIface])∧WAt B b (.pointer (some ⟨b,0,none⟩)) (bs++Lib.strCells s) w'∧Kp B b w w':=by
 obtain ⟨i0,hi,hz0,hz1,hz2⟩:=info_parts Tryz.infoByte
 have HC:Hid (Calls Tryz.prog 329 #[.pointer (some ⟨b,0,none⟩)] w fun e w'=>e=.returned (.tuple #[])∧WAt B b (.pointer (some ⟨b,0,none⟩)) bs w'∧Kp B b w w'):=copy_any B b bs w h
 clear h
 go_enter Tryz.func312,Tryz.ntmps312
 go_wp2_with fail
 refine HC.out.mono ?_
 rintro e w1 ⟨rfl,h1,hb1⟩
 obtain ⟨hB,v,hbk,hown,hne⟩:=h1
 have c0:w1.cell? ⟨b,0,none⟩=some (.pointer (some ⟨b,0,none⟩)):=cellsAt hbk 0
 have c1:w1.cell? ⟨b,1,none⟩=some v:=cellsAt hbk 1
 have hsz1:=hb1.size
 have HO:Hid (w1.ownsRow B 5 1 v bs.length bs):=hown
 have HK:Hid (w1.heap[b]?=some (.cells #[.pointer (some ⟨b,0,none⟩),v] 272 (0,0))):=hbk
 clear hown hbk
 go_wp2_with (at_builtin;refine wpList_append_text _ rfl _ _ 157 9 rfl B 5 i0 Tryz.underlying157 Tryz.underlying9 hi hz0 hz1 hz2 _ bs.length bs rfl HO.out s rfl ?c3 ?c4 ?c5 ?_)
 case c3=>(unfold maxLen;omega)
 case c4=>omega
 case c5=>omega
 intro v' w2 hown' hgrow hat
 have hlt:b < w1.heap.size:=(Array.getElem?_eq_some_iff.1 HK.out).1
 have hb2:w2.heap[b]?=some (.cells #[.pointer (some ⟨b,0,none⟩),v] 272 (0,0)):=by
  rw [hgrow.block b hlt (fun e=>hne e.symm)]
  exact HK.out
 have d0:w2.cell? ⟨b,0,none⟩=some (.pointer (some ⟨b,0,none⟩)):=cellsAt hb2 0
 have d1:w2.cell? ⟨b,1,none⟩=some v:=cellsAt hb2 1
 have f1:w2.frozen? ⟨b,1,none⟩=false:=Lib.frozen_of_heap hb2 1
 have HB2:Hid (Below B w w2∧Lib.OthersKept 5 (some b) w w2):=(show _∧_ from ⟨hb1.bel.grown hgrow (by omega) (fun k hk=>(HO.out.lt k hk).1),hb1.oth.grown hgrow (own_kind HO.out)⟩)
 have HKQ:Hid (Kq b w (w2.setCell ⟨b,1,none⟩ v')):=hb1.kq.trans (Kq.step HK.out hb2 (fun k hk hkn=>hgrow.block k hk hkn) (hat.imp id (fun e k hk=>by rw [e] at hk;simp at hk;omega))) hsz1
 have HK2:Hid (w2.heap[b]?=some (.cells #[.pointer (some ⟨b,0,none⟩),v] 272 (0,0))):=hb2
 have HO2:Hid (w2.ownsRow B 5 1 v' (bs++Lib.strCells s).length (bs++Lib.strCells s)):=(show World.ownsRow _ _ _ _ _ _ _ by simpa [Lib.strCells_length] using hown')
 obtain ⟨ao,n',cap,hv⟩:∃ ao n' cap,v'=.slice ao n' cap:=by
  rcases hown'.2 with ⟨hv,_⟩ | ⟨g,cap,cur,hv,_⟩
  ·exact ⟨_,_,_,hv⟩
  ·exact ⟨_,_,_,hv⟩
 subst hv
 clear hown' hgrow hb2 c0 c1 hb1 hat
 go_wp2_with fail
 go_ret2
 refine ⟨rfl,?_,?_⟩
 ·exact Lib.BuilderAt.put (T:=272) (e:=5) hB HK2.out (bs':=bs++Lib.strCells s) HO2.out (by decide)
 ·exact ⟨HB2.out.1.setCell (p:=⟨b,1,none⟩) hB _,HB2.out.2.setCell ⟨b,1,none⟩ rfl _,HKQ.out⟩
end Go.Proofs.YtffdoiokmiklgaaGreatDoor
namespace Go.Proofs
open Go.Shelf
def Tryz.laysM171_ren:Go.Shelf.Ren:=⟨fun | 171=>230 | 243=>266 | 246=>304 | 283=>321 | 284=>322 | 285=>323 | 286=>324 | 129=>207 | 317=>334 | 318=>335 | 319=>336 | 320=>337 | 337=>340 | 338=>341 | n=>n,fun | 3=>3 | 9=>9 | 2=>2 | 4=>4 | 171=>328 | 0=>0 | 53=>226 | 37=>157 | 5=>5 | 173=>330 | 212=>342 | 51=>224 | 20=>20 | 213=>343 | 46=>176 | 232=>347 | 233=>348 | n=>n,fun | 17=>3 | 18=>4 | 19=>5 | n=>n⟩
theorem Tryz.laysM171:Go.Proofs.LaysM.n171 Tryz.prog Tryz.laysM171_ren:={
 mixed:=by kernel_rfl
 f129:=Tryz.func207.trans (congrArg some (by kernel_rfl))
 f171:=Tryz.func230.trans (congrArg some (by kernel_rfl))
 f243:=Tryz.func266.trans (congrArg some (by kernel_rfl))
 f246:=Tryz.func304.trans (congrArg some (by kernel_rfl))
 f283:=Tryz.func321.trans (congrArg some (by kernel_rfl))
 f284:=Tryz.func322.trans (congrArg some (by kernel_rfl))
 f285:=Tryz.func323.trans (congrArg some (by kernel_rfl))
 f286:=Tryz.func324.trans (congrArg some (by kernel_rfl))
 f317:=Tryz.func334.trans (congrArg some (by kernel_rfl))
 f318:=Tryz.func335.trans (congrArg some (by kernel_rfl))
 f319:=Tryz.func336.trans (congrArg some (by kernel_rfl))
 f320:=Tryz.func337.trans (congrArg some (by kernel_rfl))
 f337:=Tryz.func340.trans (congrArg some (by kernel_rfl))
 f338:=Tryz.func341.trans (congrArg some (by kernel_rfl))
 t0:=Tryz.underlying0
 a0:=Tryz.isAgg0
 z0:=Tryz.sizeOf0
 v0:=Tryz.zeroValue0
 t2:=Tryz.underlying2
 a2:=Tryz.isAgg2
 z2:=Tryz.sizeOf2
 v2:=Tryz.zeroValue2
 t3:=Tryz.underlying3
 a3:=Tryz.isAgg3
 z3:=Tryz.sizeOf3
 v3:=Tryz.zeroValue3
 t4:=Tryz.underlying4
 a4:=Tryz.isAgg4
 z4:=Tryz.sizeOf4
 v4:=Tryz.zeroValue4
 t5:=Tryz.underlying5
 a5:=Tryz.isAgg5
 z5:=Tryz.sizeOf5
 v5:=Tryz.zeroValue5
 t9:=Tryz.underlying9
 a9:=Tryz.isAgg9
 z9:=Tryz.sizeOf9
 v9:=Tryz.zeroValue9
 t20:=Tryz.underlying20
 a20:=Tryz.isAgg20
 z20:=Tryz.sizeOf20
 v20:=Tryz.zeroValue20
 t37:=Tryz.underlying157
 a37:=Tryz.isAgg157
 z37:=Tryz.sizeOf157
 v37:=Tryz.zeroValue157
 t46:=Tryz.underlying176
 a46:=Tryz.isAgg176
 z46:=Tryz.sizeOf176
 v46:=Tryz.zeroValue176
 t51:=Tryz.underlying224
 a51:=Tryz.isAgg224
 z51:=Tryz.sizeOf224
 v51:=Tryz.zeroValue224
 t53:=Tryz.underlying226
 a53:=Tryz.isAgg226
 z53:=Tryz.sizeOf226
 v53:=Tryz.zeroValue226
 t171:=Tryz.underlying328
 a171:=Tryz.isAgg328
 z171:=Tryz.sizeOf328
 v171:=Tryz.zeroValue328
 t173:=Tryz.underlying330
 a173:=Tryz.isAgg330
 z173:=Tryz.sizeOf330
 v173:=Tryz.zeroValue330
 t212:=Tryz.underlying342
 a212:=Tryz.isAgg342
 z212:=Tryz.sizeOf342
 v212:=Tryz.zeroValue342
 t213:=Tryz.underlying343
 a213:=Tryz.isAgg343
 z213:=Tryz.sizeOf343
 t232:=Tryz.underlying347
 a232:=Tryz.isAgg347
 z232:=Tryz.sizeOf347
 v232:=Tryz.zeroValue347
 t233:=Tryz.underlying348
 a233:=Tryz.isAgg348
 z233:=Tryz.sizeOf348
 v233:=Tryz.zeroValue348
 g17:=by kernel_rfl
 g18:=by kernel_rfl
 g19:=by kernel_rfl
 i0:=by kernel_rfl
 i2:=by kernel_rfl
 i3:=by kernel_rfl
 i4:=by kernel_rfl
 i5:=by kernel_rfl
 i9:=by kernel_rfl
 i20:=by kernel_rfl
 i37:=by kernel_rfl
 i46:=by kernel_rfl
 i51:=by kernel_rfl
 i53:=by kernel_rfl
 i171:=by kernel_rfl
 i173:=by kernel_rfl
 i212:=by kernel_rfl
 i232:=by kernel_rfl
 i233:=by kernel_rfl
 m17:=by kernel_rfl
 m18:=by kernel_rfl
 m19:=by kernel_rfl }
open Go.RowKit Go.Sort Go.Lib in
theorem Tryz.strconv_Itoa (n : Int) (h0 : -9223372036854775808 ≤ n) (h1 : n ≤ 9223372036854775807) (w : World) (htab : Lib.TabIs Tryz.prog w "internal/strconv.uint64pow10" .u64 Lib.pow10Tab) :
 Calls Tryz.prog 230 #[.int .i64 n] w fun e w'=>e=.returned (.string ⟨(Lib.itoa n).toArray⟩)∧∃ k os,w'=grow (w.drewN k) os:=Any.strconv_Itoa Tryz.laysM171 n h0 h1 w htab
end Go.Proofs
namespace Go.Proofs.YtffdoiokmiklgaaGreatDoor
open Go.RowKit
def itoaB (n:Int):ByteArray:=⟨(Lib.itoa n).toArray⟩
def numL (n:Int):List Value:=Lib.strCells (itoaB n)++[.int .u8 59]
def In63 (n:Int):Prop := -9223372036854775808≤n∧n≤9223372036854775807
def Tab (B : Nat) (w : World) : Prop := Lib.TabBelow Tryz.prog B w "internal/strconv.uint64pow10" .u64 Lib.pow10Tab
theorem Tab.below {B:Nat} {w w':World} (h:Tab B w) (hb:Below B w w'):Tab B w':=fun W hW=>h W (hb.trans hW)
theorem Kp.of_below {B b:Nat} {w w':World} (hb:Below w.heap.size w w') (hB:B≤w.heap.size):Kp B b w w':=
 ⟨hb.mono hB,fun k o hk _ _=>(hb.block k (Array.getElem?_eq_some_iff.1 hk).1).trans hk,fun hbb=>⟨fun k hk _ _=>hb.block k hk,.inl (by unfold bufOf;rw [hb.cell (p:=⟨b,1,none⟩) hbb])⟩⟩
theorem IsW.below {B b:Nat} {bs:List Value} {w w':World} (h:IsW B b bs w) (hb:Below w.heap.size w w'):IsW B b bs w':=by
 have go:∀ p,WAt B b p bs w→WAt B b p bs w':=fun p ⟨hB,v,hbk,ho,hne⟩=>
  ⟨hB,v,(hb.block _ (Array.getElem?_eq_some_iff.1 hbk).1).trans hbk,by
   refine ⟨ho.1,?_⟩
   rcases ho.2 with h | ⟨g,c,cur,h1,h2,h3,h4⟩
   ·exact .inl h
   ·exact .inr ⟨g,c,cur,h1,h2,(hb.block _ (Array.getElem?_eq_some_iff.1 h3).1).trans h3,h4⟩,hne⟩
 rcases h with h | h
 ·exact .inl (go _ h)
 ·exact .inr (go _ h)
theorem IsW.lt {B b:Nat} {bs:List Value} {w:World} (h:IsW B b bs w):b < w.heap.size:=by
 rcases h with h | h
 ·exact h.lt
 ·exact h.lt
theorem itoa_any (n:Int) (B:Nat) (w:World) (hn:In63 n) (hT:Tab B w) :
 Calls Tryz.prog 230 #[.int .i64 n] w fun e w'=>e=.returned (.string (itoaB n))∧Below w.heap.size w w':=by
 refine (Tryz.strconv_Itoa n hn.1 hn.2 w hT.here).mono ?_
 rintro e w' ⟨rfl,k,os,rfl⟩
 exact ⟨rfl,Lib.below_grow _ w (Nat.le_refl _) k os⟩
theorem itoaB_size {n:Int} (h:In63 n):(itoaB n).size≤20:=by
 have hd:∀ u:Nat,u < 10 ^ 19→(Lib.decDigits u).length≤19:=fun u hu=>by
  rw [Lib.decDigits_length]
  apply Classical.byContradiction
  intro hc
  have h1:∀ (k u:Nat),Lib.nDigits u≥k+1→10 ^ k≤u∨k=0:=by
   intro k
   induction k with
   | zero=>intro u _;exact .inr rfl
   | succ k ih=>
     intro u hu
     by_cases h10:u < 10
     ·rw [Lib.nDigits_small h10] at hu;omega
     ·rw [Lib.nDigits_big h10] at hu
      rcases ih (u / 10) (by omega) with h | h
      ·left;rw [Nat.pow_succ];omega
      ·subst h;left;omega
  rcases h1 19 u (by omega) with h | h
  ·omega
  ·cases h
 show (Lib.itoa n).toArray.size≤20
 rw [List.size_toArray]
 unfold Lib.itoa
 obtain ⟨h1,h2⟩:=h
 split
 ·rw [List.length_cons];have:=hd n.natAbs (by omega);omega
 ·have:=hd n.toNat (by omega);omega
theorem numL_len {n:Int} (h:In63 n):(numL n).length≤21:=by
 unfold numL
 rw [List.length_append,Lib.strCells_length]
 have:=itoaB_size h
 simp;omega
theorem nums_len:∀ (ns:List Int),(∀ n∈ns,In63 n)→(ns.flatMap numL).length≤21 * ns.length
 | [],_=>by simp
 | x :: r,h=>by
   have h1:=numL_len (h x (by simp))
   have h2:=nums_len r (fun n hn=>h n (by simp [hn]))
   rw [List.flatMap_cons,List.length_append,List.length_cons];omega
set_option maxHeartbeats 3200000 in
set_option maxRecDepth 100000 in
theorem wnumbers_any (B b g cap:Nat) (ns:List Int) (cs:Array Value) (fz:Nat × Nat) (bs:List Value) (w:World) (h:IsW B b bs w) (hlen:bs.length+21 * ns.length≤900000) (hBw:B≤w.heap.size) (hT:Tab B w) (hg:w.heap[g]?=some (.cells cs 3 fz)) (hgb:g≠b)
 (hcs:∀ j,j < ns.length→cs[j]?=some (.int .i64 (ns.getD j 0))) (hn:∀ n∈ns,In63 n) :
 Calls Tryz.prog 289 #[.pointer (some ⟨b,0,none⟩),.slice (some ⟨g,0,none⟩) ns.length cap] w fun e w'=>e=.returned (.tuple #[])∧IsW B b (bs++ns.flatMap numL) w'∧Kp B b w w':=by
 have HI:Hid (IsW B b bs w):=h
 have HG:Hid (w.heap[g]?=some (.cells cs 3 fz)):=hg
 have HCS:Hid (∀ j,j < ns.length→cs[j]?=some (.int .i64 (ns.getD j 0))):=hcs
 have HN:Hid (∀ n∈ns,In63 n):=hn
 have HT:Hid (Tab B w):=hT
 clear h hg hcs hn hT
 generalize hnl:ns.length=nl at *
 have HNL:Hid (ns.length=nl):=hnl
 have HLEN:Hid (bs.length+21 * nl≤900000):=hlen
 have hnl':nl≤50000:=by omega
 clear hnl hlen
 go_enter Tryz.func289,Tryz.ntmps289
 go_wp2_with fail
 go_loopw [8] (fun i w'=>∃ k:Nat,k≤nl∧i=.int .i64 k∧Hid (IsW B b (bs++(ns.take k).flatMap numL) w')∧Hid (Kp B b w w')) (fun i _=>nl - (intOf i).toNat)
 case atStart=>exact ⟨0,Nat.zero_le _,rfl,by simpa using HI,Kp.refl _ _ _⟩
 case round=>
  obtain ⟨k,hk,rfl,HW,HK⟩:=hrel
  by_cases hlt:k < nl
  ·have hgr:wr.heap[g]?=some (.cells cs 3 fz):=HK.out.oth g _ HG.out (fun e=>hgb (by injection e)) (fun c z e=>by injection e with _ e2 _;cases e2)
   have c0:wr.cell? ⟨g,k,none⟩=some (.int .i64 (ns.getD k 0)):=(cellsAt hgr k).trans (HCS.out k hlt)
   have hkl:k < ns.length:=by rw [HNL.out];exact hlt
   have HNK:Hid (In63 (ns.getD k 0)):=HN.out _ (by rw [show ns.getD k 0=ns[k] by simp [List.getD,List.getElem?_eq_getElem hkl]];exact List.getElem_mem _)
   have HST:Hid ((ns.take (k+1)).flatMap numL=(ns.take k).flatMap numL++(Lib.strCells (itoaB (ns.getD k 0))++[.int .u8 59])):=by
    show List.flatMap numL _=_
    rw [List.take_succ_eq_append_getElem hkl,List.flatMap_append]
    simp [numL,List.getD,List.getElem?_eq_getElem hkl]
   have HLK:Hid ((bs++(ns.take k).flatMap numL).length+21≤1000000):=by
    have h1:=nums_len (ns.take k) (fun n hn=>HN.out n (List.mem_of_mem_take hn))
    have h2:(ns.take k).length≤k:=List.length_take_le _ _
    have:=HLEN.out
    show (bs++(ns.take k).flatMap numL).length+21≤1000000
    rw [List.length_append];omega
   generalize ns.getD k 0=n at *
   generalize (ns.take k).flatMap numL=L at *
   have HTR:Hid (Tab B wr):=HT.out.below HK.out.bel
   have hBr:B≤wr.heap.size:=Nat.le_trans hBw HK.out.size
   have HIT:Hid (Calls Tryz.prog 230 #[.int .i64 n] wr.drew fun e w'=>e=.returned (.string (itoaB n))∧Below wr.heap.size wr w'):=(itoa_any n B wr.drew HNK.out (HTR.out.below (Below.refl _ _).drew)).mono (by
    rintro e w' ⟨rfl,hb⟩
    exact ⟨rfl,(Below.refl _ _).drew.trans hb⟩)
   have HSZ:Hid ((itoaB n).size≤20):=itoaB_size HNK.out
   have HWS:Hid (∀ W,Below wr.heap.size wr W→Calls Tryz.prog 312 #[.pointer (some ⟨b,0,none⟩),.string (itoaB n)] W fun e w'=>e=.returned (.tuple #[.int .i64 (itoaB n).size,.nilIface])∧WAt B b (.pointer (some ⟨b,0,none⟩)) (bs++L++Lib.strCells (itoaB n)) w'∧Kp B b wr w'):=fun W hW=>by
    refine (writeString_any B b (bs++L) (itoaB n) W (HW.out.below hW) (by have:=HLK.out;have:=HSZ.out;omega) (Nat.le_trans hBr hW.size)).mono ?_
    rintro e w' ⟨rfl,h1,h2⟩
    exact ⟨rfl,h1,(Kp.of_below hW hBr).trans h2⟩
   clear hgr
   generalize itoaB n=s at *
   go_upto_region 3 with fail
   go_region_with (first | (go_at_call 230;refine HIT.out.mono ?_;rintro e w1 ⟨rfl,hb1⟩;have HB1:Hid (Below wr.heap.size wr w1):=hb1;clear hb1) | (go_at_call 312;refine (HWS.out w1 HB1.out).mono ?_;rintro e w2 ⟨rfl,h2,hb2⟩;have HW2:Hid (WAt B b (.pointer (some ⟨b,0,none⟩)) (bs++L++Lib.strCells s) w2):=h2;have HK2:Hid (Kp B b wr w2):=hb2;clear h2 hb2))
   all_goals
    go_wp2_with fail
    refine (writeByte_any B b _ 59 w2 (.inr HW2.out) (by rw [List.length_append,Lib.strCells_length];have:=HLK.out;have:=HSZ.out;omega) (Nat.le_trans hBr HK2.out.size)).mono ?_
    rintro e w3 ⟨rfl,h3,hb3⟩
    have HW3:Hid (IsW B b (bs++(L++(Lib.strCells s++[.int .u8 59]))) w3):=(show IsW _ _ _ _ by rw [← List.append_assoc,← List.append_assoc];exact .inr h3)
    have HK3:Hid (Kp B b w w3):=HK.out.trans (HK2.out.trans hb3)
    clear h3 hb3
    go_wp2_with fail
    go_roundw
    case rel=>exact ⟨k+1,by omega,by go_num,by rw [HST.out];exact HW3,HK3⟩
    case measure=>simp [intOf];omega
  ·have hkn:k=nl:=by omega
   have HWE:Hid (IsW B b (bs++ns.flatMap numL) wr):=by
    have h:=HW.out
    rw [List.take_of_length_le (by rw [HNL.out];omega)] at h
    exact h
   go_wp2_with fail
   simp [bodyPost,results,Tryz.results289]
   exact ⟨HWE.out,HK.out⟩
def txtL (s:ByteArray):List Value:=numL s.size++Lib.strCells s
def flgL (y:Bool):List Value:=numL (if y=true then 1 else 0)
theorem in63_nat {n:Nat} (h:n≤1000000):In63 (n:Int):=⟨by omega,by omega⟩
set_option maxHeartbeats 1600000 in
set_option maxRecDepth 100000 in
theorem wtext_any (B b:Nat) (s:ByteArray) (bs:List Value) (w:World) (h:IsW B b bs w) (hlen:bs.length+s.size≤800000) (hBw:B≤w.heap.size) (hT:Tab B w) :
 Calls Tryz.prog 285 #[.pointer (some ⟨b,0,none⟩),.string s] w fun e w'=>e=.returned (.tuple #[])∧IsW B b (bs++txtL s) w'∧Kp B b w w':=by
 have hb:=h.lt
 obtain ⟨W1,hW1⟩:∃ W1,W1=w.alloc (.cells #[.int .i64 (s.size:Int)] 3):=⟨_,rfl⟩
 have hb1:Below w.heap.size w W1:=by rw [hW1];exact (Below.refl _ _).alloc (Nat.le_refl _) _
 have hg1:W1.heap[w.heap.size]?=some (.cells #[.int .i64 (s.size:Int)] 3 (0,0)):=by rw [hW1];exact heap_alloc_new w _
 have HN:Hid (Calls Tryz.prog 289 #[.pointer (some ⟨b,0,none⟩),.slice (some ⟨w.heap.size,0,none⟩) 1 1] W1 fun e w'=>e=.returned (.tuple #[])∧IsW B b (bs++numL s.size) w'∧Kp B b w w'):=by
  refine (wnumbers_any B b w.heap.size 1 [(s.size:Int)] _ _ bs W1 (h.below hb1) (by simp;omega) (Nat.le_trans hBw hb1.size) (hT.below (hb1.mono hBw)) hg1 (by omega) (fun j hj=>?_) (fun n hn=>?_)).mono ?_
  ·have:j=0:=by simpa using hj
   subst this;rfl
  ·simp at hn;rw [hn];exact in63_nat (by omega)
  ·rintro e w' ⟨rfl,h1,h2⟩
   exact ⟨rfl,by simpa using h1,(Kp.of_below hb1 hBw).trans h2⟩
 have HL:Hid ((bs++numL s.size).length+s.size≤1000000):=by
  show (bs++numL s.size).length+s.size≤1000000
  rw [List.length_append]
  have:=numL_len (in63_nat (n:=s.size) (by omega))
  omega
 clear h hg1 hb1 hT
 go_enter Tryz.func285,Tryz.ntmps285
 go_wp2_with fail
 rw [← hW1]
 refine HN.out.mono ?_
 rintro e w1 ⟨rfl,h1,hk1⟩
 have HW1:Hid (IsW B b (bs++numL s.size) w1):=h1
 have HK1:Hid (Kp B b w w1):=hk1
 clear h1 hk1 hW1
 go_wp2_with fail
 refine (writeString_any B b _ s w1 HW1.out HL.out (Nat.le_trans hBw HK1.out.size)).mono ?_
 rintro e w2 ⟨rfl,h2,hk2⟩
 have HW2:Hid (IsW B b (bs++txtL s) w2):=(show IsW _ _ _ _ by unfold txtL;rw [← List.append_assoc];exact .inr h2)
 have HK2:Hid (Kp B b w w2):=HK1.out.trans hk2
 clear h2 hk2
 go_wp2_with fail
 simp [bodyPost,results,Tryz.results285]
 exact ⟨HW2.out,HK2.out⟩
set_option maxHeartbeats 1600000 in
set_option maxRecDepth 100000 in
theorem wflag_any (B b:Nat) (y:Bool) (bs:List Value) (w:World) (h:IsW B b bs w) (hlen:bs.length≤800000) (hBw:B≤w.heap.size) (hT:Tab B w) :
 Calls Tryz.prog 286 #[.pointer (some ⟨b,0,none⟩),.bool y] w fun e w'=>e=.returned (.tuple #[])∧IsW B b (bs++flgL y) w'∧Kp B b w w':=by
 have hb:=h.lt
 have HN:Hid (∀ n:Int,(n=0∨n=1)→Calls Tryz.prog 289 #[.pointer (some ⟨b,0,none⟩),.slice (some ⟨w.heap.size,0,none⟩) 1 1] (w.alloc (.cells #[.int .i64 n] 3)) fun e w'=>e=.returned (.tuple #[])∧IsW B b (bs++numL n) w'∧Kp B b w w'):=fun n hn=>by
  have hb1:Below w.heap.size w (w.alloc (.cells #[.int .i64 n] 3)):=(Below.refl _ _).alloc (Nat.le_refl _) _
  refine (wnumbers_any B b w.heap.size 1 [n] _ _ bs _ (h.below hb1) (by simp;omega) (Nat.le_trans hBw hb1.size) (hT.below (hb1.mono hBw)) (heap_alloc_new w _) (by omega) (fun j hj=>?_) (fun m hm=>?_)).mono ?_
  ·have:j=0:=by simpa using hj
   subst this;rfl
  ·simp at hm;rw [hm];rcases hn with rfl | rfl<;>exact ⟨by omega,by omega⟩
  ·rintro e w' ⟨rfl,h1,h2⟩
   exact ⟨rfl,by simpa using h1,(Kp.of_below hb1 hBw).trans h2⟩
 clear h hT
 cases y
 ·have HF:Hid (bs++numL 0=bs++flgL false):=rfl
  go_enter Tryz.func286,Tryz.ntmps286
  go_wp2_with fail
  refine (HN.out 0 (.inl rfl)).mono ?_
  rintro e w1 ⟨rfl,h1,hk1⟩
  have HW1:Hid (IsW B b (bs++flgL false) w1):=h1
  have HK1:Hid (Kp B b w w1):=hk1
  clear h1 hk1
  go_wp2_with fail
  simp [bodyPost,results,Tryz.results286]
  exact ⟨HW1.out,HK1.out⟩
 ·go_enter Tryz.func286,Tryz.ntmps286
  go_wp2_with fail
  refine (HN.out 1 (.inr rfl)).mono ?_
  rintro e w1 ⟨rfl,h1,hk1⟩
  have HW1:Hid (IsW B b (bs++flgL true) w1):=h1
  have HK1:Hid (Kp B b w w1):=hk1
  clear h1 hk1
  go_wp2_with fail
  simp [bodyPost,results,Tryz.results286]
  exact ⟨HW1.out,HK1.out⟩
theorem txtL_len {s:ByteArray} (h:s.size≤1000):(txtL s).length≤1100:=by
 unfold txtL
 rw [List.length_append,Lib.strCells_length]
 have:=numL_len (in63_nat (n:=s.size) (by omega))
 omega
theorem flgL_len (y:Bool):(flgL y).length≤1100:=by
 unfold flgL
 have:=numL_len (n:=if y=true then 1 else 0) (by split<;>exact ⟨by omega,by omega⟩)
 omega
theorem wnums_at (B b:Nat) (ns:List Int) (bs:List Value) (w:World) (h:IsW B b bs w) (hlen:bs.length+21 * ns.length≤900000) (hBw:B≤w.heap.size) (hT:Tab B w) (hn:∀ n∈ns,In63 n) :
 Calls Tryz.prog 289 #[.pointer (some ⟨b,0,none⟩),.slice (some ⟨w.heap.size,0,none⟩) ns.length ns.length] (w.alloc (.cells (ns.map (Value.int .i64)).toArray 3)) fun e w'=>e=.returned (.tuple #[])∧IsW B b (bs++ns.flatMap numL) w'∧Kp B b w w':=by
 have hb1:Below w.heap.size w (w.alloc (.cells (ns.map (Value.int .i64)).toArray 3)):=(Below.refl _ _).alloc (Nat.le_refl _) _
 refine (wnumbers_any B b w.heap.size ns.length ns _ _ bs _ (h.below hb1) hlen (Nat.le_trans hBw hb1.size) (hT.below (hb1.mono hBw)) (heap_alloc_new w _) (by have:=h.lt;omega) (fun j hj=>?_) hn).mono ?_
 ·simp [List.getD,List.getElem?_eq_getElem hj]
 ·rintro e w' ⟨rfl,h1,h2⟩
  exact ⟨rfl,h1,(Kp.of_below hb1 hBw).trans h2⟩
theorem Kp.keeps {B b k:Nat} {w w':World} {cs:Array Value} {T:TypeId} {fz:Nat × Nat} (h:Kp B b w w') (hk:w.heap[k]?=some (.cells cs T fz)) (hne:k≠b) (hT:T≠5):w'.heap[k]?=some (.cells cs T fz):=
 h.oth k _ hk (fun e=>hne (by injection e)) (fun c z e=>by injection e with _ e2 _;exact hT e2)
def elL (m:Mem):List Value:=txtL m.name++[m.state,m.life,m.addr].flatMap numL++flgL m.server
def wok (m:Mem):Prop:=m.name.size≤1000∧In63 m.state∧In63 m.life∧In63 m.addr
theorem elL_len {m:Mem} (h:wok m):(elL m).length≤3300:=by
 unfold elL
 obtain ⟨h0,h1,h2,h3⟩:=h
 have l0:=txtL_len h0
 have l1:=nums_len [m.state,m.life,m.addr] (fun n hn=>by simp only [List.mem_cons,List.not_mem_nil,or_false] at hn;rcases hn with rfl | rfl | rfl<;>assumption)
 simp only [List.length_cons,List.length_nil] at l1
 have l2:=flgL_len m.server
 simp only [List.length_append]
 omega
set_option maxHeartbeats 6400000 in
set_option maxRecDepth 100000 in
theorem wone_any (B b wb:Nat) (m:Mem) (bs:List Value) (w:World) (h:IsW B b bs w) (hlen:bs.length≤700000) (hBw:B≤w.heap.size) (hT:Tab B w) (hwb:w.heap[wb]?=some (.cells #[.pointer (some ⟨b,0,none⟩)] 295 (0,0))) (hne:wb≠b) (hm:wok m) :
 Calls Tryz.prog 288 #[.agg #[.string m.name,.int .i64 m.state,.int .i64 m.life,.int .i64 m.addr,.bool m.server],.pointer (some ⟨wb,0,none⟩)] w fun e w'=>e=.returned (.tuple #[])∧IsW B b (bs++elL m) w'∧Kp B b w w':=by
 have HEL:Hid (elL m=txtL m.name++[m.state,m.life,m.addr].flatMap numL++flgL m.server):=rfl
 generalize elL m=EL at *
 obtain ⟨x0,x1,x2,x3,x4⟩:=m
 obtain ⟨h0,h1,h2,h3⟩:=hm
 simp only at h0 h1 h2 h3 HEL ⊢
 have hlb:=h.lt
 have hwl:wb < w.heap.size:=(Array.getElem?_eq_some_iff.1 hwb).1
 obtain ⟨W0,hW0⟩:∃ W0,W0=w.alloc (.cells #[.string x0,.int .i64 x1,.int .i64 x2,.int .i64 x3,.bool x4] 56):=⟨_,rfl⟩
 have hb0:Below w.heap.size w W0:=by rw [hW0];exact (Below.refl _ _).alloc (Nat.le_refl _) _
 have hk0:Kp B b w W0:=Kp.of_below hb0 hBw
 have HW0:Hid (IsW B b bs W0):=h.below hb0
 have HK0:Hid (Kp B b w W0):=hk0
 have HX0:Hid (W0.heap[w.heap.size]?=some (.cells #[.string x0,.int .i64 x1,.int .i64 x2,.int .i64 x3,.bool x4] 56 (0,0))):=by rw [hW0];exact heap_alloc_new w _
 have HB0:Hid (W0.heap[wb]?=some (.cells #[.pointer (some ⟨b,0,none⟩)] 295 (0,0))):=(hb0.block _ hwl).trans hwb
 have HL0:Hid (bs.length≤700000):=hlen
 have HT:Hid (Tab B w):=hT
 clear h hb0 hk0 hwb hT hlen
 go_enter Tryz.func288,Tryz.ntmps288
 go_upto_region 1 with fail
 rw [← hW0]
 clear hW0
 have y0:W0.cell? ⟨wb,0,none⟩=some (.pointer (some ⟨b,0,none⟩)):=cellsAt HB0.out 0
 have z0:W0.cell? ⟨w.heap.size,0,none⟩=some (.string x0):=cellsAt HX0.out 0
 go_wp2_with fail
 refine (wtext_any B b x0 (bs) W0 HW0.out (by have:=HL0.out;omega) (Nat.le_trans hBw HK0.out.size) (HT.out.below HK0.out.bel)).mono ?_
 rintro e W1 ⟨rfl,hw,hk⟩
 have HW1:Hid (IsW B b (bs++txtL x0) W1):=hw
 have HK1:Hid (Kp B b w W1):=HK0.out.trans hk
 have HX1:Hid (W1.heap[w.heap.size]?=some (.cells #[.string x0,.int .i64 x1,.int .i64 x2,.int .i64 x3,.bool x4] 56 (0,0))):=hk.keeps HX0.out (by omega) (by decide)
 have HB1:Hid (W1.heap[wb]?=some (.cells #[.pointer (some ⟨b,0,none⟩)] 295 (0,0))):=hk.keeps HB0.out hne (by decide)
 have HL1:Hid ((bs++txtL x0).length≤701100):=by
  have g1:=HL0.out
  have g2:=txtL_len h0
  show List.length (bs++txtL x0)≤_
  rw [List.length_append]
  omega
 clear hw hk y0 z0
 have y0:W1.cell? ⟨wb,0,none⟩=some (.pointer (some ⟨b,0,none⟩)):=cellsAt HB1.out 0
 have z0:W1.cell? ⟨w.heap.size,1,none⟩=some (.int .i64 x1):=cellsAt HX1.out 1
 have z1:W1.cell? ⟨w.heap.size,2,none⟩=some (.int .i64 x2):=cellsAt HX1.out 2
 have z2:W1.cell? ⟨w.heap.size,3,none⟩=some (.int .i64 x3):=cellsAt HX1.out 3
 go_wp2_with fail
 refine (wnums_at B b [x1,x2,x3] (bs++txtL x0) W1 HW1.out (by have:=HL1.out;simp only [List.length_cons,List.length_nil];omega) (Nat.le_trans hBw HK1.out.size) (HT.out.below HK1.out.bel) (fun n hn=>by simp only [List.mem_cons,List.not_mem_nil,or_false] at hn;rcases hn with rfl | rfl | rfl<;>assumption)).mono ?_
 rintro e W2 ⟨rfl,hw,hk⟩
 have HW2:Hid (IsW B b (bs++txtL x0++[x1,x2,x3].flatMap numL) W2):=hw
 have HK2:Hid (Kp B b w W2):=HK1.out.trans hk
 have HX2:Hid (W2.heap[w.heap.size]?=some (.cells #[.string x0,.int .i64 x1,.int .i64 x2,.int .i64 x3,.bool x4] 56 (0,0))):=hk.keeps HX1.out (by omega) (by decide)
 have HB2:Hid (W2.heap[wb]?=some (.cells #[.pointer (some ⟨b,0,none⟩)] 295 (0,0))):=hk.keeps HB1.out hne (by decide)
 have HL2:Hid ((bs++txtL x0++[x1,x2,x3].flatMap numL).length≤702200):=by
  have g1:=HL1.out
  have g2:=nums_len [x1,x2,x3] (fun n hn=>by simp only [List.mem_cons,List.not_mem_nil,or_false] at hn;rcases hn with rfl | rfl | rfl<;>assumption)
  show List.length (bs++txtL x0++[x1,x2,x3].flatMap numL)≤_
  rw [List.length_append]
  simp only [List.length_cons,List.length_nil] at g2
  omega
 clear hw hk y0 z0 z1 z2
 have y0:W2.cell? ⟨wb,0,none⟩=some (.pointer (some ⟨b,0,none⟩)):=cellsAt HB2.out 0
 have z0:W2.cell? ⟨w.heap.size,4,none⟩=some (.bool x4):=cellsAt HX2.out 4
 go_wp2_with fail
 refine (wflag_any B b x4 (bs++txtL x0++[x1,x2,x3].flatMap numL) W2 HW2.out (by have:=HL2.out;omega) (Nat.le_trans hBw HK2.out.size) (HT.out.below HK2.out.bel)).mono ?_
 rintro e W3 ⟨rfl,hw,hk⟩
 have HW3:Hid (IsW B b (bs++txtL x0++[x1,x2,x3].flatMap numL++flgL x4) W3):=hw
 have HK3:Hid (Kp B b w W3):=HK2.out.trans hk
 have HX3:Hid (W3.heap[w.heap.size]?=some (.cells #[.string x0,.int .i64 x1,.int .i64 x2,.int .i64 x3,.bool x4] 56 (0,0))):=hk.keeps HX2.out (by omega) (by decide)
 have HB3:Hid (W3.heap[wb]?=some (.cells #[.pointer (some ⟨b,0,none⟩)] 295 (0,0))):=hk.keeps HB2.out hne (by decide)
 have HL3:Hid ((bs++txtL x0++[x1,x2,x3].flatMap numL++flgL x4).length≤703300):=by
  have g1:=HL2.out
  have g2:=flgL_len x4
  show List.length (bs++txtL x0++[x1,x2,x3].flatMap numL++flgL x4)≤_
  rw [List.length_append]
  omega
 clear hw hk y0 z0
 have HWE:Hid (IsW B b (bs++EL) W3):=by
  have h:=HW3.out
  rw [HEL.out]
  simp only [List.append_assoc] at h ⊢
  exact h
 go_wp2_with fail
 simp [bodyPost,results,Tryz.results288]
 exact ⟨HWE.out,HK3.out⟩
def Sv.elL (m:Sv.Svc):List Value:=txtL m.node++txtL m.idn++txtL m.name++txtL m.tag++[m.addr,m.port].flatMap numL++flgL m.passing++[m.version].flatMap numL++flgL m.gone
def Sv.wok (m:Sv.Svc):Prop:=m.node.size≤1000∧m.idn.size≤1000∧m.name.size≤1000∧m.tag.size≤1000∧In63 m.addr∧In63 m.port∧In63 m.version
theorem Sv.elL_len {m:Sv.Svc} (h:Sv.wok m):(Sv.elL m).length≤8800:=by
 unfold Sv.elL
 obtain ⟨h0,h1,h2,h3,h4,h5,h6⟩:=h
 have l0:=txtL_len h0
 have l1:=txtL_len h1
 have l2:=txtL_len h2
 have l3:=txtL_len h3
 have l4:=nums_len [m.addr,m.port] (fun n hn=>by simp only [List.mem_cons,List.not_mem_nil,or_false] at hn;rcases hn with rfl | rfl<;>assumption)
 simp only [List.length_cons,List.length_nil] at l4
 have l5:=flgL_len m.passing
 have l6:=nums_len [m.version] (fun n hn=>by simp only [List.mem_cons,List.not_mem_nil,or_false] at hn;rcases hn with rfl<;>assumption)
 simp only [List.length_cons,List.length_nil] at l6
 have l7:=flgL_len m.gone
 simp only [List.length_append]
 omega
set_option maxHeartbeats 6400000 in
set_option maxRecDepth 100000 in
theorem Sv.wone_any (B b wb:Nat) (m:Sv.Svc) (bs:List Value) (w:World) (h:IsW B b bs w) (hlen:bs.length≤700000) (hBw:B≤w.heap.size) (hT:Tab B w) (hwb:w.heap[wb]?=some (.cells #[.pointer (some ⟨b,0,none⟩)] 295 (0,0))) (hne:wb≠b) (hm:Sv.wok m) :
 Calls Tryz.prog 291 #[.agg #[.string m.node,.string m.idn,.string m.name,.string m.tag,.int .i64 m.addr,.int .i64 m.port,.bool m.passing,.int .i64 m.version,.bool m.gone],.pointer (some ⟨wb,0,none⟩)] w fun e w'=>e=.returned (.tuple #[])∧IsW B b (bs++Sv.elL m) w'∧Kp B b w w':=by
 have HEL:Hid (Sv.elL m=txtL m.node++txtL m.idn++txtL m.name++txtL m.tag++[m.addr,m.port].flatMap numL++flgL m.passing++[m.version].flatMap numL++flgL m.gone):=rfl
 generalize Sv.elL m=EL at *
 obtain ⟨x0,x1,x2,x3,x4,x5,x6,x7,x8⟩:=m
 obtain ⟨h0,h1,h2,h3,h4,h5,h6⟩:=hm
 simp only at h0 h1 h2 h3 h4 h5 h6 HEL ⊢
 have hlb:=h.lt
 have hwl:wb < w.heap.size:=(Array.getElem?_eq_some_iff.1 hwb).1
 obtain ⟨W0,hW0⟩:∃ W0,W0=w.alloc (.cells #[.string x0,.string x1,.string x2,.string x3,.int .i64 x4,.int .i64 x5,.bool x6,.int .i64 x7,.bool x8] 42):=⟨_,rfl⟩
 have hb0:Below w.heap.size w W0:=by rw [hW0];exact (Below.refl _ _).alloc (Nat.le_refl _) _
 have hk0:Kp B b w W0:=Kp.of_below hb0 hBw
 have HW0:Hid (IsW B b bs W0):=h.below hb0
 have HK0:Hid (Kp B b w W0):=hk0
 have HX0:Hid (W0.heap[w.heap.size]?=some (.cells #[.string x0,.string x1,.string x2,.string x3,.int .i64 x4,.int .i64 x5,.bool x6,.int .i64 x7,.bool x8] 42 (0,0))):=by rw [hW0];exact heap_alloc_new w _
 have HB0:Hid (W0.heap[wb]?=some (.cells #[.pointer (some ⟨b,0,none⟩)] 295 (0,0))):=(hb0.block _ hwl).trans hwb
 have HL0:Hid (bs.length≤700000):=hlen
 have HT:Hid (Tab B w):=hT
 clear h hb0 hk0 hwb hT hlen
 go_enter Tryz.func291,Tryz.ntmps291
 go_upto_region 1 with fail
 rw [← hW0]
 clear hW0
 have y0:W0.cell? ⟨wb,0,none⟩=some (.pointer (some ⟨b,0,none⟩)):=cellsAt HB0.out 0
 have z0:W0.cell? ⟨w.heap.size,0,none⟩=some (.string x0):=cellsAt HX0.out 0
 go_wp2_with fail
 refine (wtext_any B b x0 (bs) W0 HW0.out (by have:=HL0.out;omega) (Nat.le_trans hBw HK0.out.size) (HT.out.below HK0.out.bel)).mono ?_
 rintro e W1 ⟨rfl,hw,hk⟩
 have HW1:Hid (IsW B b (bs++txtL x0) W1):=hw
 have HK1:Hid (Kp B b w W1):=HK0.out.trans hk
 have HX1:Hid (W1.heap[w.heap.size]?=some (.cells #[.string x0,.string x1,.string x2,.string x3,.int .i64 x4,.int .i64 x5,.bool x6,.int .i64 x7,.bool x8] 42 (0,0))):=hk.keeps HX0.out (by omega) (by decide)
 have HB1:Hid (W1.heap[wb]?=some (.cells #[.pointer (some ⟨b,0,none⟩)] 295 (0,0))):=hk.keeps HB0.out hne (by decide)
 have HL1:Hid ((bs++txtL x0).length≤701100):=by
  have g1:=HL0.out
  have g2:=txtL_len h0
  show List.length (bs++txtL x0)≤_
  rw [List.length_append]
  omega
 clear hw hk y0 z0
 have y0:W1.cell? ⟨wb,0,none⟩=some (.pointer (some ⟨b,0,none⟩)):=cellsAt HB1.out 0
 have z0:W1.cell? ⟨w.heap.size,1,none⟩=some (.string x1):=cellsAt HX1.out 1
 go_wp2_with fail
 refine (wtext_any B b x1 (bs++txtL x0) W1 HW1.out (by have:=HL1.out;omega) (Nat.le_trans hBw HK1.out.size) (HT.out.below HK1.out.bel)).mono ?_
 rintro e W2 ⟨rfl,hw,hk⟩
 have HW2:Hid (IsW B b (bs++txtL x0++txtL x1) W2):=hw
 have HK2:Hid (Kp B b w W2):=HK1.out.trans hk
 have HX2:Hid (W2.heap[w.heap.size]?=some (.cells #[.string x0,.string x1,.string x2,.string x3,.int .i64 x4,.int .i64 x5,.bool x6,.int .i64 x7,.bool x8] 42 (0,0))):=hk.keeps HX1.out (by omega) (by decide)
 have HB2:Hid (W2.heap[wb]?=some (.cells #[.pointer (some ⟨b,0,none⟩)] 295 (0,0))):=hk.keeps HB1.out hne (by decide)
 have HL2:Hid ((bs++txtL x0++txtL x1).length≤702200):=by
  have g1:=HL1.out
  have g2:=txtL_len h1
  show List.length (bs++txtL x0++txtL x1)≤_
  rw [List.length_append]
  omega
 clear hw hk y0 z0
 have y0:W2.cell? ⟨wb,0,none⟩=some (.pointer (some ⟨b,0,none⟩)):=cellsAt HB2.out 0
 have z0:W2.cell? ⟨w.heap.size,2,none⟩=some (.string x2):=cellsAt HX2.out 2
 go_wp2_with fail
 refine (wtext_any B b x2 (bs++txtL x0++txtL x1) W2 HW2.out (by have:=HL2.out;omega) (Nat.le_trans hBw HK2.out.size) (HT.out.below HK2.out.bel)).mono ?_
 rintro e W3 ⟨rfl,hw,hk⟩
 have HW3:Hid (IsW B b (bs++txtL x0++txtL x1++txtL x2) W3):=hw
 have HK3:Hid (Kp B b w W3):=HK2.out.trans hk
 have HX3:Hid (W3.heap[w.heap.size]?=some (.cells #[.string x0,.string x1,.string x2,.string x3,.int .i64 x4,.int .i64 x5,.bool x6,.int .i64 x7,.bool x8] 42 (0,0))):=hk.keeps HX2.out (by omega) (by decide)
 have HB3:Hid (W3.heap[wb]?=some (.cells #[.pointer (some ⟨b,0,none⟩)] 295 (0,0))):=hk.keeps HB2.out hne (by decide)
 have HL3:Hid ((bs++txtL x0++txtL x1++txtL x2).length≤703300):=by
  have g1:=HL2.out
  have g2:=txtL_len h2
  show List.length (bs++txtL x0++txtL x1++txtL x2)≤_
  rw [List.length_append]
  omega
 clear hw hk y0 z0
 have y0:W3.cell? ⟨wb,0,none⟩=some (.pointer (some ⟨b,0,none⟩)):=cellsAt HB3.out 0
 have z0:W3.cell? ⟨w.heap.size,3,none⟩=some (.string x3):=cellsAt HX3.out 3
 go_wp2_with fail
 refine (wtext_any B b x3 (bs++txtL x0++txtL x1++txtL x2) W3 HW3.out (by have:=HL3.out;omega) (Nat.le_trans hBw HK3.out.size) (HT.out.below HK3.out.bel)).mono ?_
 rintro e W4 ⟨rfl,hw,hk⟩
 have HW4:Hid (IsW B b (bs++txtL x0++txtL x1++txtL x2++txtL x3) W4):=hw
 have HK4:Hid (Kp B b w W4):=HK3.out.trans hk
 have HX4:Hid (W4.heap[w.heap.size]?=some (.cells #[.string x0,.string x1,.string x2,.string x3,.int .i64 x4,.int .i64 x5,.bool x6,.int .i64 x7,.bool x8] 42 (0,0))):=hk.keeps HX3.out (by omega) (by decide)
 have HB4:Hid (W4.heap[wb]?=some (.cells #[.pointer (some ⟨b,0,none⟩)] 295 (0,0))):=hk.keeps HB3.out hne (by decide)
 have HL4:Hid ((bs++txtL x0++txtL x1++txtL x2++txtL x3).length≤704400):=by
  have g1:=HL3.out
  have g2:=txtL_len h3
  show List.length (bs++txtL x0++txtL x1++txtL x2++txtL x3)≤_
  rw [List.length_append]
  omega
 clear hw hk y0 z0
 have y0:W4.cell? ⟨wb,0,none⟩=some (.pointer (some ⟨b,0,none⟩)):=cellsAt HB4.out 0
 have z0:W4.cell? ⟨w.heap.size,4,none⟩=some (.int .i64 x4):=cellsAt HX4.out 4
 have z1:W4.cell? ⟨w.heap.size,5,none⟩=some (.int .i64 x5):=cellsAt HX4.out 5
 go_wp2_with fail
 refine (wnums_at B b [x4,x5] (bs++txtL x0++txtL x1++txtL x2++txtL x3) W4 HW4.out (by have:=HL4.out;simp only [List.length_cons,List.length_nil];omega) (Nat.le_trans hBw HK4.out.size) (HT.out.below HK4.out.bel) (fun n hn=>by simp only [List.mem_cons,List.not_mem_nil,or_false] at hn;rcases hn with rfl | rfl<;>assumption)).mono ?_
 rintro e W5 ⟨rfl,hw,hk⟩
 have HW5:Hid (IsW B b (bs++txtL x0++txtL x1++txtL x2++txtL x3++[x4,x5].flatMap numL) W5):=hw
 have HK5:Hid (Kp B b w W5):=HK4.out.trans hk
 have HX5:Hid (W5.heap[w.heap.size]?=some (.cells #[.string x0,.string x1,.string x2,.string x3,.int .i64 x4,.int .i64 x5,.bool x6,.int .i64 x7,.bool x8] 42 (0,0))):=hk.keeps HX4.out (by omega) (by decide)
 have HB5:Hid (W5.heap[wb]?=some (.cells #[.pointer (some ⟨b,0,none⟩)] 295 (0,0))):=hk.keeps HB4.out hne (by decide)
 have HL5:Hid ((bs++txtL x0++txtL x1++txtL x2++txtL x3++[x4,x5].flatMap numL).length≤705500):=by
  have g1:=HL4.out
  have g2:=nums_len [x4,x5] (fun n hn=>by simp only [List.mem_cons,List.not_mem_nil,or_false] at hn;rcases hn with rfl | rfl<;>assumption)
  show List.length (bs++txtL x0++txtL x1++txtL x2++txtL x3++[x4,x5].flatMap numL)≤_
  rw [List.length_append]
  simp only [List.length_cons,List.length_nil] at g2
  omega
 clear hw hk y0 z0 z1
 have y0:W5.cell? ⟨wb,0,none⟩=some (.pointer (some ⟨b,0,none⟩)):=cellsAt HB5.out 0
 have z0:W5.cell? ⟨w.heap.size,6,none⟩=some (.bool x6):=cellsAt HX5.out 6
 go_wp2_with fail
 refine (wflag_any B b x6 (bs++txtL x0++txtL x1++txtL x2++txtL x3++[x4,x5].flatMap numL) W5 HW5.out (by have:=HL5.out;omega) (Nat.le_trans hBw HK5.out.size) (HT.out.below HK5.out.bel)).mono ?_
 rintro e W6 ⟨rfl,hw,hk⟩
 have HW6:Hid (IsW B b (bs++txtL x0++txtL x1++txtL x2++txtL x3++[x4,x5].flatMap numL++flgL x6) W6):=hw
 have HK6:Hid (Kp B b w W6):=HK5.out.trans hk
 have HX6:Hid (W6.heap[w.heap.size]?=some (.cells #[.string x0,.string x1,.string x2,.string x3,.int .i64 x4,.int .i64 x5,.bool x6,.int .i64 x7,.bool x8] 42 (0,0))):=hk.keeps HX5.out (by omega) (by decide)
 have HB6:Hid (W6.heap[wb]?=some (.cells #[.pointer (some ⟨b,0,none⟩)] 295 (0,0))):=hk.keeps HB5.out hne (by decide)
 have HL6:Hid ((bs++txtL x0++txtL x1++txtL x2++txtL x3++[x4,x5].flatMap numL++flgL x6).length≤706600):=by
  have g1:=HL5.out
  have g2:=flgL_len x6
  show List.length (bs++txtL x0++txtL x1++txtL x2++txtL x3++[x4,x5].flatMap numL++flgL x6)≤_
  rw [List.length_append]
  omega
 clear hw hk y0 z0
 have y0:W6.cell? ⟨wb,0,none⟩=some (.pointer (some ⟨b,0,none⟩)):=cellsAt HB6.out 0
 have z0:W6.cell? ⟨w.heap.size,7,none⟩=some (.int .i64 x7):=cellsAt HX6.out 7
 go_wp2_with fail
 refine (wnums_at B b [x7] (bs++txtL x0++txtL x1++txtL x2++txtL x3++[x4,x5].flatMap numL++flgL x6) W6 HW6.out (by have:=HL6.out;simp only [List.length_cons,List.length_nil];omega) (Nat.le_trans hBw HK6.out.size) (HT.out.below HK6.out.bel) (fun n hn=>by simp only [List.mem_cons,List.not_mem_nil,or_false] at hn;rcases hn with rfl<;>assumption)).mono ?_
 rintro e W7 ⟨rfl,hw,hk⟩
 have HW7:Hid (IsW B b (bs++txtL x0++txtL x1++txtL x2++txtL x3++[x4,x5].flatMap numL++flgL x6++[x7].flatMap numL) W7):=hw
 have HK7:Hid (Kp B b w W7):=HK6.out.trans hk
 have HX7:Hid (W7.heap[w.heap.size]?=some (.cells #[.string x0,.string x1,.string x2,.string x3,.int .i64 x4,.int .i64 x5,.bool x6,.int .i64 x7,.bool x8] 42 (0,0))):=hk.keeps HX6.out (by omega) (by decide)
 have HB7:Hid (W7.heap[wb]?=some (.cells #[.pointer (some ⟨b,0,none⟩)] 295 (0,0))):=hk.keeps HB6.out hne (by decide)
 have HL7:Hid ((bs++txtL x0++txtL x1++txtL x2++txtL x3++[x4,x5].flatMap numL++flgL x6++[x7].flatMap numL).length≤707700):=by
  have g1:=HL6.out
  have g2:=nums_len [x7] (fun n hn=>by simp only [List.mem_cons,List.not_mem_nil,or_false] at hn;rcases hn with rfl<;>assumption)
  show List.length (bs++txtL x0++txtL x1++txtL x2++txtL x3++[x4,x5].flatMap numL++flgL x6++[x7].flatMap numL)≤_
  rw [List.length_append]
  simp only [List.length_cons,List.length_nil] at g2
  omega
 clear hw hk y0 z0
 have y0:W7.cell? ⟨wb,0,none⟩=some (.pointer (some ⟨b,0,none⟩)):=cellsAt HB7.out 0
 have z0:W7.cell? ⟨w.heap.size,8,none⟩=some (.bool x8):=cellsAt HX7.out 8
 go_wp2_with fail
 refine (wflag_any B b x8 (bs++txtL x0++txtL x1++txtL x2++txtL x3++[x4,x5].flatMap numL++flgL x6++[x7].flatMap numL) W7 HW7.out (by have:=HL7.out;omega) (Nat.le_trans hBw HK7.out.size) (HT.out.below HK7.out.bel)).mono ?_
 rintro e W8 ⟨rfl,hw,hk⟩
 have HW8:Hid (IsW B b (bs++txtL x0++txtL x1++txtL x2++txtL x3++[x4,x5].flatMap numL++flgL x6++[x7].flatMap numL++flgL x8) W8):=hw
 have HK8:Hid (Kp B b w W8):=HK7.out.trans hk
 have HX8:Hid (W8.heap[w.heap.size]?=some (.cells #[.string x0,.string x1,.string x2,.string x3,.int .i64 x4,.int .i64 x5,.bool x6,.int .i64 x7,.bool x8] 42 (0,0))):=hk.keeps HX7.out (by omega) (by decide)
 have HB8:Hid (W8.heap[wb]?=some (.cells #[.pointer (some ⟨b,0,none⟩)] 295 (0,0))):=hk.keeps HB7.out hne (by decide)
 have HL8:Hid ((bs++txtL x0++txtL x1++txtL x2++txtL x3++[x4,x5].flatMap numL++flgL x6++[x7].flatMap numL++flgL x8).length≤708800):=by
  have g1:=HL7.out
  have g2:=flgL_len x8
  show List.length (bs++txtL x0++txtL x1++txtL x2++txtL x3++[x4,x5].flatMap numL++flgL x6++[x7].flatMap numL++flgL x8)≤_
  rw [List.length_append]
  omega
 clear hw hk y0 z0
 have HWE:Hid (IsW B b (bs++EL) W8):=by
  have h:=HW8.out
  rw [HEL.out]
  simp only [List.append_assoc] at h ⊢
  exact h
 go_wp2_with fail
 simp [bodyPost,results,Tryz.results291]
 exact ⟨HWE.out,HK8.out⟩
def Gw.elL (m:Gw.Gwy):List Value:=txtL m.centre++[m.addr,m.version].flatMap numL
def Gw.wok (m:Gw.Gwy):Prop:=m.centre.size≤1000∧In63 m.addr∧In63 m.version
theorem Gw.elL_len {m:Gw.Gwy} (h:Gw.wok m):(Gw.elL m).length≤2200:=by
 unfold Gw.elL
 obtain ⟨h0,h1,h2⟩:=h
 have l0:=txtL_len h0
 have l1:=nums_len [m.addr,m.version] (fun n hn=>by simp only [List.mem_cons,List.not_mem_nil,or_false] at hn;rcases hn with rfl | rfl<;>assumption)
 simp only [List.length_cons,List.length_nil] at l1
 simp only [List.length_append]
 omega
set_option maxHeartbeats 6400000 in
set_option maxRecDepth 100000 in
theorem Gw.wone_any (B b wb:Nat) (m:Gw.Gwy) (bs:List Value) (w:World) (h:IsW B b bs w) (hlen:bs.length≤700000) (hBw:B≤w.heap.size) (hT:Tab B w) (hwb:w.heap[wb]?=some (.cells #[.pointer (some ⟨b,0,none⟩)] 295 (0,0))) (hne:wb≠b) (hm:Gw.wok m) :
 Calls Tryz.prog 293 #[.agg #[.string m.centre,.int .i64 m.addr,.int .i64 m.version],.pointer (some ⟨wb,0,none⟩)] w fun e w'=>e=.returned (.tuple #[])∧IsW B b (bs++Gw.elL m) w'∧Kp B b w w':=by
 have HEL:Hid (Gw.elL m=txtL m.centre++[m.addr,m.version].flatMap numL):=rfl
 generalize Gw.elL m=EL at *
 obtain ⟨x0,x1,x2⟩:=m
 obtain ⟨h0,h1,h2⟩:=hm
 simp only at h0 h1 h2 HEL ⊢
 have hlb:=h.lt
 have hwl:wb < w.heap.size:=(Array.getElem?_eq_some_iff.1 hwb).1
 obtain ⟨W0,hW0⟩:∃ W0,W0=w.alloc (.cells #[.string x0,.int .i64 x1,.int .i64 x2] 107):=⟨_,rfl⟩
 have hb0:Below w.heap.size w W0:=by rw [hW0];exact (Below.refl _ _).alloc (Nat.le_refl _) _
 have hk0:Kp B b w W0:=Kp.of_below hb0 hBw
 have HW0:Hid (IsW B b bs W0):=h.below hb0
 have HK0:Hid (Kp B b w W0):=hk0
 have HX0:Hid (W0.heap[w.heap.size]?=some (.cells #[.string x0,.int .i64 x1,.int .i64 x2] 107 (0,0))):=by rw [hW0];exact heap_alloc_new w _
 have HB0:Hid (W0.heap[wb]?=some (.cells #[.pointer (some ⟨b,0,none⟩)] 295 (0,0))):=(hb0.block _ hwl).trans hwb
 have HL0:Hid (bs.length≤700000):=hlen
 have HT:Hid (Tab B w):=hT
 clear h hb0 hk0 hwb hT hlen
 go_enter Tryz.func293,Tryz.ntmps293
 go_upto_region 1 with fail
 rw [← hW0]
 clear hW0
 have y0:W0.cell? ⟨wb,0,none⟩=some (.pointer (some ⟨b,0,none⟩)):=cellsAt HB0.out 0
 have z0:W0.cell? ⟨w.heap.size,0,none⟩=some (.string x0):=cellsAt HX0.out 0
 go_wp2_with fail
 refine (wtext_any B b x0 (bs) W0 HW0.out (by have:=HL0.out;omega) (Nat.le_trans hBw HK0.out.size) (HT.out.below HK0.out.bel)).mono ?_
 rintro e W1 ⟨rfl,hw,hk⟩
 have HW1:Hid (IsW B b (bs++txtL x0) W1):=hw
 have HK1:Hid (Kp B b w W1):=HK0.out.trans hk
 have HX1:Hid (W1.heap[w.heap.size]?=some (.cells #[.string x0,.int .i64 x1,.int .i64 x2] 107 (0,0))):=hk.keeps HX0.out (by omega) (by decide)
 have HB1:Hid (W1.heap[wb]?=some (.cells #[.pointer (some ⟨b,0,none⟩)] 295 (0,0))):=hk.keeps HB0.out hne (by decide)
 have HL1:Hid ((bs++txtL x0).length≤701100):=by
  have g1:=HL0.out
  have g2:=txtL_len h0
  show List.length (bs++txtL x0)≤_
  rw [List.length_append]
  omega
 clear hw hk y0 z0
 have y0:W1.cell? ⟨wb,0,none⟩=some (.pointer (some ⟨b,0,none⟩)):=cellsAt HB1.out 0
 have z0:W1.cell? ⟨w.heap.size,1,none⟩=some (.int .i64 x1):=cellsAt HX1.out 1
 have z1:W1.cell? ⟨w.heap.size,2,none⟩=some (.int .i64 x2):=cellsAt HX1.out 2
 go_wp2_with fail
 refine (wnums_at B b [x1,x2] (bs++txtL x0) W1 HW1.out (by have:=HL1.out;simp only [List.length_cons,List.length_nil];omega) (Nat.le_trans hBw HK1.out.size) (HT.out.below HK1.out.bel) (fun n hn=>by simp only [List.mem_cons,List.not_mem_nil,or_false] at hn;rcases hn with rfl | rfl<;>assumption)).mono ?_
 rintro e W2 ⟨rfl,hw,hk⟩
 have HW2:Hid (IsW B b (bs++txtL x0++[x1,x2].flatMap numL) W2):=hw
 have HK2:Hid (Kp B b w W2):=HK1.out.trans hk
 have HX2:Hid (W2.heap[w.heap.size]?=some (.cells #[.string x0,.int .i64 x1,.int .i64 x2] 107 (0,0))):=hk.keeps HX1.out (by omega) (by decide)
 have HB2:Hid (W2.heap[wb]?=some (.cells #[.pointer (some ⟨b,0,none⟩)] 295 (0,0))):=hk.keeps HB1.out hne (by decide)
 have HL2:Hid ((bs++txtL x0++[x1,x2].flatMap numL).length≤702200):=by
  have g1:=HL1.out
  have g2:=nums_len [x1,x2] (fun n hn=>by simp only [List.mem_cons,List.not_mem_nil,or_false] at hn;rcases hn with rfl | rfl<;>assumption)
  show List.length (bs++txtL x0++[x1,x2].flatMap numL)≤_
  rw [List.length_append]
  simp only [List.length_cons,List.length_nil] at g2
  omega
 clear hw hk y0 z0 z1
 have HWE:Hid (IsW B b (bs++EL) W2):=by
  have h:=HW2.out
  rw [HEL.out]
  simp only [List.append_assoc] at h ⊢
  exact h
 go_wp2_with fail
 simp [bodyPost,results,Tryz.results293]
 exact ⟨HWE.out,HK2.out⟩
def Wh.elL (m:Wh.Whe):List Value:=txtL m.node++[m.x,m.y,m.z,m.h,m.s].flatMap numL
def Wh.wok (m:Wh.Whe):Prop:=m.node.size≤1000∧In63 m.x∧In63 m.y∧In63 m.z∧In63 m.h∧In63 m.s
theorem Wh.elL_len {m:Wh.Whe} (h:Wh.wok m):(Wh.elL m).length≤2200:=by
 unfold Wh.elL
 obtain ⟨h0,h1,h2,h3,h4,h5⟩:=h
 have l0:=txtL_len h0
 have l1:=nums_len [m.x,m.y,m.z,m.h,m.s] (fun n hn=>by simp only [List.mem_cons,List.not_mem_nil,or_false] at hn;rcases hn with rfl | rfl | rfl | rfl | rfl<;>assumption)
 simp only [List.length_cons,List.length_nil] at l1
 simp only [List.length_append]
 omega
set_option maxHeartbeats 6400000 in
set_option maxRecDepth 100000 in
theorem Wh.wone_any (B b wb:Nat) (m:Wh.Whe) (bs:List Value) (w:World) (h:IsW B b bs w) (hlen:bs.length≤700000) (hBw:B≤w.heap.size) (hT:Tab B w) (hwb:w.heap[wb]?=some (.cells #[.pointer (some ⟨b,0,none⟩)] 295 (0,0))) (hne:wb≠b) (hm:Wh.wok m) :
 Calls Tryz.prog 295 #[.agg #[.string m.node,.int .i64 m.x,.int .i64 m.y,.int .i64 m.z,.int .i64 m.h,.int .i64 m.s],.pointer (some ⟨wb,0,none⟩)] w fun e w'=>e=.returned (.tuple #[])∧IsW B b (bs++Wh.elL m) w'∧Kp B b w w':=by
 have HEL:Hid (Wh.elL m=txtL m.node++[m.x,m.y,m.z,m.h,m.s].flatMap numL):=rfl
 generalize Wh.elL m=EL at *
 obtain ⟨x0,x1,x2,x3,x4,x5⟩:=m
 obtain ⟨h0,h1,h2,h3,h4,h5⟩:=hm
 simp only at h0 h1 h2 h3 h4 h5 HEL ⊢
 have hlb:=h.lt
 have hwl:wb < w.heap.size:=(Array.getElem?_eq_some_iff.1 hwb).1
 obtain ⟨W0,hW0⟩:∃ W0,W0=w.alloc (.cells #[.string x0,.int .i64 x1,.int .i64 x2,.int .i64 x3,.int .i64 x4,.int .i64 x5] 109):=⟨_,rfl⟩
 have hb0:Below w.heap.size w W0:=by rw [hW0];exact (Below.refl _ _).alloc (Nat.le_refl _) _
 have hk0:Kp B b w W0:=Kp.of_below hb0 hBw
 have HW0:Hid (IsW B b bs W0):=h.below hb0
 have HK0:Hid (Kp B b w W0):=hk0
 have HX0:Hid (W0.heap[w.heap.size]?=some (.cells #[.string x0,.int .i64 x1,.int .i64 x2,.int .i64 x3,.int .i64 x4,.int .i64 x5] 109 (0,0))):=by rw [hW0];exact heap_alloc_new w _
 have HB0:Hid (W0.heap[wb]?=some (.cells #[.pointer (some ⟨b,0,none⟩)] 295 (0,0))):=(hb0.block _ hwl).trans hwb
 have HL0:Hid (bs.length≤700000):=hlen
 have HT:Hid (Tab B w):=hT
 clear h hb0 hk0 hwb hT hlen
 go_enter Tryz.func295,Tryz.ntmps295
 go_upto_region 1 with fail
 rw [← hW0]
 clear hW0
 have y0:W0.cell? ⟨wb,0,none⟩=some (.pointer (some ⟨b,0,none⟩)):=cellsAt HB0.out 0
 have z0:W0.cell? ⟨w.heap.size,0,none⟩=some (.string x0):=cellsAt HX0.out 0
 go_wp2_with fail
 refine (wtext_any B b x0 (bs) W0 HW0.out (by have:=HL0.out;omega) (Nat.le_trans hBw HK0.out.size) (HT.out.below HK0.out.bel)).mono ?_
 rintro e W1 ⟨rfl,hw,hk⟩
 have HW1:Hid (IsW B b (bs++txtL x0) W1):=hw
 have HK1:Hid (Kp B b w W1):=HK0.out.trans hk
 have HX1:Hid (W1.heap[w.heap.size]?=some (.cells #[.string x0,.int .i64 x1,.int .i64 x2,.int .i64 x3,.int .i64 x4,.int .i64 x5] 109 (0,0))):=hk.keeps HX0.out (by omega) (by decide)
 have HB1:Hid (W1.heap[wb]?=some (.cells #[.pointer (some ⟨b,0,none⟩)] 295 (0,0))):=hk.keeps HB0.out hne (by decide)
 have HL1:Hid ((bs++txtL x0).length≤701100):=by
  have g1:=HL0.out
  have g2:=txtL_len h0
  show List.length (bs++txtL x0)≤_
  rw [List.length_append]
  omega
 clear hw hk y0 z0
 have y0:W1.cell? ⟨wb,0,none⟩=some (.pointer (some ⟨b,0,none⟩)):=cellsAt HB1.out 0
 have z0:W1.cell? ⟨w.heap.size,1,none⟩=some (.int .i64 x1):=cellsAt HX1.out 1
 have z1:W1.cell? ⟨w.heap.size,2,none⟩=some (.int .i64 x2):=cellsAt HX1.out 2
 have z2:W1.cell? ⟨w.heap.size,3,none⟩=some (.int .i64 x3):=cellsAt HX1.out 3
 have z3:W1.cell? ⟨w.heap.size,4,none⟩=some (.int .i64 x4):=cellsAt HX1.out 4
 have z4:W1.cell? ⟨w.heap.size,5,none⟩=some (.int .i64 x5):=cellsAt HX1.out 5
 go_wp2_with fail
 refine (wnums_at B b [x1,x2,x3,x4,x5] (bs++txtL x0) W1 HW1.out (by have:=HL1.out;simp only [List.length_cons,List.length_nil];omega) (Nat.le_trans hBw HK1.out.size) (HT.out.below HK1.out.bel) (fun n hn=>by simp only [List.mem_cons,List.not_mem_nil,or_false] at hn;rcases hn with rfl | rfl | rfl | rfl | rfl<;>assumption)).mono ?_
 rintro e W2 ⟨rfl,hw,hk⟩
 have HW2:Hid (IsW B b (bs++txtL x0++[x1,x2,x3,x4,x5].flatMap numL) W2):=hw
 have HK2:Hid (Kp B b w W2):=HK1.out.trans hk
 have HX2:Hid (W2.heap[w.heap.size]?=some (.cells #[.string x0,.int .i64 x1,.int .i64 x2,.int .i64 x3,.int .i64 x4,.int .i64 x5] 109 (0,0))):=hk.keeps HX1.out (by omega) (by decide)
 have HB2:Hid (W2.heap[wb]?=some (.cells #[.pointer (some ⟨b,0,none⟩)] 295 (0,0))):=hk.keeps HB1.out hne (by decide)
 have HL2:Hid ((bs++txtL x0++[x1,x2,x3,x4,x5].flatMap numL).length≤702200):=by
  have g1:=HL1.out
  have g2:=nums_len [x1,x2,x3,x4,x5] (fun n hn=>by simp only [List.mem_cons,List.not_mem_nil,or_false] at hn;rcases hn with rfl | rfl | rfl | rfl | rfl<;>assumption)
  show List.length (bs++txtL x0++[x1,x2,x3,x4,x5].flatMap numL)≤_
  rw [List.length_append]
  simp only [List.length_cons,List.length_nil] at g2
  omega
 clear hw hk y0 z0 z1 z2 z3 z4
 have HWE:Hid (IsW B b (bs++EL) W2):=by
  have h:=HW2.out
  rw [HEL.out]
  simp only [List.append_assoc] at h ⊢
  exact h
 go_wp2_with fail
 simp [bodyPost,results,Tryz.results295]
 exact ⟨HWE.out,HK2.out⟩
end Go.Proofs.YtffdoiokmiklgaaGreatDoor
