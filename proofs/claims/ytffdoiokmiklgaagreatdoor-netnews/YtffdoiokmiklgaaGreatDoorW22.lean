import Derived.Test.YtffdoiokmiklgaaGreatDoorW21
import Derived.OwnWalk
import Derived.Shelf.Strings.Builder1
import Derived.Shelf.Small.Strs
import Derived.Shelf.Strconv.Atoi
import Derived.Shelf.Strconv.Itoa0
import Derived.Shelf.Strconv.Itoa1
import Derived.Shelf.LaysM
import Derived.Shelf.Strconv.Itoa2
import Derived.Shelf.Strconv.Itoa3
import Derived.Shelf.Strconv.AtoiErrFast
import Derived.Shelf.Strconv.ParseIntEmpty
import Derived.Shelf.Strconv.AtoiFail
import Derived.Shelf.Strconv.Clone
import Derived.Shelf.Strconv.SyntaxError
import Derived.Shelf.LaysC
import Derived.Shelf.Strconv.ToError
import Derived.Shelf.Strconv.Lower
import Derived.Shelf.Strconv.ParseUint10
import Derived.Shelf.Strconv.ParseUint10Empty
import Derived.Shelf.Strconv.ParseUint10Any
import Derived.Shelf.Strconv.ParseInt10
import Derived.Shelf.Strconv.AtoiLong
import Derived.Shelf.Strconv.AtoiInnerAll
import Derived.Shelf.Strconv.RangeError
import Derived.Shelf.Strconv.ToErrorRange
import Derived.Shelf.Strconv.AtoiAll
import Derived.Shelf.Strings.Search1
import Derived.Shelf.Strings.Search2
import Derived.Test.YtffdoiokmiklgaaGreatDoorProg
import Derived.Test.YtffdoiokmiklgaaGreatDoorRows
import Derived.Stop.LaidErr
import Derived.Lib.LaidTab
import Derived.LaidSub
import Derived.LaidMore
namespace Go.Proofs.YtffdoiokmiklgaaGreatDoor
open Go.RowKit
structure IsP (g:Nat) (l:List UInt8) (w:World):Prop where
 c0:w.cell? ⟨g,0,none⟩=some (.string (bstr l))
 hz:w.frozen? ⟨g,0,none⟩=false
 hg:g < w.heap.size
structure Rp (g:Nat) (w w':World):Prop where
 os:w'.os=w.os
 tape:w'.tape=w.tape
 output:w'.output=w.output
 size:w.heap.size≤w'.heap.size
 block:∀ k:Nat,k < w.heap.size→k≠g→w'.heap[k]?=w.heap[k]?
theorem Rp.refl (g:Nat) (w:World):Rp g w w:=⟨rfl,rfl,rfl,Nat.le_refl _,fun _ _ _=>rfl⟩
theorem Rp.trans {g:Nat} {w w1 w2:World} (h:Rp g w w1) (h2:Rp g w1 w2):Rp g w w2:=
 ⟨h2.os.trans h.os,h2.tape.trans h.tape,h2.output.trans h.output,Nat.le_trans h.size h2.size,fun k hk hg=>(h2.block k (Nat.lt_of_lt_of_le hk h.size) hg).trans (h.block k hk hg)⟩
theorem Rp.below {g B:Nat} {w w':World} (h:Rp g w w') (hb:B≤g) (hB:B≤w.heap.size):Below B w w':=
 ⟨h.os,h.tape,h.output,h.size,fun k hk=>h.block k (by omega) (by omega)⟩
theorem Rp.of_below {g B:Nat} {w w':World} (h:Below B w w') (hb:w.heap.size≤B):Rp g w w':=
 ⟨h.os,h.tape,h.output,h.size,fun k hk _=>h.block k (by omega)⟩
theorem Rp.set (g:Nat) (w:World) (v:Value):Rp g w (w.setCell ⟨g,0,none⟩ v):=
 ⟨rfl,rfl,rfl,by simp,fun k _ hg=>Below.heap_setCell w _ _ k hg⟩
theorem IsP.below {g:Nat} {l:List UInt8} {w w':World} (h:IsP g l w) (hx:Below w.heap.size w w'):IsP g l w' where
 c0:=(hx.cell (p:=⟨g,0,none⟩) h.hg).trans h.c0
 hz:=by have:=h.hz;simp only [World.frozen?,hx.block g h.hg] at this ⊢;exact this
 hg:=Nat.lt_of_lt_of_le h.hg hx.size
def outP (e:Int):Ending:=.panicked [{ v:=.iface 196 (.agg #[.int .i64 e]),recovered:=false }]
set_option maxHeartbeats 800000 in
set_option maxRecDepth 100000 in
theorem number_ok (g B:Nat) (l r:List UInt8) (n:Int) (w:World) (h:IsP g l w) (hs:l.length≤140737488355328) (hl:rdN l=some (n,r)) (hT:Tab B w) (hB:B≤w.heap.size) :
 Calls Tryz.prog 168 #[.pointer (some ⟨g,0,none⟩)] w fun e w'=>e=.returned (.int .i64 n)∧IsP g r w'∧Rp g w w':=by
 unfold rdN at hl
 split at hl
 ·simp at hl
 rename_i hne
 obtain ⟨i,hi⟩:∃ i:Nat,Lib.indexByte l 59=(i:Int):=⟨(Lib.indexByte l 59).toNat,by have:=Lib.indexByte_ge l 59;omega⟩
 have hlt:=ix_lt 59 hi
 rw [hi] at hl
 simp only [Int.toNat_natCast] at hl
 split at hl
 case h_2=>simp at hl
 rename_i m hm
 split at hl
 case isFalse=>simp at hl
 rename_i hd
 simp only [Option.some.injEq,Prod.mk.injEq] at hl
 obtain ⟨rfl,rfl⟩:=hl
 have hb63:In63 m:=Lib.atoiAll_bounds hm
 have HC:Hid (Calls Tryz.prog 228 #[.string (bstr l),.string ⟨#[59]⟩] w fun e w'=>e=.returned (.tuple #[.string (bstr (l.take i)),.string (bstr (l.drop (i+1))),.bool true])∧Below w.heap.size w w'):=pcut_some l i w hi hs
 have HA:Hid (∀ W,Calls Tryz.prog 229 #[.string (bstr (l.take i))] W fun e w'=>e=.returned (.tuple #[.int .i64 m,.nilIface])∧Below W.heap.size W w'):=fun W=>atoi_ok _ m W (by rw [List.length_take];omega) hm
 have HI:Hid (∀ W,Below w.heap.size w W→Calls Tryz.prog 230 #[.int .i64 m] W fun e w'=>e=.returned (.string (bstr (l.take i)))∧Below W.heap.size W w'):=fun W hW=>by
  have:=itoa_any m B W hb63 (hT.below (hW.mono hB))
  rw [show itoaB m=bstr (l.take i) by rw [← hd];rfl] at this
  exact this
 have HP:Hid (IsP g l w):=h
 have hc:=h.c0
 clear h hT hd hm hi hne hlt hs
 generalize bstr (l.take i)=D at *
 have HR:Hid (∃ R,R=bstr (l.drop (i+1))):=⟨_,rfl⟩
 go_enter Tryz.func168,Tryz.ntmps168
 go_wp2_with fail
 refine HC.out.mono ?_
 rintro e w1 ⟨rfl,hb1⟩
 have HB1:Hid (Below w.heap.size w w1):=hb1
 clear hb1
 go_wp2_with fail
 refine (HA.out w1).mono ?_
 rintro e w2 ⟨rfl,hb2⟩
 have HB2:Hid (Below w.heap.size w w2):=HB1.out.trans (hb2.mono HB1.out.size)
 clear hb2
 go_wp2_with fail
 refine (HI.out w2 HB2.out).mono ?_
 rintro e w3 ⟨rfl,hb3⟩
 have HB3:Hid (Below w.heap.size w w3):=HB2.out.trans (hb3.mono HB2.out.size)
 clear hb3
 have hP3:=HP.out.below HB3.out
 obtain ⟨c3,z3,g3⟩:=hP3
 clear hc
 go_wp2_with (go_at_call 123;refine (need_ok _ _).mono ?_;rintro e w' ⟨rfl,rfl⟩)
 go_ret
 refine ⟨rfl,⟨World.cell?_setCell_same _ _ _ c3,by simpa using z3,by simpa using g3⟩,(Rp.of_below HB3.out (Nat.le_refl _)).trans (Rp.set g _ _)⟩
set_option maxHeartbeats 800000 in
set_option maxRecDepth 100000 in
theorem number_no1 (g:Nat) (l:List UInt8) (w:World) (h:IsP g l w) (hs:l.length≤140737488355328) (hl:Lib.indexByte l 59 = -1) (hE:Er w) (h1:1 < w.heap.size) (h2:2 < w.heap.size) :
 Calls Tryz.prog 168 #[.pointer (some ⟨g,0,none⟩)] w fun e w'=>e=outP 1∧Below w.heap.size w w':=by
 have HC:Hid (Calls Tryz.prog 228 #[.string (bstr l),.string ⟨#[59]⟩] w fun e w'=>e=.returned (.tuple #[.string (bstr l),.string ⟨#[]⟩,.bool false])∧Below w.heap.size w w'):=pcut_none l w hl
 have HA:Hid (∀ W,Below w.heap.size w W→Calls Tryz.prog 229 #[.string (bstr l)] W fun e w'=>∃ v x,e=.returned (.tuple #[.int .i64 v,x])∧Below W.heap.size W w'):=fun W hW=>by
  by_cases hk:∃ v,Lib.atoiAll l=.ok v
  ·obtain ⟨v,hv⟩:=hk
   refine (atoi_ok l v W hs hv).mono ?_
   rintro e w' ⟨rfl,hb⟩
   exact ⟨_,_,rfl,hb⟩
  ·refine (atoi_no l W hs (fun v hv=>hk ⟨v,hv⟩) (hE.below hW h1 h2)).mono ?_
   rintro e w' ⟨v,T,N,rfl,hb⟩
   exact ⟨_,_,rfl,hb⟩
 have hc:=h.c0
 clear h hE hl hs h1 h2
 go_enter Tryz.func168,Tryz.ntmps168
 go_wp2_with fail
 refine HC.out.mono ?_
 rintro e w1 ⟨rfl,hb1⟩
 have HB1:Hid (Below w.heap.size w w1):=hb1
 clear hb1 hc
 go_wp2_with fail
 refine (HA.out w1 HB1.out).mono ?_
 rintro e w2 ⟨v,x,rfl,hb2⟩
 have HB2:Hid (Below w.heap.size w w2):=HB1.out.trans (hb2.mono HB1.out.size)
 clear hb2
 go_wp2_with fail
 refine (need_no _ _).mono ?_
 rintro e w5 ⟨rfl,rfl⟩
 exact ⟨rfl,rfl,HB2.out⟩
set_option maxHeartbeats 800000 in
set_option maxRecDepth 100000 in
theorem number_no2 (g i:Nat) (l:List UInt8) (w:World) (h:IsP g l w) (hs:l.length≤140737488355328) (hi:Lib.indexByte l 59=(i:Int)) (hl:∀ v,Lib.atoiAll (l.take i) ≠ .ok v) (hE:Er w) (h1:1 < w.heap.size) (h2:2 < w.heap.size) :
 Calls Tryz.prog 168 #[.pointer (some ⟨g,0,none⟩)] w fun e w'=>e=outP 1∧Below w.heap.size w w':=by
 have HC:Hid (Calls Tryz.prog 228 #[.string (bstr l),.string ⟨#[59]⟩] w fun e w'=>e=.returned (.tuple #[.string (bstr (l.take i)),.string (bstr (l.drop (i+1))),.bool true])∧Below w.heap.size w w'):=pcut_some l i w hi hs
 have HA:Hid (∀ W,Below w.heap.size w W→Calls Tryz.prog 229 #[.string (bstr (l.take i))] W fun e w'=>∃ v T N,e=.returned (.tuple #[.int .i64 v,.iface T (.pointer (some ⟨N,0,none⟩))])∧Below W.heap.size W w'):=fun W hW=>
  atoi_no _ W (by rw [List.length_take];omega) hl (hE.below hW h1 h2)
 have hc:=h.c0
 clear h hE hl hs h1 h2 hi
 generalize bstr (l.take i)=D at *
 go_enter Tryz.func168,Tryz.ntmps168
 go_wp2_with fail
 refine HC.out.mono ?_
 rintro e w1 ⟨rfl,hb1⟩
 have HB1:Hid (Below w.heap.size w w1):=hb1
 clear hb1 hc
 go_wp2_with fail
 refine (HA.out w1 HB1.out).mono ?_
 rintro e w2 ⟨v,T,N,rfl,hb2⟩
 have HB2:Hid (Below w.heap.size w w2):=HB1.out.trans (hb2.mono HB1.out.size)
 clear hb2
 go_wp2_with fail
 refine (need_no _ _).mono ?_
 rintro e w5 ⟨rfl,rfl⟩
 exact ⟨rfl,rfl,HB2.out⟩
set_option maxHeartbeats 800000 in
set_option maxRecDepth 100000 in
theorem number_no3 (g i B:Nat) (m:Int) (l:List UInt8) (w:World) (h:IsP g l w) (hs:l.length≤140737488355328) (hi:Lib.indexByte l 59=(i:Int)) (hm:Lib.atoiAll (l.take i)=.ok m) (hd:Lib.itoa m≠l.take i) (hT:Tab B w) (hB:B≤w.heap.size) :
 Calls Tryz.prog 168 #[.pointer (some ⟨g,0,none⟩)] w fun e w'=>e=outP 1∧Below w.heap.size w w':=by
 have HC:Hid (Calls Tryz.prog 228 #[.string (bstr l),.string ⟨#[59]⟩] w fun e w'=>e=.returned (.tuple #[.string (bstr (l.take i)),.string (bstr (l.drop (i+1))),.bool true])∧Below w.heap.size w w'):=pcut_some l i w hi hs
 have HA:Hid (∀ W,Calls Tryz.prog 229 #[.string (bstr (l.take i))] W fun e w'=>e=.returned (.tuple #[.int .i64 m,.nilIface])∧Below W.heap.size W w'):=fun W=>atoi_ok _ m W (by rw [List.length_take];omega) hm
 have HI:Hid (∀ W,Below w.heap.size w W→Calls Tryz.prog 230 #[.int .i64 m] W fun e w'=>e=.returned (.string (itoaB m))∧Below W.heap.size W w'):=fun W hW=>itoa_any m B W (Lib.atoiAll_bounds hm) (hT.below (hW.mono hB))
 have hne2:((itoaB m).toList == (bstr (l.take i)).toList)=false:=by
  rw [ByteArray.toList_eq,ByteArray.toList_eq,bstr_list]
  have e1:(itoaB m).data.toList=Lib.itoa m:=bstr_list _
  rw [e1]
  simpa using hd
 have hc:=h.c0
 clear h hd hs hi hm hT hB
 generalize bstr (l.take i)=D at *
 generalize itoaB m=E at *
 go_enter Tryz.func168,Tryz.ntmps168
 go_wp2_with fail
 refine HC.out.mono ?_
 rintro e w1 ⟨rfl,hb1⟩
 have HB1:Hid (Below w.heap.size w w1):=hb1
 clear hb1 hc
 go_wp2_with fail
 refine (HA.out w1).mono ?_
 rintro e w2 ⟨rfl,hb2⟩
 have HB2:Hid (Below w.heap.size w w2):=HB1.out.trans (hb2.mono HB1.out.size)
 clear hb2
 go_wp2_with fail
 refine (HI.out w2 HB2.out).mono ?_
 rintro e w3 ⟨rfl,hb3⟩
 have HB3:Hid (Below w.heap.size w w3):=HB2.out.trans (hb3.mono HB2.out.size)
 clear hb3
 go_wp2_with fail
 refine (need_no _ _).mono ?_
 rintro e w5 ⟨rfl,rfl⟩
 exact ⟨rfl,rfl,HB3.out⟩
theorem number_no (g B:Nat) (l:List UInt8) (w:World) (h:IsP g l w) (hs:l.length≤140737488355328) (hl:rdN l=none) (hT:Tab B w) (hB:B≤w.heap.size) (hE:Er w) (h1:1 < w.heap.size) (h2:2 < w.heap.size) :
 Calls Tryz.prog 168 #[.pointer (some ⟨g,0,none⟩)] w fun e w'=>e=outP 1∧Below w.heap.size w w':=by
 unfold rdN at hl
 split at hl
 ·rename_i hn
  exact number_no1 g l w h hs hn hE h1 h2
 rename_i hne
 obtain ⟨i,hi⟩:∃ i:Nat,Lib.indexByte l 59=(i:Int):=⟨(Lib.indexByte l 59).toNat,by have:=Lib.indexByte_ge l 59;omega⟩
 rw [hi] at hl
 simp only [Int.toNat_natCast] at hl
 split at hl
 ·rename_i m hm
  split at hl
  ·simp at hl
  ·rename_i hd
   exact number_no3 g i B m l w h hs hi hm hd hT hB
 ·rename_i hk
  exact number_no2 g i l w h hs hi hk hE h1 h2
structure Rv (B:Nat) (w:World):Prop where
 tab:Tab B w
 er:Er w
 b1:1 < B
 b2:2 < B
 le:B≤w.heap.size
theorem Rv.below {B:Nat} {w w':World} (h:Rv B w) (hb:Below B w w'):Rv B w':=⟨h.tab.below hb,h.er.below hb h.b1 h.b2,h.b1,h.b2,Nat.le_trans h.le hb.size⟩
theorem Rv.rp {B g:Nat} {w w':World} (h:Rv B w) (hg:B≤g) (hr:Rp g w w'):Rv B w':=h.below (hr.below hg h.le)
theorem num_ok {B g:Nat} {l r:List UInt8} {n:Int} {w:World} (hV:Rv B w) (h:IsP g l w) (hs:l.length≤140737488355328) (hl:rdN l=some (n,r)) :
 Calls Tryz.prog 168 #[.pointer (some ⟨g,0,none⟩)] w fun e w'=>e=.returned (.int .i64 n)∧IsP g r w'∧Rp g w w':=number_ok g B l r n w h hs hl hV.tab hV.le
theorem num_no {B g:Nat} {l:List UInt8} {w:World} (hV:Rv B w) (h:IsP g l w) (hs:l.length≤140737488355328) (hl:rdN l=none) :
 Calls Tryz.prog 168 #[.pointer (some ⟨g,0,none⟩)] w fun e w'=>e=outP 1∧Rp g w w':=by
 refine (number_no g B l w h hs hl hV.tab hV.le hV.er (Nat.lt_of_lt_of_le hV.b1 hV.le) (Nat.lt_of_lt_of_le hV.b2 hV.le)).mono ?_
 rintro e w' ⟨rfl,hb⟩
 exact ⟨rfl,Rp.of_below hb (Nat.le_refl _)⟩
theorem rdN_in {l r:List UInt8} {n:Int} (h:rdN l=some (n,r)):In63 n∧r.length < l.length:=by
 unfold rdN at h
 split at h
 ·simp at h
 rename_i hne
 obtain ⟨i,hi⟩:∃ i:Nat,Lib.indexByte l 59=(i:Int):=⟨(Lib.indexByte l 59).toNat,by have:=Lib.indexByte_ge l 59;omega⟩
 have hlt:=ix_lt 59 hi
 rw [hi] at h
 simp only [Int.toNat_natCast] at h
 split at h
 case h_2=>simp at h
 rename_i m hm
 split at h
 case isFalse=>simp at h
 simp only [Option.some.injEq,Prod.mk.injEq] at h
 obtain ⟨rfl,rfl⟩:=h
 exact ⟨Lib.atoiAll_bounds hm,by rw [List.length_drop];omega⟩
def rdF (l:List UInt8):Option (Bool × List UInt8):=
 match rdN l with
 | some (n,r)=>if n=0 then some (false,r) else if n=1 then some (true,r) else none
 | none=>none
set_option maxHeartbeats 800000 in
set_option maxRecDepth 100000 in
theorem flag_ok {B g:Nat} {l r:List UInt8} {y:Bool} {w:World} (hV:Rv B w) (h:IsP g l w) (hs:l.length≤140737488355328) (hl:rdF l=some (y,r)) :
 Calls Tryz.prog 165 #[.pointer (some ⟨g,0,none⟩)] w fun e w'=>e=.returned (.bool y)∧IsP g r w'∧Rp g w w':=by
 unfold rdF at hl
 split at hl
 case h_2=>simp at hl
 rename_i n r' hn
 have HN:Hid (Calls Tryz.prog 168 #[.pointer (some ⟨g,0,none⟩)] w fun e w'=>e=.returned (.int .i64 n)∧IsP g r' w'∧Rp g w w'):=num_ok hV h hs hn
 clear hn h hV hs
 split at hl
 ·rename_i h0
  subst h0
  simp only [Option.some.injEq,Prod.mk.injEq] at hl
  obtain ⟨rfl,rfl⟩:=hl
  go_enter Tryz.func165,Tryz.ntmps165
  go_wp2_with fail
  refine HN.out.mono ?_
  rintro e w1 ⟨rfl,hp,hr⟩
  have HP:Hid (IsP g r' w1∧Rp g w w1):=⟨hp,hr⟩
  clear hp hr
  go_wp2_with (go_at_call 123;refine (need_ok _ _).mono ?_;rintro e w' ⟨rfl,rfl⟩)
  go_ret
  exact ⟨rfl,HP.out⟩
 ·split at hl
  case isFalse=>simp at hl
  rename_i h0 h1
  subst h1
  simp only [Option.some.injEq,Prod.mk.injEq] at hl
  obtain ⟨rfl,rfl⟩:=hl
  go_enter Tryz.func165,Tryz.ntmps165
  go_wp2_with fail
  refine HN.out.mono ?_
  rintro e w1 ⟨rfl,hp,hr⟩
  have HP:Hid (IsP g r' w1∧Rp g w w1):=⟨hp,hr⟩
  clear hp hr
  go_wp2_with (go_at_call 123;refine (need_ok _ _).mono ?_;rintro e w' ⟨rfl,rfl⟩)
  go_ret
  exact ⟨rfl,HP.out⟩
set_option maxHeartbeats 800000 in
set_option maxRecDepth 100000 in
theorem flag_no {B g:Nat} {l:List UInt8} {w:World} (hV:Rv B w) (h:IsP g l w) (hs:l.length≤140737488355328) (hl:rdF l=none) :
 Calls Tryz.prog 165 #[.pointer (some ⟨g,0,none⟩)] w fun e w'=>e=outP 1∧Rp g w w':=by
 unfold rdF at hl
 split at hl
 ·rename_i n r' hn
  have HN:Hid (Calls Tryz.prog 168 #[.pointer (some ⟨g,0,none⟩)] w fun e w'=>e=.returned (.int .i64 n)∧IsP g r' w'∧Rp g w w'):=num_ok hV h hs hn
  clear hn h hV hs
  split at hl
  ·simp at hl
  rename_i h0
  split at hl
  ·simp at hl
  rename_i h1
  clear hl
  have e0:(n == 0)=false:=by simpa using h0
  have e1:(n == 1)=false:=by simpa using h1
  have d0:decide (n=0)=false:=by simpa using h0
  have d1:decide (n=1)=false:=by simpa using h1
  go_enter Tryz.func165,Tryz.ntmps165
  go_wp2_with fail
  refine HN.out.mono ?_
  rintro e w1 ⟨rfl,hp,hr⟩
  have HP:Hid (Rp g w w1):=hr
  clear hp hr
  go_wp2_with fail
  refine (need_no _ _).mono ?_
  rintro e w5 ⟨rfl,rfl⟩
  exact ⟨rfl,rfl,HP.out⟩
 ·rename_i hn
  have HN:Hid (Calls Tryz.prog 168 #[.pointer (some ⟨g,0,none⟩)] w fun e w'=>e=outP 1∧Rp g w w'):=num_no hV h hs hn
  clear hn h hV hs hl
  go_enter Tryz.func165,Tryz.ntmps165
  go_wp2_with fail
  refine HN.out.mono ?_
  rintro e w1 ⟨rfl,hr⟩
  exact ⟨rfl,rfl,hr⟩
end Go.Proofs.YtffdoiokmiklgaaGreatDoor
namespace Go.Proofs
open Go.Shelf
def Tryz.laysM316_ren:Go.Shelf.Ren:=⟨fun | 316=>262 | n=>n,fun | 9=>9 | 3=>3 | 4=>4 | 37=>157 | 0=>0 | 127=>307 | 5=>5 | n=>n,fun | n=>n⟩
theorem Tryz.laysM316:Go.Proofs.LaysM.n316 Tryz.prog Tryz.laysM316_ren:={
 mixed:=by kernel_rfl
 f316:=Tryz.func262.trans (congrArg some (by kernel_rfl))
 t0:=Tryz.underlying0
 a0:=Tryz.isAgg0
 z0:=Tryz.sizeOf0
 v0:=Tryz.zeroValue0
 t3:=Tryz.underlying3
 a3:=Tryz.isAgg3
 z3:=Tryz.sizeOf3
 v3:=Tryz.zeroValue3
 t4:=Tryz.underlying4
 a4:=Tryz.isAgg4
 z4:=Tryz.sizeOf4
 v4:=Tryz.zeroValue4
 t9:=Tryz.underlying9
 a9:=Tryz.isAgg9
 z9:=Tryz.sizeOf9
 v9:=Tryz.zeroValue9
 t37:=Tryz.underlying157
 a37:=Tryz.isAgg157
 z37:=Tryz.sizeOf157
 v37:=Tryz.zeroValue157
 t127:=Tryz.underlying307
 a127:=Tryz.isAgg307
 z127:=Tryz.sizeOf307
 v127:=Tryz.zeroValue307
 t5:=Tryz.underlying5
 a5:=Tryz.isAgg5
 z5:=Tryz.sizeOf5
 v5:=Tryz.zeroValue5
 i0:=by kernel_rfl
 i3:=by kernel_rfl
 i4:=by kernel_rfl
 i5:=by kernel_rfl
 i9:=by kernel_rfl
 i37:=by kernel_rfl
 i127:=by kernel_rfl }
open Go.RowKit in
theorem Tryz.stringslite_Clone (s:ByteArray) (w:World) (hlim:s.size≤281474976710656) :
 Calls Tryz.prog 262 #[.string s] w fun e w'=>e=.returned (.string s)∧Below w.heap.size w w':=Any.stringslite_Clone Tryz.laysM316 s w hlim
end Go.Proofs
namespace Go.Proofs.YtffdoiokmiklgaaGreatDoor
open Go.RowKit
set_option maxHeartbeats 400000 in
theorem pclone_any (s:ByteArray) (w:World) (hs:s.size≤140737488355328) :
 Calls Tryz.prog 227 #[.string s] w fun e w'=>e=.returned (.string s)∧Below w.heap.size w w':=by
 have HC:Hid (Calls Tryz.prog 262 #[.string s] w fun e w'=>e=.returned (.string s)∧Below w.heap.size w w'):=Tryz.stringslite_Clone s w (by omega)
 go_enter Tryz.func227,Tryz.ntmps227
 go_wp2_with fail
 refine HC.out.mono ?_
 rintro e w1 ⟨rfl,hb⟩
 go_wp2_with fail
 go_ret
 exact ⟨rfl,hb⟩
def rdT (l:List UInt8):Option (ByteArray × List UInt8):=
 match rdN l with
 | some (n,r)=>if 0≤n∧n≤r.length then some (bstr (r.take n.toNat),r.drop n.toNat) else none
 | none=>none
set_option maxHeartbeats 1600000 in
set_option maxRecDepth 100000 in
theorem text_ok {B g:Nat} {l r:List UInt8} {s:ByteArray} {w:World} (hV:Rv B w) (h:IsP g l w) (hs:l.length≤140737488355328) (hl:rdT l=some (s,r)) :
 Calls Tryz.prog 164 #[.pointer (some ⟨g,0,none⟩)] w fun e w'=>e=.returned (.string s)∧IsP g r w'∧Rp g w w':=by
 unfold rdT at hl
 split at hl
 case h_2=>simp at hl
 rename_i n r' hn
 have HN:Hid (Calls Tryz.prog 168 #[.pointer (some ⟨g,0,none⟩)] w fun e w'=>e=.returned (.int .i64 n)∧IsP g r' w'∧Rp g w w'):=num_ok hV h hs hn
 have hrl:=(rdN_in hn).2
 clear hn h hV
 split at hl
 case isFalse=>simp at hl
 rename_i hk
 simp only [Option.some.injEq,Prod.mk.injEq] at hl
 obtain ⟨rfl,rfl⟩:=hl
 obtain ⟨k,rfl⟩:∃ k:Nat,n=(k:Int):=⟨n.toNat,by omega⟩
 have hkr:k≤r'.length:=by omega
 simp only [Int.toNat_natCast]
 obtain ⟨R,hR⟩:∃ R,R=bstr r':=⟨_,rfl⟩
 have hRs:R.size=r'.length:=by rw [hR,bstr_size]
 have HR1:Hid (R.extract 0 k=bstr (r'.take k)):=by show _=_;rw [hR,bstr_to]
 have HR2:Hid (R.extract k R.size=bstr (r'.drop k)):=by show _=_;rw [hR,bstr_from]
 have HCL:Hid (∀ W,Calls Tryz.prog 227 #[.string (R.extract 0 k)] W fun e w'=>e=.returned (.string (R.extract 0 k))∧Below W.heap.size W w'):=fun W=>pclone_any _ W (by rw [HR1.out,bstr_size,List.length_take];omega)
 have hw:within (k:Int) 0 (R.size:Int)=true:=by unfold within;simp;omega
 have hkR:k≤R.size:=by omega
 have h0:((k:Int)).toNat=k:=by omega
 have h3:((R.size:Int)).toNat=R.size:=by omega
 have hkI:(k:Int)≤(R.size:Int):=by omega
 have hRb:R.size≤140737488355328:=by omega
 have HRR:Hid (R=bstr r'):=hR
 clear hkr hrl hk hs hR hRs
 go_enter Tryz.func164,Tryz.ntmps164
 go_wp2_with fail
 refine HN.out.mono ?_
 rintro e w1 ⟨rfl,hp,hr⟩
 have HP:Hid (IsP g r' w1∧Rp g w w1):=⟨hp,hr⟩
 have c1:w1.cell? ⟨g,0,none⟩=some (.string R):=by rw [HRR.out];exact hp.c0
 clear hp hr
 go_wp2_with (first | (go_at_call 76;refine (within_any _ _ _ _).mono ?_;rintro e w' ⟨rfl,rfl⟩;rw [hw]) | (go_at_call 123;refine (need_ok _ _).mono ?_;rintro e w' ⟨rfl,rfl⟩))
 refine (HCL.out _).mono ?_
 rintro e w4 ⟨rfl,hb4⟩
 have hp4:=HP.out.1.below hb4
 have HR4:Hid (Rp g w w4):=HP.out.2.trans (Rp.of_below hb4 (Nat.le_refl _))
 obtain ⟨c4',z4,g4⟩:=hp4
 have c4:w4.cell? ⟨g,0,none⟩=some (.string R):=by rw [HRR.out];exact c4'
 clear hb4 c4' c1
 go_wp2_with fail
 go_ret
 refine ⟨by rw [HR1.out];rfl,⟨?_,by simpa using z4,by simpa using g4⟩,HR4.out.trans (Rp.set g _ _)⟩
 rw [← HR2.out]
 exact World.cell?_setCell_same _ _ _ c4
set_option maxHeartbeats 1600000 in
set_option maxRecDepth 100000 in
theorem text_no {B g:Nat} {l:List UInt8} {w:World} (hV:Rv B w) (h:IsP g l w) (hs:l.length≤140737488355328) (hl:rdT l=none) :
 Calls Tryz.prog 164 #[.pointer (some ⟨g,0,none⟩)] w fun e w'=>e=outP 1∧Rp g w w':=by
 unfold rdT at hl
 split at hl
 ·rename_i n r' hn
  have HN:Hid (Calls Tryz.prog 168 #[.pointer (some ⟨g,0,none⟩)] w fun e w'=>e=.returned (.int .i64 n)∧IsP g r' w'∧Rp g w w'):=num_ok hV h hs hn
  clear hn h hV hs
  split at hl
  ·simp at hl
  rename_i hk
  clear hl
  obtain ⟨R,hR⟩:∃ R,R=bstr r':=⟨_,rfl⟩
  have hRs:R.size=r'.length:=by rw [hR,bstr_size]
  have hw:within n 0 (R.size:Int)=false:=by
   cases hx:within n 0 (R.size:Int) with
   | false=>rfl
   | true=>exact absurd (by unfold within at hx;simp at hx;omega) hk
  have HRR:Hid (R=bstr r'):=hR
  clear hk hR hRs
  go_enter Tryz.func164,Tryz.ntmps164
  go_wp2_with fail
  refine HN.out.mono ?_
  rintro e w1 ⟨rfl,hp,hr⟩
  have HP:Hid (Rp g w w1):=hr
  have c1:w1.cell? ⟨g,0,none⟩=some (.string R):=by rw [HRR.out];exact hp.c0
  clear hp hr
  go_wp2_with (go_at_call 76;refine (within_any _ _ _ _).mono ?_;rintro e w' ⟨rfl,rfl⟩;rw [hw])
  refine (need_no _ _).mono ?_
  rintro e w5 ⟨rfl,rfl⟩
  exact ⟨rfl,rfl,HP.out⟩
 ·rename_i hn
  have HN:Hid (Calls Tryz.prog 168 #[.pointer (some ⟨g,0,none⟩)] w fun e w'=>e=outP 1∧Rp g w w'):=num_no hV h hs hn
  clear hn h hV hs hl
  go_enter Tryz.func164,Tryz.ntmps164
  go_wp2_with fail
  refine HN.out.mono ?_
  rintro e w1 ⟨rfl,hr⟩
  exact ⟨rfl,rfl,hr⟩
theorem var_lt {W:World} {n:String} {g:Nat} {v:Value} (hg:Tryz.prog.globalNamed n=some g) (h:W.var? Tryz.prog n=some #[v]):W.cell? ⟨g,0,none⟩=some v∧g < W.heap.size:=by
 have h0:W.cell? ⟨g,0,none⟩=some v:=by have:=World.var?_cell hg h 0;simpa using this
 exact ⟨h0,World.block_lt_of_cell? W _ h0⟩
theorem Tryz.gPow : Tryz.prog.globalNamed "internal/strconv.uint64pow10" = some 3 := by kernel_rfl
theorem Tryz.gPowT:(Tryz.prog.globals[3]?).map (·.type)=some 342:=by kernel_rfl
theorem Tryz.gES : Tryz.prog.globalNamed "strconv.ErrSyntax" = some 1 := by kernel_rfl
theorem Tryz.gEST:(Tryz.prog.globals[1]?).map (·.type)=some 248:=by kernel_rfl
theorem Tryz.gER : Tryz.prog.globalNamed "strconv.ErrRange" = some 2 := by kernel_rfl
theorem Tryz.gERT:(Tryz.prog.globals[2]?).map (·.type)=some 248:=by kernel_rfl
theorem Tryz.cU64:Tryz.prog.cellsOf 226=1:=by kernel_rfl
theorem Tryz.cPow:Tryz.prog.cellsOf 342=20:=by kernel_rfl
theorem Tryz.cEs:Tryz.prog.cellsOf 340=1:=by kernel_rfl
theorem Tryz.c9:Tryz.prog.cellsOf 9=1:=by kernel_rfl
theorem starEs : "*" ++ "errors.errorString" = "*errors.errorString" := by decide
theorem Tryz.rowEs (u : TypeId) (h : Tryz.prog.typeName? 3 u = some "*errors.errorString") : u = 338 :=
 typeName_ptr_named (nm := "errors.errorString") (by rw [starEs]; kernel_rfl) (by kernel_rfl) (by decide) u (by rw [starEs]; exact h)
theorem laid_pow:(Rows.laid_internal_strconv_uint64pow10:DataW Unit)=Lib.tabData .u64 Lib.pow10Tab:=by kernel_rfl
theorem rv_of {W : World} (h : laidMetH Tryz.prog [("math/bits.deBruijn32tab", Rows.laid_math_bits_deBruijn32tab), ("math/bits.deBruijn64tab", Rows.laid_math_bits_deBruijn64tab), ("internal/strconv.uint64pow10", Rows.laid_internal_strconv_uint64pow10), ("strconv.ErrRange", Rows.laid_strconv_ErrRange), ("strconv.ErrSyntax", Rows.laid_strconv_ErrSyntax)] W) : Rv W.heap.size W := by
 rw [MakeChecks.laidMetH_plain _ _ _ (by kernel_rfl)] at h
 have h2:=h.tail.tail
 rw [laid_pow] at h2
 have hT:=Lib.tabIs_of_head Tryz.gPow Tryz.gPowT Tryz.underlying342 Tryz.underlying226 Tryz.cU64 Tryz.cPow h2
 have h3:=h2.tail
 unfold Rows.laid_strconv_ErrRange at h3
 obtain ⟨a1,s1,hv1,-,-,-⟩:=laid_sentinel h3 Tryz.gER Tryz.gERT Tryz.underlying248 Tryz.rowEs Tryz.underlying338 Tryz.underlying340 rfl rfl Tryz.underlying9 Tryz.cEs Tryz.c9
 have h4:=h3.tail
 unfold Rows.laid_strconv_ErrSyntax at h4
 obtain ⟨a0,s0,hv0,-,-,-⟩:=laid_sentinel h4 Tryz.gES Tryz.gEST Tryz.underlying248 Tryz.rowEs Tryz.underlying338 Tryz.underlying340 rfl rfl Tryz.underlying9 Tryz.cEs Tryz.c9
 obtain ⟨c1,l1⟩:=var_lt Tryz.gER hv1
 obtain ⟨c0,l0⟩:=var_lt Tryz.gES hv0
 exact ⟨Lib.tabBelow_of_tabIs hT,⟨_,_,_,_,c0,c1⟩,l0,l1,Nat.le_refl _⟩
end Go.Proofs.YtffdoiokmiklgaaGreatDoor
