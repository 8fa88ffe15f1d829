import Derived.Test.YtffdoiokmiklgaaGreatDoortr24
import Derived.Test.YtffdoiokmiklgaaGreatDoortr13
import Derived.Shelf.RegionOpen
import Derived.Lib.ConvBytes
import Derived.Laws.IdiomStrings
import Derived.Laws.DeepStrings4
import Derived.Lib.Split
import Derived.Shelf.Strings.Builder1
import Derived.Shelf.Small.Bits
import Derived.Shelf.Small.Strs
import Derived.Shelf.Strconv.Atoi
import Derived.Shelf.Strconv.Itoa0
import Derived.Shelf.Strconv.Itoa1
import Derived.Shelf.LaysM
import Derived.Shelf.Strconv.Itoa2
import Derived.Shelf.Strconv.Itoa3
import Derived.Shelf.Strconv.AtoiErrFast
import Derived.Shelf.Strconv.ParseIntEmpty
import Derived.Shelf.Strconv.AtoiFail
import Derived.Shelf.Strconv.Clone
import Derived.Shelf.Strconv.SyntaxError
import Derived.Shelf.LaysC
import Derived.Shelf.Strconv.ToError
import Derived.Shelf.Strconv.Lower
import Derived.Shelf.Strconv.ParseUint10
import Derived.Shelf.Strconv.ParseUint10Empty
import Derived.Shelf.Strconv.ParseUint10Any
import Derived.Shelf.Strconv.ParseInt10
import Derived.Shelf.Strconv.AtoiLong
import Derived.Shelf.Strconv.AtoiInnerAll
import Derived.Shelf.Strconv.RangeError
import Derived.Shelf.Strconv.ToErrorRange
import Derived.Shelf.Strconv.AtoiAll
import Derived.Shelf.Strings.Search1
import Derived.Ground.SlsfProg
import Derived.Shelf.SlSortCmp.Insertion
import Derived.Test.YtffdoiokmiklgaaGreatDoorProg
import Derived.Test.YtffdoiokmiklgaaGreatDoortr1
import Derived.Test.YtffdoiokmiklgaaGreatDoortr4
import Derived.OwnWalk
import Derived.Test.YtffdoiokmiklgaaGreatDoorRows
import Derived.Stop.LaidErr
import Derived.Lib.LaidTab
import Derived.LaidSub
import Derived.LaidMore
namespace Go.Proofs.YtffdoiokmiklgaaGreatDoor
open Go.RowKit
def numB (n:Int):List UInt8:=Lib.itoa n++[59]
def txtB (s:ByteArray):List UInt8:=numB s.size++s.data.toList
def flgB (y:Bool):List UInt8:=numB (if y=true then 1 else 0)
theorem bc_app (a b:List UInt8):Lib.byteCells (a++b)=Lib.byteCells a++Lib.byteCells b:=by simp [Lib.byteCells]
theorem numL_eq (n:Int):numL n=Lib.byteCells (numB n):=by
 unfold numL numB itoaB
 rw [bc_app,Lib.strCells_toArray];rfl
theorem txtL_eq (s:ByteArray):txtL s=Lib.byteCells (txtB s):=by
 unfold txtL txtB
 rw [bc_app,numL_eq];rfl
theorem flgL_eq (y:Bool):flgL y=Lib.byteCells (flgB y):=numL_eq _
theorem bc_flat {α:Type} (f:α→List Value) (g:α→List UInt8) (h:∀ x,f x=Lib.byteCells (g x)):∀ l:List α,l.flatMap f=Lib.byteCells (l.flatMap g)
 | []=>rfl
 | x :: r=>by rw [List.flatMap_cons,List.flatMap_cons,bc_app,h,bc_flat f g h r]
theorem nums_eq (l:List Int):l.flatMap numL=Lib.byteCells (l.flatMap numB):=bc_flat numL numB numL_eq l
def elB (m:Mem):List UInt8:=txtB m.name++[m.state,m.life,m.addr].flatMap numB++flgB m.server
theorem elL_eq (m:Mem):elL m=Lib.byteCells (elB m):=by
 unfold elL elB
 simp only [bc_app,txtL_eq,flgL_eq,nums_eq]
def Sv.elB (m:Sv.Svc):List UInt8:=txtB m.node++txtB m.idn++txtB m.name++txtB m.tag++[m.addr,m.port].flatMap numB++flgB m.passing++[m.version].flatMap numB++flgB m.gone
theorem Sv.elL_eq (m:Sv.Svc):Sv.elL m=Lib.byteCells (Sv.elB m):=by
 unfold Sv.elL Sv.elB
 simp only [bc_app,txtL_eq,flgL_eq,nums_eq]
def Gw.elB (m:Gw.Gwy):List UInt8:=txtB m.centre++[m.addr,m.version].flatMap numB
theorem Gw.elL_eq (m:Gw.Gwy):Gw.elL m=Lib.byteCells (Gw.elB m):=by
 unfold Gw.elL Gw.elB
 simp only [bc_app,txtL_eq,nums_eq]
def Wh.elB (m:Wh.Whe):List UInt8:=txtB m.node++[m.x,m.y,m.z,m.h,m.s].flatMap numB
theorem Wh.elL_eq (m:Wh.Whe):Wh.elL m=Lib.byteCells (Wh.elB m):=by
 unfold Wh.elL Wh.elB
 simp only [bc_app,txtL_eq,nums_eq]
def Pk.L (p:Pk):List Value:=txtL p.frm++flgL p.whole++(numL p.ms.length++p.ms.flatMap elL)++(numL p.sv.length++p.sv.flatMap Sv.elL)++(numL p.gw.length++p.gw.flatMap Gw.elL)++(numL p.wh.length++p.wh.flatMap Wh.elL)
def Pk.B (p:Pk):List UInt8:=txtB p.frm++flgB p.whole++(numB p.ms.length++p.ms.flatMap elB)++(numB p.sv.length++p.sv.flatMap Sv.elB)++(numB p.gw.length++p.gw.flatMap Gw.elB)++(numB p.wh.length++p.wh.flatMap Wh.elB)
theorem Pk.L_eq (p:Pk):p.L=Lib.byteCells p.B:=by
 unfold Pk.L Pk.B
 simp only [bc_app,txtL_eq,flgL_eq,numL_eq,bc_flat elL elB elL_eq,bc_flat Sv.elL Sv.elB Sv.elL_eq,bc_flat Gw.elL Gw.elB Gw.elL_eq,bc_flat Wh.elL Wh.elB Wh.elL_eq]
structure Pk.Wok (p:Pk):Prop where
 frm:p.frm.size≤1000
 ms:p.ms.length≤20∧∀ m∈p.ms,wok m
 sv:p.sv.length≤40∧∀ m∈p.sv,Sv.wok m
 gw:p.gw.length≤6∧∀ m∈p.gw,Gw.wok m
 wh:p.wh.length≤20∧∀ m∈p.wh,Wh.wok m
set_option maxHeartbeats 6400000 in
set_option maxRecDepth 100000 in
theorem wpacket_any (B b:Nat) (p:Pk) (zm zs zg zw:Value) (w0 w:World) (h:IsW B b [] w) (hx:PkIs w0 p zm zs zg zw) (hB:B=w0.heap.size) (hbel:Below B w0 w) (hBw:B≤w.heap.size) (hT:Tab B w) (hok:p.Wok) :
 Calls Tryz.prog 251 #[.pointer (some ⟨b,0,none⟩),.agg #[.string p.frm,.bool p.whole,zm,zs,zg,zw]] w fun e w'=>e=.returned (.tuple #[])∧IsW B b p.L w'∧Kp B b w w':=by
 have HPL:Hid (p.L=txtL p.frm++flgL p.whole++(numL p.ms.length++p.ms.flatMap elL)++(numL p.sv.length++p.sv.flatMap Sv.elL)++(numL p.gw.length++p.gw.flatMap Gw.elL)++(numL p.wh.length++p.wh.flatMap Wh.elL)):=rfl
 have HXI:Hid (PkIs w0 p zm zs zg zw):=hx
 have HOK:Hid p.Wok:=hok
 obtain ⟨frm,whole,ms,sv,gw,wh⟩:=p
 obtain ⟨⟨pm,cm,rfl,_,_⟩,⟨ps,cs,rfl,_,_⟩,⟨pg,cg,rfl,_,_⟩,⟨ph,ch,rfl,_,_⟩,_,_⟩:=hx
 simp only at HPL HXI ⊢
 generalize Pk.L ⟨frm,whole,ms,sv,gw,wh⟩=PL at *
 have hlb:=h.lt
 obtain ⟨W0,hW0⟩:∃ W0,W0=(w.alloc (.cells #[.pointer (some ⟨b,0,none⟩)] 295)).alloc (.cells #[.string frm,.bool whole,.slice pm ms.length cm,.slice ps sv.length cs,.slice pg gw.length cg,.slice ph wh.length ch] 67):=⟨_,rfl⟩
 have hb0:Below w.heap.size w W0:=by rw [hW0];exact ((Below.refl _ _).alloc (Nat.le_refl _) _).alloc (by simp) _
 have HW0:Hid (IsW B b [] W0):=h.below hb0
 have HK0:Hid (Kp B b w W0):=Kp.of_below hb0 hBw
 have HB0:Hid (W0.heap[w.heap.size]?=some (.cells #[.pointer (some ⟨b,0,none⟩)] 295 (0,0))):=by rw [hW0,Below.heap_alloc _ _ _ (by simp)];exact heap_alloc_new w _
 have hx0:W0.heap[w.heap.size+1]?=some (.cells #[.string frm,.bool whole,.slice pm ms.length cm,.slice ps sv.length cs,.slice pg gw.length cg,.slice ph wh.length ch] 67 (0,0)):=by
  have h:=heap_alloc_new (w.alloc (.cells #[.pointer (some ⟨b,0,none⟩)] 295)) (.cells #[.string frm,.bool whole,.slice pm ms.length cm,.slice ps sv.length cs,.slice pg gw.length cg,.slice ph wh.length ch] 67)
  rw [hW0];simpa using h
 have HX0:Hid (W0.heap[w.heap.size+1]?=some (.cells #[.string frm,.bool whole,.slice pm ms.length cm,.slice ps sv.length cs,.slice pg gw.length cg,.slice ph wh.length ch] 67 (0,0))):=hx0
 have HL0:Hid (([]:List Value).length≤0):=Nat.le_refl _
 have HT:Hid (Tab B w):=hT
 have HBE:Hid (Below B w0 w):=hbel
 clear h hb0 hT hbel hok hx0
 have HFZ:=HOK.out.frm
 simp only at HFZ
 have HCM:Hid (∀ W bs,Kp B b w W→IsW B b bs W→bs.length+66000≤600000→W.heap[w.heap.size]?=some (.cells #[.pointer (some ⟨b,0,none⟩)] 295 (0,0))→Calls Tryz.prog 287 #[.pointer (some ⟨b,0,none⟩),.slice pm ms.length cm,.func (.func 288) #[] #[.pointer (some ⟨w.heap.size,0,none⟩)]] W fun e w'=>e=.returned (.tuple #[])∧IsW B b (bs++(numL ms.length++ms.flatMap elL)) w'∧Kp B b W w'):=fun W bs hK hW hl hwb=>
  wlist_any B b w.heap.size ms _ bs w0 W hW HXI.out.ms hB (HBE.out.trans hK.bel) (by have:=HOK.out.ms.1;simp only at this;omega) (by have:=HOK.out.ms.1;simp only at this;omega) (Nat.le_trans hBw hK.size) (HT.out.below hK.bel) hwb (by omega) HOK.out.ms.2
 have HLLM:Hid ((numL ms.length++ms.flatMap elL).length≤21+3300 * 20):=by
  have g1:=els_len ms HOK.out.ms.2
  have g2:=numL_len (in63_nat (n:=ms.length) (by have:=HOK.out.ms.1;simp only at this;omega))
  have g3:=HOK.out.ms.1
  simp only at g3
  show (numL ms.length++ms.flatMap elL).length≤21+3300 * 20
  rw [List.length_append]
  have g4:3300 * ms.length≤3300 * 20:=Nat.mul_le_mul_left _ g3
  omega
 generalize (numL ms.length++ms.flatMap elL)=EM at *
 have HCS:Hid (∀ W bs,Kp B b w W→IsW B b bs W→bs.length+352000≤600000→W.heap[w.heap.size]?=some (.cells #[.pointer (some ⟨b,0,none⟩)] 295 (0,0))→Calls Tryz.prog 290 #[.pointer (some ⟨b,0,none⟩),.slice ps sv.length cs,.func (.func 291) #[] #[.pointer (some ⟨w.heap.size,0,none⟩)]] W fun e w'=>e=.returned (.tuple #[])∧IsW B b (bs++(numL sv.length++sv.flatMap Sv.elL)) w'∧Kp B b W w'):=fun W bs hK hW hl hwb=>
  Sv.wlist_any B b w.heap.size sv _ bs w0 W hW HXI.out.sv hB (HBE.out.trans hK.bel) (by have:=HOK.out.sv.1;simp only at this;omega) (by have:=HOK.out.sv.1;simp only at this;omega) (Nat.le_trans hBw hK.size) (HT.out.below hK.bel) hwb (by omega) HOK.out.sv.2
 have HLLS:Hid ((numL sv.length++sv.flatMap Sv.elL).length≤21+8800 * 40):=by
  have g1:=Sv.els_len sv HOK.out.sv.2
  have g2:=numL_len (in63_nat (n:=sv.length) (by have:=HOK.out.sv.1;simp only at this;omega))
  have g3:=HOK.out.sv.1
  simp only at g3
  show (numL sv.length++sv.flatMap Sv.elL).length≤21+8800 * 40
  rw [List.length_append]
  have g4:8800 * sv.length≤8800 * 40:=Nat.mul_le_mul_left _ g3
  omega
 generalize (numL sv.length++sv.flatMap Sv.elL)=ES at *
 have HCG:Hid (∀ W bs,Kp B b w W→IsW B b bs W→bs.length+13200≤600000→W.heap[w.heap.size]?=some (.cells #[.pointer (some ⟨b,0,none⟩)] 295 (0,0))→Calls Tryz.prog 292 #[.pointer (some ⟨b,0,none⟩),.slice pg gw.length cg,.func (.func 293) #[] #[.pointer (some ⟨w.heap.size,0,none⟩)]] W fun e w'=>e=.returned (.tuple #[])∧IsW B b (bs++(numL gw.length++gw.flatMap Gw.elL)) w'∧Kp B b W w'):=fun W bs hK hW hl hwb=>
  Gw.wlist_any B b w.heap.size gw _ bs w0 W hW HXI.out.gw hB (HBE.out.trans hK.bel) (by have:=HOK.out.gw.1;simp only at this;omega) (by have:=HOK.out.gw.1;simp only at this;omega) (Nat.le_trans hBw hK.size) (HT.out.below hK.bel) hwb (by omega) HOK.out.gw.2
 have HLLG:Hid ((numL gw.length++gw.flatMap Gw.elL).length≤21+2200 * 6):=by
  have g1:=Gw.els_len gw HOK.out.gw.2
  have g2:=numL_len (in63_nat (n:=gw.length) (by have:=HOK.out.gw.1;simp only at this;omega))
  have g3:=HOK.out.gw.1
  simp only at g3
  show (numL gw.length++gw.flatMap Gw.elL).length≤21+2200 * 6
  rw [List.length_append]
  have g4:2200 * gw.length≤2200 * 6:=Nat.mul_le_mul_left _ g3
  omega
 generalize (numL gw.length++gw.flatMap Gw.elL)=EG at *
 have HCW:Hid (∀ W bs,Kp B b w W→IsW B b bs W→bs.length+44000≤600000→W.heap[w.heap.size]?=some (.cells #[.pointer (some ⟨b,0,none⟩)] 295 (0,0))→Calls Tryz.prog 294 #[.pointer (some ⟨b,0,none⟩),.slice ph wh.length ch,.func (.func 295) #[] #[.pointer (some ⟨w.heap.size,0,none⟩)]] W fun e w'=>e=.returned (.tuple #[])∧IsW B b (bs++(numL wh.length++wh.flatMap Wh.elL)) w'∧Kp B b W w'):=fun W bs hK hW hl hwb=>
  Wh.wlist_any B b w.heap.size wh _ bs w0 W hW HXI.out.wh hB (HBE.out.trans hK.bel) (by have:=HOK.out.wh.1;simp only at this;omega) (by have:=HOK.out.wh.1;simp only at this;omega) (Nat.le_trans hBw hK.size) (HT.out.below hK.bel) hwb (by omega) HOK.out.wh.2
 have HLLW:Hid ((numL wh.length++wh.flatMap Wh.elL).length≤21+2200 * 20):=by
  have g1:=Wh.els_len wh HOK.out.wh.2
  have g2:=numL_len (in63_nat (n:=wh.length) (by have:=HOK.out.wh.1;simp only at this;omega))
  have g3:=HOK.out.wh.1
  simp only at g3
  show (numL wh.length++wh.flatMap Wh.elL).length≤21+2200 * 20
  rw [List.length_append]
  have g4:2200 * wh.length≤2200 * 20:=Nat.mul_le_mul_left _ g3
  omega
 generalize (numL wh.length++wh.flatMap Wh.elL)=EW at *
 clear HOK HXI HBE
 generalize ms.length=nm at *
 generalize sv.length=ns at *
 generalize gw.length=ng at *
 generalize wh.length=nh at *
 go_enter Tryz.func251,Tryz.ntmps251
 go_upto_region 1 with fail
 rw [← hW0]
 clear hW0
 have y0:W0.cell? ⟨w.heap.size,0,none⟩=some (.pointer (some ⟨b,0,none⟩)):=cellsAt HB0.out 0
 have z0:W0.cell? ⟨w.heap.size+1,0,none⟩=some (.string frm):=cellsAt HX0.out 0
 go_wp2_with fail
 refine (wtext_any B b frm ([]) W0 HW0.out (by have:=HL0.out;omega) (Nat.le_trans hBw HK0.out.size) (HT.out.below HK0.out.bel)).mono ?_
 rintro e W1 ⟨rfl,hw,hk⟩
 have HW1:Hid (IsW B b ([]++txtL frm) W1):=hw
 have HK1:Hid (Kp B b w W1):=HK0.out.trans hk
 have HX1:Hid (W1.heap[w.heap.size+1]?=some (.cells #[.string frm,.bool whole,.slice pm nm cm,.slice ps ns cs,.slice pg ng cg,.slice ph nh ch] 67 (0,0))):=hk.keeps HX0.out (by omega) (by decide)
 have HB1:Hid (W1.heap[w.heap.size]?=some (.cells #[.pointer (some ⟨b,0,none⟩)] 295 (0,0))):=hk.keeps HB0.out (by omega) (by decide)
 have HL1:Hid (([]++txtL frm).length≤1100):=by
  have g1:=HL0.out
  have g2:=txtL_len HFZ
  show List.length ([]++txtL frm)≤_
  rw [List.length_append]
  omega
 clear hw hk y0 z0
 have y0:W1.cell? ⟨w.heap.size,0,none⟩=some (.pointer (some ⟨b,0,none⟩)):=cellsAt HB1.out 0
 have z0:W1.cell? ⟨w.heap.size+1,1,none⟩=some (.bool whole):=cellsAt HX1.out 1
 go_wp2_with fail
 refine (wflag_any B b whole ([]++txtL frm) W1 HW1.out (by have:=HL1.out;omega) (Nat.le_trans hBw HK1.out.size) (HT.out.below HK1.out.bel)).mono ?_
 rintro e W2 ⟨rfl,hw,hk⟩
 have HW2:Hid (IsW B b ([]++txtL frm++flgL whole) W2):=hw
 have HK2:Hid (Kp B b w W2):=HK1.out.trans hk
 have HX2:Hid (W2.heap[w.heap.size+1]?=some (.cells #[.string frm,.bool whole,.slice pm nm cm,.slice ps ns cs,.slice pg ng cg,.slice ph nh ch] 67 (0,0))):=hk.keeps HX1.out (by omega) (by decide)
 have HB2:Hid (W2.heap[w.heap.size]?=some (.cells #[.pointer (some ⟨b,0,none⟩)] 295 (0,0))):=hk.keeps HB1.out (by omega) (by decide)
 have HL2:Hid (([]++txtL frm++flgL whole).length≤2200):=by
  have g1:=HL1.out
  have g2:=flgL_len whole
  show List.length ([]++txtL frm++flgL whole)≤_
  rw [List.length_append]
  omega
 clear hw hk y0 z0
 have y0:W2.cell? ⟨w.heap.size,0,none⟩=some (.pointer (some ⟨b,0,none⟩)):=cellsAt HB2.out 0
 have z0:W2.cell? ⟨w.heap.size+1,2,none⟩=some (.slice pm nm cm):=cellsAt HX2.out 2
 go_wp2_with fail
 refine (HCM.out W2 ([]++txtL frm++flgL whole) HK2.out HW2.out (by have:=HL2.out;omega) HB2.out).mono ?_
 rintro e W3 ⟨rfl,hw,hk⟩
 have HW3:Hid (IsW B b ([]++txtL frm++flgL whole++EM) W3):=hw
 have HK3:Hid (Kp B b w W3):=HK2.out.trans hk
 have HX3:Hid (W3.heap[w.heap.size+1]?=some (.cells #[.string frm,.bool whole,.slice pm nm cm,.slice ps ns cs,.slice pg ng cg,.slice ph nh ch] 67 (0,0))):=hk.keeps HX2.out (by omega) (by decide)
 have HB3:Hid (W3.heap[w.heap.size]?=some (.cells #[.pointer (some ⟨b,0,none⟩)] 295 (0,0))):=hk.keeps HB2.out (by omega) (by decide)
 have HL3:Hid (([]++txtL frm++flgL whole++EM).length≤68221):=by
  have g1:=HL2.out
  have g2:=HLLM.out
  show List.length ([]++txtL frm++flgL whole++EM)≤_
  rw [List.length_append]
  omega
 clear hw hk y0 z0
 have y0:W3.cell? ⟨w.heap.size,0,none⟩=some (.pointer (some ⟨b,0,none⟩)):=cellsAt HB3.out 0
 have z0:W3.cell? ⟨w.heap.size+1,3,none⟩=some (.slice ps ns cs):=cellsAt HX3.out 3
 go_wp2_with fail
 refine (HCS.out W3 ([]++txtL frm++flgL whole++EM) HK3.out HW3.out (by have:=HL3.out;omega) HB3.out).mono ?_
 rintro e W4 ⟨rfl,hw,hk⟩
 have HW4:Hid (IsW B b ([]++txtL frm++flgL whole++EM++ES) W4):=hw
 have HK4:Hid (Kp B b w W4):=HK3.out.trans hk
 have HX4:Hid (W4.heap[w.heap.size+1]?=some (.cells #[.string frm,.bool whole,.slice pm nm cm,.slice ps ns cs,.slice pg ng cg,.slice ph nh ch] 67 (0,0))):=hk.keeps HX3.out (by omega) (by decide)
 have HB4:Hid (W4.heap[w.heap.size]?=some (.cells #[.pointer (some ⟨b,0,none⟩)] 295 (0,0))):=hk.keeps HB3.out (by omega) (by decide)
 have HL4:Hid (([]++txtL frm++flgL whole++EM++ES).length≤420242):=by
  have g1:=HL3.out
  have g2:=HLLS.out
  show List.length ([]++txtL frm++flgL whole++EM++ES)≤_
  rw [List.length_append]
  omega
 clear hw hk y0 z0
 have y0:W4.cell? ⟨w.heap.size,0,none⟩=some (.pointer (some ⟨b,0,none⟩)):=cellsAt HB4.out 0
 have z0:W4.cell? ⟨w.heap.size+1,4,none⟩=some (.slice pg ng cg):=cellsAt HX4.out 4
 go_wp2_with fail
 refine (HCG.out W4 ([]++txtL frm++flgL whole++EM++ES) HK4.out HW4.out (by have:=HL4.out;omega) HB4.out).mono ?_
 rintro e W5 ⟨rfl,hw,hk⟩
 have HW5:Hid (IsW B b ([]++txtL frm++flgL whole++EM++ES++EG) W5):=hw
 have HK5:Hid (Kp B b w W5):=HK4.out.trans hk
 have HX5:Hid (W5.heap[w.heap.size+1]?=some (.cells #[.string frm,.bool whole,.slice pm nm cm,.slice ps ns cs,.slice pg ng cg,.slice ph nh ch] 67 (0,0))):=hk.keeps HX4.out (by omega) (by decide)
 have HB5:Hid (W5.heap[w.heap.size]?=some (.cells #[.pointer (some ⟨b,0,none⟩)] 295 (0,0))):=hk.keeps HB4.out (by omega) (by decide)
 have HL5:Hid (([]++txtL frm++flgL whole++EM++ES++EG).length≤433463):=by
  have g1:=HL4.out
  have g2:=HLLG.out
  show List.length ([]++txtL frm++flgL whole++EM++ES++EG)≤_
  rw [List.length_append]
  omega
 clear hw hk y0 z0
 have y0:W5.cell? ⟨w.heap.size,0,none⟩=some (.pointer (some ⟨b,0,none⟩)):=cellsAt HB5.out 0
 have z0:W5.cell? ⟨w.heap.size+1,5,none⟩=some (.slice ph nh ch):=cellsAt HX5.out 5
 go_wp2_with fail
 refine (HCW.out W5 ([]++txtL frm++flgL whole++EM++ES++EG) HK5.out HW5.out (by have:=HL5.out;omega) HB5.out).mono ?_
 rintro e W6 ⟨rfl,hw,hk⟩
 have HW6:Hid (IsW B b ([]++txtL frm++flgL whole++EM++ES++EG++EW) W6):=hw
 have HK6:Hid (Kp B b w W6):=HK5.out.trans hk
 have HX6:Hid (W6.heap[w.heap.size+1]?=some (.cells #[.string frm,.bool whole,.slice pm nm cm,.slice ps ns cs,.slice pg ng cg,.slice ph nh ch] 67 (0,0))):=hk.keeps HX5.out (by omega) (by decide)
 have HB6:Hid (W6.heap[w.heap.size]?=some (.cells #[.pointer (some ⟨b,0,none⟩)] 295 (0,0))):=hk.keeps HB5.out (by omega) (by decide)
 have HL6:Hid (([]++txtL frm++flgL whole++EM++ES++EG++EW).length≤477484):=by
  have g1:=HL5.out
  have g2:=HLLW.out
  show List.length ([]++txtL frm++flgL whole++EM++ES++EG++EW)≤_
  rw [List.length_append]
  omega
 clear hw hk y0 z0
 have HWE:Hid (IsW B b PL W6):=by
  have h:=HW6.out
  rw [HPL.out]
  simp only [List.append_assoc,List.nil_append] at h ⊢
  exact h
 go_wp2_with fail
 simp [bodyPost,results,Tryz.results251]
 exact ⟨HWE.out,HK6.out⟩
def bstr (l:List UInt8):ByteArray:=⟨l.toArray⟩
theorem bstr_size (l:List UInt8):(bstr l).size=l.length:=by simp [bstr,ByteArray.size]
end Go.Proofs.YtffdoiokmiklgaaGreatDoor
namespace Go.Proofs
open Go.Shelf
def Tryz.laysC172_ren:Go.Shelf.Ren:=⟨fun | 172=>229 | 244=>264 | 245=>265 | 247=>299 | 279=>300 | 280=>301 | 281=>302 | 282=>303 | 287=>319 | 316=>262 | 171=>230 | 205=>320 | 321=>332 | 322=>333 | 243=>266 | 246=>304 | 283=>321 | 284=>322 | 285=>323 | 286=>324 | 129=>207 | 317=>334 | 318=>335 | 319=>336 | 320=>337 | 337=>340 | 338=>341 | n=>n,fun | 9=>9 | 3=>3 | 75=>248 | 76=>249 | 4=>4 | 5=>5 | 167=>311 | 37=>157 | 0=>0 | 85=>312 | 2=>2 | 168=>314 | 53=>226 | 175=>323 | 46=>176 | 210=>326 | 127=>307 | 145=>340 | 143=>338 | 21=>21 | 171=>328 | 173=>330 | 212=>342 | 51=>224 | 20=>20 | 213=>343 | 232=>347 | 233=>348 | 80=>103 | n=>n,fun | 15=>1 | 16=>2 | 17=>3 | 18=>4 | 19=>5 | n=>n⟩
theorem Tryz.laysC172:Go.Proofs.LaysC.n172 Tryz.prog Tryz.laysC172_ren:={
 mixed:=by kernel_rfl
 f129:=Tryz.func207.trans (congrArg some (by kernel_rfl))
 f171:=Tryz.func230.trans (congrArg some (by kernel_rfl))
 f172:=Tryz.func229.trans (congrArg some (by kernel_rfl))
 f205:=Tryz.func320.trans (congrArg some (by kernel_rfl))
 f243:=Tryz.func266.trans (congrArg some (by kernel_rfl))
 f244:=Tryz.func264.trans (congrArg some (by kernel_rfl))
 f245:=Tryz.func265.trans (congrArg some (by kernel_rfl))
 f246:=Tryz.func304.trans (congrArg some (by kernel_rfl))
 f247:=Tryz.func299.trans (congrArg some (by kernel_rfl))
 f279:=Tryz.func300.trans (congrArg some (by kernel_rfl))
 f280:=Tryz.func301.trans (congrArg some (by kernel_rfl))
 f281:=Tryz.func302.trans (congrArg some (by kernel_rfl))
 f282:=Tryz.func303.trans (congrArg some (by kernel_rfl))
 f283:=Tryz.func321.trans (congrArg some (by kernel_rfl))
 f284:=Tryz.func322.trans (congrArg some (by kernel_rfl))
 f285:=Tryz.func323.trans (congrArg some (by kernel_rfl))
 f286:=Tryz.func324.trans (congrArg some (by kernel_rfl))
 f287:=Tryz.func319.trans (congrArg some (by kernel_rfl))
 f316:=Tryz.func262.trans (congrArg some (by kernel_rfl))
 f317:=Tryz.func334.trans (congrArg some (by kernel_rfl))
 f318:=Tryz.func335.trans (congrArg some (by kernel_rfl))
 f319:=Tryz.func336.trans (congrArg some (by kernel_rfl))
 f320:=Tryz.func337.trans (congrArg some (by kernel_rfl))
 f321:=Tryz.func332.trans (congrArg some (by kernel_rfl))
 f322:=Tryz.func333.trans (congrArg some (by kernel_rfl))
 f337:=Tryz.func340.trans (congrArg some (by kernel_rfl))
 f338:=Tryz.func341.trans (congrArg some (by kernel_rfl))
 t0:=Tryz.underlying0
 a0:=Tryz.isAgg0
 z0:=Tryz.sizeOf0
 v0:=Tryz.zeroValue0
 t2:=Tryz.underlying2
 a2:=Tryz.isAgg2
 z2:=Tryz.sizeOf2
 v2:=Tryz.zeroValue2
 t3:=Tryz.underlying3
 a3:=Tryz.isAgg3
 z3:=Tryz.sizeOf3
 v3:=Tryz.zeroValue3
 t4:=Tryz.underlying4
 a4:=Tryz.isAgg4
 z4:=Tryz.sizeOf4
 v4:=Tryz.zeroValue4
 t5:=Tryz.underlying5
 a5:=Tryz.isAgg5
 z5:=Tryz.sizeOf5
 v5:=Tryz.zeroValue5
 t9:=Tryz.underlying9
 a9:=Tryz.isAgg9
 z9:=Tryz.sizeOf9
 v9:=Tryz.zeroValue9
 t20:=Tryz.underlying20
 a20:=Tryz.isAgg20
 z20:=Tryz.sizeOf20
 v20:=Tryz.zeroValue20
 t21:=Tryz.underlying21
 a21:=Tryz.isAgg21
 z21:=Tryz.sizeOf21
 v21:=Tryz.zeroValue21
 t37:=Tryz.underlying157
 a37:=Tryz.isAgg157
 z37:=Tryz.sizeOf157
 v37:=Tryz.zeroValue157
 t46:=Tryz.underlying176
 a46:=Tryz.isAgg176
 z46:=Tryz.sizeOf176
 v46:=Tryz.zeroValue176
 t51:=Tryz.underlying224
 a51:=Tryz.isAgg224
 z51:=Tryz.sizeOf224
 v51:=Tryz.zeroValue224
 t53:=Tryz.underlying226
 a53:=Tryz.isAgg226
 z53:=Tryz.sizeOf226
 v53:=Tryz.zeroValue226
 t75:=Tryz.underlying248
 a75:=Tryz.isAgg248
 z75:=Tryz.sizeOf248
 v75:=Tryz.zeroValue248
 t76:=Tryz.underlying249
 a76:=Tryz.isAgg249
 z76:=Tryz.sizeOf249
 v76:=Tryz.zeroValue249
 t85:=Tryz.underlying312
 a85:=Tryz.isAgg312
 z85:=Tryz.sizeOf312
 v85:=Tryz.zeroValue312
 t127:=Tryz.underlying307
 a127:=Tryz.isAgg307
 z127:=Tryz.sizeOf307
 v127:=Tryz.zeroValue307
 t143:=Tryz.underlying338
 a143:=Tryz.isAgg338
 z143:=Tryz.sizeOf338
 v143:=Tryz.zeroValue338
 t145:=Tryz.underlying340
 a145:=Tryz.isAgg340
 z145:=Tryz.sizeOf340
 v145:=Tryz.zeroValue340
 t167:=Tryz.underlying311
 a167:=Tryz.isAgg311
 z167:=Tryz.sizeOf311
 v167:=Tryz.zeroValue311
 t168:=Tryz.underlying314
 a168:=Tryz.isAgg314
 z168:=Tryz.sizeOf314
 v168:=Tryz.zeroValue314
 t171:=Tryz.underlying328
 a171:=Tryz.isAgg328
 z171:=Tryz.sizeOf328
 v171:=Tryz.zeroValue328
 t173:=Tryz.underlying330
 a173:=Tryz.isAgg330
 z173:=Tryz.sizeOf330
 v173:=Tryz.zeroValue330
 t175:=Tryz.underlying323
 a175:=Tryz.isAgg323
 z175:=Tryz.sizeOf323
 v175:=Tryz.zeroValue323
 t210:=Tryz.underlying326
 a210:=Tryz.isAgg326
 z210:=Tryz.sizeOf326
 v210:=Tryz.zeroValue326
 t212:=Tryz.underlying342
 a212:=Tryz.isAgg342
 z212:=Tryz.sizeOf342
 v212:=Tryz.zeroValue342
 t213:=Tryz.underlying343
 a213:=Tryz.isAgg343
 z213:=Tryz.sizeOf343
 t232:=Tryz.underlying347
 a232:=Tryz.isAgg347
 z232:=Tryz.sizeOf347
 v232:=Tryz.zeroValue347
 t233:=Tryz.underlying348
 a233:=Tryz.isAgg348
 z233:=Tryz.sizeOf348
 v233:=Tryz.zeroValue348
 g15:=by kernel_rfl
 g16:=by kernel_rfl
 g17:=by kernel_rfl
 g18:=by kernel_rfl
 g19:=by kernel_rfl
 t80:=Tryz.underlying103
 a80:=Tryz.isAgg103
 z80:=Tryz.sizeOf103
 v80:=Tryz.zeroValue103
 i0:=by kernel_rfl
 i2:=by kernel_rfl
 i3:=by kernel_rfl
 i4:=by kernel_rfl
 i5:=by kernel_rfl
 i9:=by kernel_rfl
 i20:=by kernel_rfl
 i21:=by kernel_rfl
 i37:=by kernel_rfl
 i46:=by kernel_rfl
 i51:=by kernel_rfl
 i53:=by kernel_rfl
 i75:=by kernel_rfl
 i76:=by kernel_rfl
 i80:=by kernel_rfl
 i85:=by kernel_rfl
 i127:=by kernel_rfl
 i143:=by kernel_rfl
 i145:=by kernel_rfl
 i167:=by kernel_rfl
 i168:=by kernel_rfl
 i171:=by kernel_rfl
 i173:=by kernel_rfl
 i175:=by kernel_rfl
 i210:=by kernel_rfl
 i212:=by kernel_rfl
 i232:=by kernel_rfl
 i233:=by kernel_rfl
 m15:=by kernel_rfl
 m16:=by kernel_rfl
 m17:=by kernel_rfl
 m18:=by kernel_rfl
 m19:=by kernel_rfl
 c0:=by kernel_rfl
 c2:=by kernel_rfl
 c3:=by kernel_rfl
 c4:=by kernel_rfl
 c5:=by kernel_rfl
 c9:=by kernel_rfl
 c20:=by kernel_rfl
 c21:=by kernel_rfl
 c37:=by kernel_rfl
 c46:=by kernel_rfl
 c51:=by kernel_rfl
 c53:=by kernel_rfl
 c75:=by kernel_rfl
 c76:=by kernel_rfl
 c80:=by kernel_rfl
 c85:=by kernel_rfl
 c127:=by kernel_rfl
 c143:=by kernel_rfl
 c145:=by kernel_rfl
 c167:=by kernel_rfl
 c168:=by kernel_rfl
 c171:=by kernel_rfl
 c173:=by kernel_rfl
 c175:=by kernel_rfl
 c210:=by kernel_rfl
 c212:=by kernel_rfl
 c213:=by kernel_rfl
 c232:=by kernel_rfl
 c233:=by kernel_rfl }
open Go.RowKit in
theorem Tryz.strconv_Atoi_ok (s:ByteArray) (hmax:s.size≤9223372036854775806) (v:Int) (h:Lib.atoiAll s.data.toList=.ok v) (w:World) :
 Calls Tryz.prog 229 #[.string s] w fun e w'=>e=.returned (.tuple #[.int .i64 v,.nilIface])∧(w'=w∨∃ t,w'=Lib.bytesWorld w 5 t):=Any.strconv_Atoi_ok Tryz.laysC172 s hmax v h w
open Go.RowKit in
theorem Tryz.strconv_Atoi_syntax (s:ByteArray) (hlim:s.size≤281474976710656) (h:Lib.atoiAll s.data.toList=.«syntax») (ev:Value) (w:World) (hv:w.cell? ⟨1,0,none⟩=some ev) (hev:ev=.nilIface∨∃ te pe,ev=.iface te pe) :
 Calls Tryz.prog 229 #[.string s] w fun e w'=>∃ N,e=.returned (.tuple #[.int .i64 (0),.iface 314 (.pointer (some ⟨N,0,none⟩))])∧w.heap.size≤N∧w'.heap[N]?=some (.cells #[.string ⟨#[65,116,111,105]⟩,.string s,ev] 326 (0,0))∧Below w.heap.size w w':=Any.strconv_Atoi_syntax Tryz.laysC172 s hlim h ev w hv hev
open Go.RowKit in
theorem Tryz.strconv_Atoi_range (s:ByteArray) (hlim:s.size≤281474976710656) (h:Lib.atoiAll s.data.toList=.range) (ev:Value) (w:World) (hv:w.cell? ⟨2,0,none⟩=some ev) (hev:ev=.nilIface∨∃ te pe,ev=.iface te pe) :
 Calls Tryz.prog 229 #[.string s] w fun e w'=>∃ N,e=.returned (.tuple #[.int .i64 (Lib.atoiSat s.data.toList),.iface 314 (.pointer (some ⟨N,0,none⟩))])∧w.heap.size≤N∧w'.heap[N]?=some (.cells #[.string ⟨#[65,116,111,105]⟩,.string s,ev] 326 (0,0))∧Below w.heap.size w w':=Any.strconv_Atoi_range Tryz.laysC172 s hlim h ev w hv hev
end Go.Proofs
namespace Go.Proofs.YtffdoiokmiklgaaGreatDoor
open Go.RowKit
theorem ix_lt (c:UInt8):∀ {l:List UInt8} {i:Nat},Lib.indexByte l c=(i:Int)→i < l.length
 | [],i,h=>by unfold Lib.indexByte at h;omega
 | x :: r,i,h=>by
   unfold Lib.indexByte at h
   split at h
   ·simp;omega
   ·split at h
    ·omega
    ·rename_i h2
     have hg:=Lib.indexByte_ge r c
     obtain ⟨j,rfl⟩:∃ j,i=j+1:=⟨i - 1,by have:Lib.indexByte r c ≠ -1:=by simpa using h2
                                         omega⟩
     have:=ix_lt c (l:=r) (i:=j) (by omega)
     simp;omega
theorem bstr_list (l:List UInt8):(bstr l).data.toList=l:=by simp [bstr]
theorem bstr_mk (s:ByteArray):bstr s.data.toList=s:=rfl
theorem bstr_to (l:List UInt8) (i:Nat):(bstr l).extract 0 i=bstr (l.take i):=by
 rw [← bstr_mk ((bstr l).extract 0 i),Lib.extract_from_zero,bstr_list]
theorem bstr_from (l:List UInt8) (i:Nat):(bstr l).extract i (bstr l).size=bstr (l.drop i):=by
 rw [← bstr_mk ((bstr l).extract i (bstr l).size),Lib.extract_to_end,bstr_list]
theorem below_drewN {B:Nat} {w w1:World} (h:Below B w w1) (m:Nat):Below B w (w1.drewN m):=⟨h.os,h.tape,h.output,h.size,h.block⟩
set_option maxHeartbeats 800000 in
theorem pscut_none (s:ByteArray) (w:World) (h:Lib.indexByte s.data.toList 59 = -1) :
 Calls Tryz.prog 263 #[.string s,.string ⟨#[59]⟩] w fun e w'=>e=.returned (.tuple #[.string s,.string ⟨#[]⟩,.bool false])∧w'=w:=by
 go_enter Tryz.func263,Tryz.ntmps263
 go_wp2_with (go_at_call 298;refine (Tryz.stringslite_Index_one s 59 _).mono ?_;rintro e w' ⟨rfl,rfl⟩;rw [h])
 go_ret3
 exact ⟨rfl,rfl⟩
set_option maxHeartbeats 1600000 in
theorem pscut_some (s:ByteArray) (i:Nat) (w:World) (h:Lib.indexByte s.data.toList 59=(i:Int)) (hs:s.size≤140737488355328) :
 Calls Tryz.prog 263 #[.string s,.string ⟨#[59]⟩] w fun e w'=>e=.returned (.tuple #[.string (s.extract 0 i),.string (s.extract (i+1) s.size),.bool true])∧∃ n,w'=w.drewN n:=by
 have hi:i < s.size:=by have:=ix_lt 59 h;simpa using this
 have h0:((i:Int)).toNat=i:=by omega
 have h1:IntKind.i64.wrap ((i:Int)+1)=((i+1:Nat):Int):=by rw [IntKind.wrap_i64];omega
 have h2:(((i+1:Nat):Int)).toNat=i+1:=by omega
 have h3:((s.size:Int)).toNat=s.size:=by omega
 go_enter Tryz.func263,Tryz.ntmps263
 go_wp2_with (go_at_call 298;refine (Tryz.stringslite_Index_one s 59 _).mono ?_;rintro e w' ⟨rfl,rfl⟩;rw [h])
 go_quiet (fail)
 go_wp2_with fail
 go_ret3
 exact ⟨rfl,⟨_,rfl⟩⟩
set_option maxHeartbeats 800000 in
theorem pcut_none (l:List UInt8) (w:World) (h:Lib.indexByte l 59 = -1) :
 Calls Tryz.prog 228 #[.string (bstr l),.string ⟨#[59]⟩] w fun e w'=>e=.returned (.tuple #[.string (bstr l),.string ⟨#[]⟩,.bool false])∧Below w.heap.size w w':=by
 have h':Lib.indexByte (bstr l).data.toList 59 = -1:=by rw [bstr_list];exact h
 generalize bstr l=s at *
 go_enter Tryz.func228,Tryz.ntmps228
 go_wp2_with (go_at_call 263;refine (pscut_none s _ h').mono ?_;rintro e w' ⟨rfl,rfl⟩)
 go_ret3
 exact ⟨rfl,Below.refl _ _⟩
set_option maxHeartbeats 800000 in
theorem pcut_some (l:List UInt8) (i:Nat) (w:World) (h:Lib.indexByte l 59=(i:Int)) (hs:l.length≤140737488355328) :
 Calls Tryz.prog 228 #[.string (bstr l),.string ⟨#[59]⟩] w fun e w'=>e=.returned (.tuple #[.string (bstr (l.take i)),.string (bstr (l.drop (i+1))),.bool true])∧Below w.heap.size w w':=by
 have h':Lib.indexByte (bstr l).data.toList 59=i:=by rw [bstr_list];exact h
 have hs':(bstr l).size≤140737488355328:=by rw [bstr_size];exact hs
 rw [← bstr_to,← bstr_from]
 generalize bstr l=s at *
 go_enter Tryz.func228,Tryz.ntmps228
 go_wp2_with (go_at_call 263;refine (pscut_some s i _ h' hs').mono ?_;rintro e w' ⟨rfl,n,rfl⟩)
 go_ret3
 exact ⟨rfl,below_drewN (Below.refl _ _) _⟩
def Er (w:World):Prop:=∃ a b p q,w.cell? ⟨1,0,none⟩=some (.iface a p)∧w.cell? ⟨2,0,none⟩=some (.iface b q)
theorem Er.below {B:Nat} {w w':World} (h:Er w) (hb:Below B w w') (h1:1 < B) (h2:2 < B):Er w':=by
 obtain ⟨a,b,p,q,e1,e2⟩:=h
 exact ⟨a,b,p,q,(hb.cell (p:=⟨1,0,none⟩) h1).trans e1,(hb.cell (p:=⟨2,0,none⟩) h2).trans e2⟩
theorem atoi_ok (l:List UInt8) (v:Int) (w:World) (hs:l.length≤140737488355328) (h:Lib.atoiAll l=.ok v) :
 Calls Tryz.prog 229 #[.string (bstr l)] w fun e w'=>e=.returned (.tuple #[.int .i64 v,.nilIface])∧Below w.heap.size w w':=by
 refine (Tryz.strconv_Atoi_ok (bstr l) (by rw [bstr_size];omega) v (by rw [bstr_list];exact h) w).mono ?_
 rintro e w' ⟨rfl,rfl | ⟨t,rfl⟩⟩
 ·exact ⟨rfl,Below.refl _ _⟩
 ·exact ⟨rfl,Lib.bytesWorld_below _ _ _⟩
theorem atoi_no (l:List UInt8) (w:World) (hs:l.length≤140737488355328) (h:∀ v,Lib.atoiAll l ≠ .ok v) (hE:Er w) :
 Calls Tryz.prog 229 #[.string (bstr l)] w fun e w'=>∃ v T N,e=.returned (.tuple #[.int .i64 v,.iface T (.pointer (some ⟨N,0,none⟩))])∧Below w.heap.size w w':=by
 obtain ⟨a,b,p,q,e1,e2⟩:=hE
 cases hk:Lib.atoiAll l with
 | ok v=>exact absurd hk (h v)
 | «syntax» =>
   refine (Tryz.strconv_Atoi_syntax (bstr l) (by rw [bstr_size];omega) (by rw [bstr_list];exact hk) _ w e1 (.inr ⟨_,_,rfl⟩)).mono ?_
   rintro e w' ⟨N,rfl,_,_,hb⟩
   exact ⟨_,_,N,rfl,hb⟩
 | range=>
   refine (Tryz.strconv_Atoi_range (bstr l) (by rw [bstr_size];omega) (by rw [bstr_list];exact hk) _ w e2 (.inr ⟨_,_,rfl⟩)).mono ?_
   rintro e w' ⟨N,rfl,_,_,hb⟩
   exact ⟨_,_,N,rfl,hb⟩
def rdN (l:List UInt8):Option (Int × List UInt8):=
 if Lib.indexByte l 59 = -1 then none
 else match Lib.atoiAll (l.take (Lib.indexByte l 59).toNat) with
  | .ok n=>if Lib.itoa n=l.take (Lib.indexByte l 59).toNat then some (n,l.drop ((Lib.indexByte l 59).toNat+1)) else none
  | _=>none
structure IsP (g:Nat) (l:List UInt8) (w:World):Prop where
 c0:w.cell? ⟨g,0,none⟩=some (.string (bstr l))
 hz:w.frozen? ⟨g,0,none⟩=false
 hg:g < w.heap.size
structure Rp (g:Nat) (w w':World):Prop where
 os:w'.os=w.os
 tape:w'.tape=w.tape
 output:w'.output=w.output
 size:w.heap.size≤w'.heap.size
 block:∀ k:Nat,k < w.heap.size→k≠g→w'.heap[k]?=w.heap[k]?
theorem Rp.refl (g:Nat) (w:World):Rp g w w:=⟨rfl,rfl,rfl,Nat.le_refl _,fun _ _ _=>rfl⟩
theorem Rp.trans {g:Nat} {w w1 w2:World} (h:Rp g w w1) (h2:Rp g w1 w2):Rp g w w2:=
 ⟨h2.os.trans h.os,h2.tape.trans h.tape,h2.output.trans h.output,Nat.le_trans h.size h2.size,fun k hk hg=>(h2.block k (Nat.lt_of_lt_of_le hk h.size) hg).trans (h.block k hk hg)⟩
theorem Rp.below {g B:Nat} {w w':World} (h:Rp g w w') (hb:B≤g) (hB:B≤w.heap.size):Below B w w':=
 ⟨h.os,h.tape,h.output,h.size,fun k hk=>h.block k (by omega) (by omega)⟩
theorem Rp.of_below {g B:Nat} {w w':World} (h:Below B w w') (hb:w.heap.size≤B):Rp g w w':=
 ⟨h.os,h.tape,h.output,h.size,fun k hk _=>h.block k (by omega)⟩
theorem Rp.set (g:Nat) (w:World) (v:Value):Rp g w (w.setCell ⟨g,0,none⟩ v):=
 ⟨rfl,rfl,rfl,by simp,fun k _ hg=>Below.heap_setCell w _ _ k hg⟩
theorem IsP.below {g:Nat} {l:List UInt8} {w w':World} (h:IsP g l w) (hx:Below w.heap.size w w'):IsP g l w' where
 c0:=(hx.cell (p:=⟨g,0,none⟩) h.hg).trans h.c0
 hz:=by have:=h.hz;simp only [World.frozen?,hx.block g h.hg] at this ⊢;exact this
 hg:=Nat.lt_of_lt_of_le h.hg hx.size
def outP (e:Int):Ending:=.panicked [{ v:=.iface 196 (.agg #[.int .i64 e]),recovered:=false }]
set_option maxHeartbeats 800000 in
set_option maxRecDepth 100000 in
theorem number_ok (g B:Nat) (l r:List UInt8) (n:Int) (w:World) (h:IsP g l w) (hs:l.length≤140737488355328) (hl:rdN l=some (n,r)) (hT:Tab B w) (hB:B≤w.heap.size) :
 Calls Tryz.prog 168 #[.pointer (some ⟨g,0,none⟩)] w fun e w'=>e=.returned (.int .i64 n)∧IsP g r w'∧Rp g w w':=by
 unfold rdN at hl
 split at hl
 ·simp at hl
 rename_i hne
 obtain ⟨i,hi⟩:∃ i:Nat,Lib.indexByte l 59=(i:Int):=⟨(Lib.indexByte l 59).toNat,by have:=Lib.indexByte_ge l 59;omega⟩
 have hlt:=ix_lt 59 hi
 rw [hi] at hl
 simp only [Int.toNat_natCast] at hl
 split at hl
 case h_2=>simp at hl
 rename_i m hm
 split at hl
 case isFalse=>simp at hl
 rename_i hd
 simp only [Option.some.injEq,Prod.mk.injEq] at hl
 obtain ⟨rfl,rfl⟩:=hl
 have hb63:In63 m:=Lib.atoiAll_bounds hm
 have HC:Hid (Calls Tryz.prog 228 #[.string (bstr l),.string ⟨#[59]⟩] w fun e w'=>e=.returned (.tuple #[.string (bstr (l.take i)),.string (bstr (l.drop (i+1))),.bool true])∧Below w.heap.size w w'):=pcut_some l i w hi hs
 have HA:Hid (∀ W,Calls Tryz.prog 229 #[.string (bstr (l.take i))] W fun e w'=>e=.returned (.tuple #[.int .i64 m,.nilIface])∧Below W.heap.size W w'):=fun W=>atoi_ok _ m W (by rw [List.length_take];omega) hm
 have HI:Hid (∀ W,Below w.heap.size w W→Calls Tryz.prog 230 #[.int .i64 m] W fun e w'=>e=.returned (.string (bstr (l.take i)))∧Below W.heap.size W w'):=fun W hW=>by
  have:=itoa_any m B W hb63 (hT.below (hW.mono hB))
  rw [show itoaB m=bstr (l.take i) by rw [← hd];rfl] at this
  exact this
 have HP:Hid (IsP g l w):=h
 have hc:=h.c0
 clear h hT hd hm hi hne hlt hs
 generalize bstr (l.take i)=D at *
 have HR:Hid (∃ R,R=bstr (l.drop (i+1))):=⟨_,rfl⟩
 go_enter Tryz.func168,Tryz.ntmps168
 go_wp2_with fail
 refine HC.out.mono ?_
 rintro e w1 ⟨rfl,hb1⟩
 have HB1:Hid (Below w.heap.size w w1):=hb1
 clear hb1
 go_wp2_with fail
 refine (HA.out w1).mono ?_
 rintro e w2 ⟨rfl,hb2⟩
 have HB2:Hid (Below w.heap.size w w2):=HB1.out.trans (hb2.mono HB1.out.size)
 clear hb2
 go_wp2_with fail
 refine (HI.out w2 HB2.out).mono ?_
 rintro e w3 ⟨rfl,hb3⟩
 have HB3:Hid (Below w.heap.size w w3):=HB2.out.trans (hb3.mono HB2.out.size)
 clear hb3
 have hP3:=HP.out.below HB3.out
 obtain ⟨c3,z3,g3⟩:=hP3
 clear hc
 go_wp2_with (go_at_call 123;refine (need_ok _ _).mono ?_;rintro e w' ⟨rfl,rfl⟩)
 go_ret
 refine ⟨rfl,⟨World.cell?_setCell_same _ _ _ c3,by simpa using z3,by simpa using g3⟩,(Rp.of_below HB3.out (Nat.le_refl _)).trans (Rp.set g _ _)⟩
set_option maxHeartbeats 800000 in
set_option maxRecDepth 100000 in
theorem number_no1 (g:Nat) (l:List UInt8) (w:World) (h:IsP g l w) (hs:l.length≤140737488355328) (hl:Lib.indexByte l 59 = -1) (hE:Er w) (h1:1 < w.heap.size) (h2:2 < w.heap.size) :
 Calls Tryz.prog 168 #[.pointer (some ⟨g,0,none⟩)] w fun e w'=>e=outP 1∧Below w.heap.size w w':=by
 have HC:Hid (Calls Tryz.prog 228 #[.string (bstr l),.string ⟨#[59]⟩] w fun e w'=>e=.returned (.tuple #[.string (bstr l),.string ⟨#[]⟩,.bool false])∧Below w.heap.size w w'):=pcut_none l w hl
 have HA:Hid (∀ W,Below w.heap.size w W→Calls Tryz.prog 229 #[.string (bstr l)] W fun e w'=>∃ v x,e=.returned (.tuple #[.int .i64 v,x])∧Below W.heap.size W w'):=fun W hW=>by
  by_cases hk:∃ v,Lib.atoiAll l=.ok v
  ·obtain ⟨v,hv⟩:=hk
   refine (atoi_ok l v W hs hv).mono ?_
   rintro e w' ⟨rfl,hb⟩
   exact ⟨_,_,rfl,hb⟩
  ·refine (atoi_no l W hs (fun v hv=>hk ⟨v,hv⟩) (hE.below hW h1 h2)).mono ?_
   rintro e w' ⟨v,T,N,rfl,hb⟩
   exact ⟨_,_,rfl,hb⟩
 have hc:=h.c0
 clear h hE hl hs h1 h2
 go_enter Tryz.func168,Tryz.ntmps168
 go_wp2_with fail
 refine HC.out.mono ?_
 rintro e w1 ⟨rfl,hb1⟩
 have HB1:Hid (Below w.heap.size w w1):=hb1
 clear hb1 hc
 go_wp2_with fail
 refine (HA.out w1 HB1.out).mono ?_
 rintro e w2 ⟨v,x,rfl,hb2⟩
 have HB2:Hid (Below w.heap.size w w2):=HB1.out.trans (hb2.mono HB1.out.size)
 clear hb2
 go_wp2_with fail
 refine (need_no _ _).mono ?_
 rintro e w5 ⟨rfl,rfl⟩
 exact ⟨rfl,rfl,HB2.out⟩
set_option maxHeartbeats 800000 in
set_option maxRecDepth 100000 in
theorem number_no2 (g i:Nat) (l:List UInt8) (w:World) (h:IsP g l w) (hs:l.length≤140737488355328) (hi:Lib.indexByte l 59=(i:Int)) (hl:∀ v,Lib.atoiAll (l.take i) ≠ .ok v) (hE:Er w) (h1:1 < w.heap.size) (h2:2 < w.heap.size) :
 Calls Tryz.prog 168 #[.pointer (some ⟨g,0,none⟩)] w fun e w'=>e=outP 1∧Below w.heap.size w w':=by
 have HC:Hid (Calls Tryz.prog 228 #[.string (bstr l),.string ⟨#[59]⟩] w fun e w'=>e=.returned (.tuple #[.string (bstr (l.take i)),.string (bstr (l.drop (i+1))),.bool true])∧Below w.heap.size w w'):=pcut_some l i w hi hs
 have HA:Hid (∀ W,Below w.heap.size w W→Calls Tryz.prog 229 #[.string (bstr (l.take i))] W fun e w'=>∃ v T N,e=.returned (.tuple #[.int .i64 v,.iface T (.pointer (some ⟨N,0,none⟩))])∧Below W.heap.size W w'):=fun W hW=>
  atoi_no _ W (by rw [List.length_take];omega) hl (hE.below hW h1 h2)
 have hc:=h.c0
 clear h hE hl hs h1 h2 hi
 generalize bstr (l.take i)=D at *
 go_enter Tryz.func168,Tryz.ntmps168
 go_wp2_with fail
 refine HC.out.mono ?_
 rintro e w1 ⟨rfl,hb1⟩
 have HB1:Hid (Below w.heap.size w w1):=hb1
 clear hb1 hc
 go_wp2_with fail
 refine (HA.out w1 HB1.out).mono ?_
 rintro e w2 ⟨v,T,N,rfl,hb2⟩
 have HB2:Hid (Below w.heap.size w w2):=HB1.out.trans (hb2.mono HB1.out.size)
 clear hb2
 go_wp2_with fail
 refine (need_no _ _).mono ?_
 rintro e w5 ⟨rfl,rfl⟩
 exact ⟨rfl,rfl,HB2.out⟩
set_option maxHeartbeats 800000 in
set_option maxRecDepth 100000 in
theorem number_no3 (g i B:Nat) (m:Int) (l:List UInt8) (w:World) (h:IsP g l w) (hs:l.length≤140737488355328) (hi:Lib.indexByte l 59=(i:Int)) (hm:Lib.atoiAll (l.take i)=.ok m) (hd:Lib.itoa m≠l.take i) (hT:Tab B w) (hB:B≤w.heap.size) :
 Calls Tryz.prog 168 #[.pointer (some ⟨g,0,none⟩)] w fun e w'=>e=outP 1∧Below w.heap.size w w':=by
 have HC:Hid (Calls Tryz.prog 228 #[.string (bstr l),.string ⟨#[59]⟩] w fun e w'=>e=.returned (.tuple #[.string (bstr (l.take i)),.string (bstr (l.drop (i+1))),.bool true])∧Below w.heap.size w w'):=pcut_some l i w hi hs
 have HA:Hid (∀ W,Calls Tryz.prog 229 #[.string (bstr (l.take i))] W fun e w'=>e=.returned (.tuple #[.int .i64 m,.nilIface])∧Below W.heap.size W w'):=fun W=>atoi_ok _ m W (by rw [List.length_take];omega) hm
 have HI:Hid (∀ W,Below w.heap.size w W→Calls Tryz.prog 230 #[.int .i64 m] W fun e w'=>e=.returned (.string (itoaB m))∧Below W.heap.size W w'):=fun W hW=>itoa_any m B W (Lib.atoiAll_bounds hm) (hT.below (hW.mono hB))
 have hne2:((itoaB m).toList == (bstr (l.take i)).toList)=false:=by
  rw [ByteArray.toList_eq,ByteArray.toList_eq,bstr_list]
  have e1:(itoaB m).data.toList=Lib.itoa m:=bstr_list _
  rw [e1]
  simpa using hd
 have hc:=h.c0
 clear h hd hs hi hm hT hB
 generalize bstr (l.take i)=D at *
 generalize itoaB m=E at *
 go_enter Tryz.func168,Tryz.ntmps168
 go_wp2_with fail
 refine HC.out.mono ?_
 rintro e w1 ⟨rfl,hb1⟩
 have HB1:Hid (Below w.heap.size w w1):=hb1
 clear hb1 hc
 go_wp2_with fail
 refine (HA.out w1).mono ?_
 rintro e w2 ⟨rfl,hb2⟩
 have HB2:Hid (Below w.heap.size w w2):=HB1.out.trans (hb2.mono HB1.out.size)
 clear hb2
 go_wp2_with fail
 refine (HI.out w2 HB2.out).mono ?_
 rintro e w3 ⟨rfl,hb3⟩
 have HB3:Hid (Below w.heap.size w w3):=HB2.out.trans (hb3.mono HB2.out.size)
 clear hb3
 go_wp2_with fail
 refine (need_no _ _).mono ?_
 rintro e w5 ⟨rfl,rfl⟩
 exact ⟨rfl,rfl,HB3.out⟩
theorem number_no (g B:Nat) (l:List UInt8) (w:World) (h:IsP g l w) (hs:l.length≤140737488355328) (hl:rdN l=none) (hT:Tab B w) (hB:B≤w.heap.size) (hE:Er w) (h1:1 < w.heap.size) (h2:2 < w.heap.size) :
 Calls Tryz.prog 168 #[.pointer (some ⟨g,0,none⟩)] w fun e w'=>e=outP 1∧Below w.heap.size w w':=by
 unfold rdN at hl
 split at hl
 ·rename_i hn
  exact number_no1 g l w h hs hn hE h1 h2
 rename_i hne
 obtain ⟨i,hi⟩:∃ i:Nat,Lib.indexByte l 59=(i:Int):=⟨(Lib.indexByte l 59).toNat,by have:=Lib.indexByte_ge l 59;omega⟩
 rw [hi] at hl
 simp only [Int.toNat_natCast] at hl
 split at hl
 ·rename_i m hm
  split at hl
  ·simp at hl
  ·rename_i hd
   exact number_no3 g i B m l w h hs hi hm hd hT hB
 ·rename_i hk
  exact number_no2 g i l w h hs hi hk hE h1 h2
structure Rv (B:Nat) (w:World):Prop where
 tab:Tab B w
 er:Er w
 b1:1 < B
 b2:2 < B
 le:B≤w.heap.size
theorem Rv.below {B:Nat} {w w':World} (h:Rv B w) (hb:Below B w w'):Rv B w':=⟨h.tab.below hb,h.er.below hb h.b1 h.b2,h.b1,h.b2,Nat.le_trans h.le hb.size⟩
theorem Rv.rp {B g:Nat} {w w':World} (h:Rv B w) (hg:B≤g) (hr:Rp g w w'):Rv B w':=h.below (hr.below hg h.le)
theorem num_ok {B g:Nat} {l r:List UInt8} {n:Int} {w:World} (hV:Rv B w) (h:IsP g l w) (hs:l.length≤140737488355328) (hl:rdN l=some (n,r)) :
 Calls Tryz.prog 168 #[.pointer (some ⟨g,0,none⟩)] w fun e w'=>e=.returned (.int .i64 n)∧IsP g r w'∧Rp g w w':=number_ok g B l r n w h hs hl hV.tab hV.le
theorem num_no {B g:Nat} {l:List UInt8} {w:World} (hV:Rv B w) (h:IsP g l w) (hs:l.length≤140737488355328) (hl:rdN l=none) :
 Calls Tryz.prog 168 #[.pointer (some ⟨g,0,none⟩)] w fun e w'=>e=outP 1∧Rp g w w':=by
 refine (number_no g B l w h hs hl hV.tab hV.le hV.er (Nat.lt_of_lt_of_le hV.b1 hV.le) (Nat.lt_of_lt_of_le hV.b2 hV.le)).mono ?_
 rintro e w' ⟨rfl,hb⟩
 exact ⟨rfl,Rp.of_below hb (Nat.le_refl _)⟩
theorem rdN_in {l r:List UInt8} {n:Int} (h:rdN l=some (n,r)):In63 n∧r.length < l.length:=by
 unfold rdN at h
 split at h
 ·simp at h
 rename_i hne
 obtain ⟨i,hi⟩:∃ i:Nat,Lib.indexByte l 59=(i:Int):=⟨(Lib.indexByte l 59).toNat,by have:=Lib.indexByte_ge l 59;omega⟩
 have hlt:=ix_lt 59 hi
 rw [hi] at h
 simp only [Int.toNat_natCast] at h
 split at h
 case h_2=>simp at h
 rename_i m hm
 split at h
 case isFalse=>simp at h
 simp only [Option.some.injEq,Prod.mk.injEq] at h
 obtain ⟨rfl,rfl⟩:=h
 exact ⟨Lib.atoiAll_bounds hm,by rw [List.length_drop];omega⟩
def rdF (l:List UInt8):Option (Bool × List UInt8):=
 match rdN l with
 | some (n,r)=>if n=0 then some (false,r) else if n=1 then some (true,r) else none
 | none=>none
set_option maxHeartbeats 800000 in
set_option maxRecDepth 100000 in
theorem flag_ok {B g:Nat} {l r:List UInt8} {y:Bool} {w:World} (hV:Rv B w) (h:IsP g l w) (hs:l.length≤140737488355328) (hl:rdF l=some (y,r)) :
 Calls Tryz.prog 165 #[.pointer (some ⟨g,0,none⟩)] w fun e w'=>e=.returned (.bool y)∧IsP g r w'∧Rp g w w':=by
 unfold rdF at hl
 split at hl
 case h_2=>simp at hl
 rename_i n r' hn
 have HN:Hid (Calls Tryz.prog 168 #[.pointer (some ⟨g,0,none⟩)] w fun e w'=>e=.returned (.int .i64 n)∧IsP g r' w'∧Rp g w w'):=num_ok hV h hs hn
 clear hn h hV hs
 split at hl
 ·rename_i h0
  subst h0
  simp only [Option.some.injEq,Prod.mk.injEq] at hl
  obtain ⟨rfl,rfl⟩:=hl
  go_enter Tryz.func165,Tryz.ntmps165
  go_wp2_with fail
  refine HN.out.mono ?_
  rintro e w1 ⟨rfl,hp,hr⟩
  have HP:Hid (IsP g r' w1∧Rp g w w1):=⟨hp,hr⟩
  clear hp hr
  go_wp2_with (go_at_call 123;refine (need_ok _ _).mono ?_;rintro e w' ⟨rfl,rfl⟩)
  go_ret
  exact ⟨rfl,HP.out⟩
 ·split at hl
  case isFalse=>simp at hl
  rename_i h0 h1
  subst h1
  simp only [Option.some.injEq,Prod.mk.injEq] at hl
  obtain ⟨rfl,rfl⟩:=hl
  go_enter Tryz.func165,Tryz.ntmps165
  go_wp2_with fail
  refine HN.out.mono ?_
  rintro e w1 ⟨rfl,hp,hr⟩
  have HP:Hid (IsP g r' w1∧Rp g w w1):=⟨hp,hr⟩
  clear hp hr
  go_wp2_with (go_at_call 123;refine (need_ok _ _).mono ?_;rintro e w' ⟨rfl,rfl⟩)
  go_ret
  exact ⟨rfl,HP.out⟩
set_option maxHeartbeats 800000 in
set_option maxRecDepth 100000 in
theorem flag_no {B g:Nat} {l:List UInt8} {w:World} (hV:Rv B w) (h:IsP g l w) (hs:l.length≤140737488355328) (hl:rdF l=none) :
 Calls Tryz.prog 165 #[.pointer (some ⟨g,0,none⟩)] w fun e w'=>e=outP 1∧Rp g w w':=by
 unfold rdF at hl
 split at hl
 ·rename_i n r' hn
  have HN:Hid (Calls Tryz.prog 168 #[.pointer (some ⟨g,0,none⟩)] w fun e w'=>e=.returned (.int .i64 n)∧IsP g r' w'∧Rp g w w'):=num_ok hV h hs hn
  clear hn h hV hs
  split at hl
  ·simp at hl
  rename_i h0
  split at hl
  ·simp at hl
  rename_i h1
  clear hl
  have e0:(n == 0)=false:=by simpa using h0
  have e1:(n == 1)=false:=by simpa using h1
  have d0:decide (n=0)=false:=by simpa using h0
  have d1:decide (n=1)=false:=by simpa using h1
  go_enter Tryz.func165,Tryz.ntmps165
  go_wp2_with fail
  refine HN.out.mono ?_
  rintro e w1 ⟨rfl,hp,hr⟩
  have HP:Hid (Rp g w w1):=hr
  clear hp hr
  go_wp2_with fail
  refine (need_no _ _).mono ?_
  rintro e w5 ⟨rfl,rfl⟩
  exact ⟨rfl,rfl,HP.out⟩
 ·rename_i hn
  have HN:Hid (Calls Tryz.prog 168 #[.pointer (some ⟨g,0,none⟩)] w fun e w'=>e=outP 1∧Rp g w w'):=num_no hV h hs hn
  clear hn h hV hs hl
  go_enter Tryz.func165,Tryz.ntmps165
  go_wp2_with fail
  refine HN.out.mono ?_
  rintro e w1 ⟨rfl,hr⟩
  exact ⟨rfl,rfl,hr⟩
end Go.Proofs.YtffdoiokmiklgaaGreatDoor
namespace Go.Proofs
open Go.Shelf
def Tryz.laysM316_ren:Go.Shelf.Ren:=⟨fun | 316=>262 | n=>n,fun | 9=>9 | 3=>3 | 4=>4 | 37=>157 | 0=>0 | 127=>307 | 5=>5 | n=>n,fun | n=>n⟩
theorem Tryz.laysM316:Go.Proofs.LaysM.n316 Tryz.prog Tryz.laysM316_ren:={
 mixed:=by kernel_rfl
 f316:=Tryz.func262.trans (congrArg some (by kernel_rfl))
 t0:=Tryz.underlying0
 a0:=Tryz.isAgg0
 z0:=Tryz.sizeOf0
 v0:=Tryz.zeroValue0
 t3:=Tryz.underlying3
 a3:=Tryz.isAgg3
 z3:=Tryz.sizeOf3
 v3:=Tryz.zeroValue3
 t4:=Tryz.underlying4
 a4:=Tryz.isAgg4
 z4:=Tryz.sizeOf4
 v4:=Tryz.zeroValue4
 t9:=Tryz.underlying9
 a9:=Tryz.isAgg9
 z9:=Tryz.sizeOf9
 v9:=Tryz.zeroValue9
 t37:=Tryz.underlying157
 a37:=Tryz.isAgg157
 z37:=Tryz.sizeOf157
 v37:=Tryz.zeroValue157
 t127:=Tryz.underlying307
 a127:=Tryz.isAgg307
 z127:=Tryz.sizeOf307
 v127:=Tryz.zeroValue307
 t5:=Tryz.underlying5
 a5:=Tryz.isAgg5
 z5:=Tryz.sizeOf5
 v5:=Tryz.zeroValue5
 i0:=by kernel_rfl
 i3:=by kernel_rfl
 i4:=by kernel_rfl
 i5:=by kernel_rfl
 i9:=by kernel_rfl
 i37:=by kernel_rfl
 i127:=by kernel_rfl }
open Go.RowKit in
theorem Tryz.stringslite_Clone (s:ByteArray) (w:World) (hlim:s.size≤281474976710656) :
 Calls Tryz.prog 262 #[.string s] w fun e w'=>e=.returned (.string s)∧Below w.heap.size w w':=Any.stringslite_Clone Tryz.laysM316 s w hlim
end Go.Proofs
namespace Go.Proofs.YtffdoiokmiklgaaGreatDoor
open Go.RowKit
set_option maxHeartbeats 400000 in
theorem pclone_any (s:ByteArray) (w:World) (hs:s.size≤140737488355328) :
 Calls Tryz.prog 227 #[.string s] w fun e w'=>e=.returned (.string s)∧Below w.heap.size w w':=by
 have HC:Hid (Calls Tryz.prog 262 #[.string s] w fun e w'=>e=.returned (.string s)∧Below w.heap.size w w'):=Tryz.stringslite_Clone s w (by omega)
 go_enter Tryz.func227,Tryz.ntmps227
 go_wp2_with fail
 refine HC.out.mono ?_
 rintro e w1 ⟨rfl,hb⟩
 go_wp2_with fail
 go_ret
 exact ⟨rfl,hb⟩
def rdT (l:List UInt8):Option (ByteArray × List UInt8):=
 match rdN l with
 | some (n,r)=>if 0≤n∧n≤r.length then some (bstr (r.take n.toNat),r.drop n.toNat) else none
 | none=>none
set_option maxHeartbeats 1600000 in
set_option maxRecDepth 100000 in
theorem text_ok {B g:Nat} {l r:List UInt8} {s:ByteArray} {w:World} (hV:Rv B w) (h:IsP g l w) (hs:l.length≤140737488355328) (hl:rdT l=some (s,r)) :
 Calls Tryz.prog 164 #[.pointer (some ⟨g,0,none⟩)] w fun e w'=>e=.returned (.string s)∧IsP g r w'∧Rp g w w':=by
 unfold rdT at hl
 split at hl
 case h_2=>simp at hl
 rename_i n r' hn
 have HN:Hid (Calls Tryz.prog 168 #[.pointer (some ⟨g,0,none⟩)] w fun e w'=>e=.returned (.int .i64 n)∧IsP g r' w'∧Rp g w w'):=num_ok hV h hs hn
 have hrl:=(rdN_in hn).2
 clear hn h hV
 split at hl
 case isFalse=>simp at hl
 rename_i hk
 simp only [Option.some.injEq,Prod.mk.injEq] at hl
 obtain ⟨rfl,rfl⟩:=hl
 obtain ⟨k,rfl⟩:∃ k:Nat,n=(k:Int):=⟨n.toNat,by omega⟩
 have hkr:k≤r'.length:=by omega
 simp only [Int.toNat_natCast]
 obtain ⟨R,hR⟩:∃ R,R=bstr r':=⟨_,rfl⟩
 have hRs:R.size=r'.length:=by rw [hR,bstr_size]
 have HR1:Hid (R.extract 0 k=bstr (r'.take k)):=by show _=_;rw [hR,bstr_to]
 have HR2:Hid (R.extract k R.size=bstr (r'.drop k)):=by show _=_;rw [hR,bstr_from]
 have HCL:Hid (∀ W,Calls Tryz.prog 227 #[.string (R.extract 0 k)] W fun e w'=>e=.returned (.string (R.extract 0 k))∧Below W.heap.size W w'):=fun W=>pclone_any _ W (by rw [HR1.out,bstr_size,List.length_take];omega)
 have hw:within (k:Int) 0 (R.size:Int)=true:=by unfold within;simp;omega
 have hkR:k≤R.size:=by omega
 have h0:((k:Int)).toNat=k:=by omega
 have h3:((R.size:Int)).toNat=R.size:=by omega
 have hkI:(k:Int)≤(R.size:Int):=by omega
 have hRb:R.size≤140737488355328:=by omega
 have HRR:Hid (R=bstr r'):=hR
 clear hkr hrl hk hs hR hRs
 go_enter Tryz.func164,Tryz.ntmps164
 go_wp2_with fail
 refine HN.out.mono ?_
 rintro e w1 ⟨rfl,hp,hr⟩
 have HP:Hid (IsP g r' w1∧Rp g w w1):=⟨hp,hr⟩
 have c1:w1.cell? ⟨g,0,none⟩=some (.string R):=by rw [HRR.out];exact hp.c0
 clear hp hr
 go_wp2_with (first | (go_at_call 76;refine (within_any _ _ _ _).mono ?_;rintro e w' ⟨rfl,rfl⟩;rw [hw]) | (go_at_call 123;refine (need_ok _ _).mono ?_;rintro e w' ⟨rfl,rfl⟩))
 refine (HCL.out _).mono ?_
 rintro e w4 ⟨rfl,hb4⟩
 have hp4:=HP.out.1.below hb4
 have HR4:Hid (Rp g w w4):=HP.out.2.trans (Rp.of_below hb4 (Nat.le_refl _))
 obtain ⟨c4',z4,g4⟩:=hp4
 have c4:w4.cell? ⟨g,0,none⟩=some (.string R):=by rw [HRR.out];exact c4'
 clear hb4 c4' c1
 go_wp2_with fail
 go_ret
 refine ⟨by rw [HR1.out];rfl,⟨?_,by simpa using z4,by simpa using g4⟩,HR4.out.trans (Rp.set g _ _)⟩
 rw [← HR2.out]
 exact World.cell?_setCell_same _ _ _ c4
set_option maxHeartbeats 1600000 in
set_option maxRecDepth 100000 in
theorem text_no {B g:Nat} {l:List UInt8} {w:World} (hV:Rv B w) (h:IsP g l w) (hs:l.length≤140737488355328) (hl:rdT l=none) :
 Calls Tryz.prog 164 #[.pointer (some ⟨g,0,none⟩)] w fun e w'=>e=outP 1∧Rp g w w':=by
 unfold rdT at hl
 split at hl
 ·rename_i n r' hn
  have HN:Hid (Calls Tryz.prog 168 #[.pointer (some ⟨g,0,none⟩)] w fun e w'=>e=.returned (.int .i64 n)∧IsP g r' w'∧Rp g w w'):=num_ok hV h hs hn
  clear hn h hV hs
  split at hl
  ·simp at hl
  rename_i hk
  clear hl
  obtain ⟨R,hR⟩:∃ R,R=bstr r':=⟨_,rfl⟩
  have hRs:R.size=r'.length:=by rw [hR,bstr_size]
  have hw:within n 0 (R.size:Int)=false:=by
   cases hx:within n 0 (R.size:Int) with
   | false=>rfl
   | true=>exact absurd (by unfold within at hx;simp at hx;omega) hk
  have HRR:Hid (R=bstr r'):=hR
  clear hk hR hRs
  go_enter Tryz.func164,Tryz.ntmps164
  go_wp2_with fail
  refine HN.out.mono ?_
  rintro e w1 ⟨rfl,hp,hr⟩
  have HP:Hid (Rp g w w1):=hr
  have c1:w1.cell? ⟨g,0,none⟩=some (.string R):=by rw [HRR.out];exact hp.c0
  clear hp hr
  go_wp2_with (go_at_call 76;refine (within_any _ _ _ _).mono ?_;rintro e w' ⟨rfl,rfl⟩;rw [hw])
  refine (need_no _ _).mono ?_
  rintro e w5 ⟨rfl,rfl⟩
  exact ⟨rfl,rfl,HP.out⟩
 ·rename_i hn
  have HN:Hid (Calls Tryz.prog 168 #[.pointer (some ⟨g,0,none⟩)] w fun e w'=>e=outP 1∧Rp g w w'):=num_no hV h hs hn
  clear hn h hV hs hl
  go_enter Tryz.func164,Tryz.ntmps164
  go_wp2_with fail
  refine HN.out.mono ?_
  rintro e w1 ⟨rfl,hr⟩
  exact ⟨rfl,rfl,hr⟩
theorem Tab.up {B C:Nat} {w:World} (h:Tab B w) (hC:B≤C):Tab C w:=fun w' hw=>h w' (hw.mono hC)
theorem Rv.up {B C:Nat} {w:World} (h:Rv B w) (hC:B≤C) (hl:C≤w.heap.size):Rv C w:=⟨h.tab.up hC,h.er,Nat.lt_of_lt_of_le h.b1 hC,Nat.lt_of_lt_of_le h.b2 hC,hl⟩
theorem Rv.after {w w':World} (h:Rv w.heap.size w) (hb:Below w.heap.size w w'):Rv w'.heap.size w':=(h.below hb).up hb.size (Nat.le_refl _)
theorem var_lt {W:World} {n:String} {g:Nat} {v:Value} (hg:Tryz.prog.globalNamed n=some g) (h:W.var? Tryz.prog n=some #[v]):W.cell? ⟨g,0,none⟩=some v∧g < W.heap.size:=by
 have h0:W.cell? ⟨g,0,none⟩=some v:=by have:=World.var?_cell hg h 0;simpa using this
 exact ⟨h0,World.block_lt_of_cell? W _ h0⟩
theorem Tryz.gPow : Tryz.prog.globalNamed "internal/strconv.uint64pow10" = some 3 := by kernel_rfl
theorem Tryz.gPowT:(Tryz.prog.globals[3]?).map (·.type)=some 342:=by kernel_rfl
theorem Tryz.gES : Tryz.prog.globalNamed "strconv.ErrSyntax" = some 1 := by kernel_rfl
theorem Tryz.gEST:(Tryz.prog.globals[1]?).map (·.type)=some 248:=by kernel_rfl
theorem Tryz.gER : Tryz.prog.globalNamed "strconv.ErrRange" = some 2 := by kernel_rfl
theorem Tryz.gERT:(Tryz.prog.globals[2]?).map (·.type)=some 248:=by kernel_rfl
theorem Tryz.cU64:Tryz.prog.cellsOf 226=1:=by kernel_rfl
theorem Tryz.cPow:Tryz.prog.cellsOf 342=20:=by kernel_rfl
theorem Tryz.cEs:Tryz.prog.cellsOf 340=1:=by kernel_rfl
theorem Tryz.c9:Tryz.prog.cellsOf 9=1:=by kernel_rfl
theorem starEs : "*" ++ "errors.errorString" = "*errors.errorString" := by decide
theorem Tryz.rowEs (u : TypeId) (h : Tryz.prog.typeName? 3 u = some "*errors.errorString") : u = 338 :=
 typeName_ptr_named (nm := "errors.errorString") (by rw [starEs]; kernel_rfl) (by kernel_rfl) (by decide) u (by rw [starEs]; exact h)
theorem laid_pow:(Rows.laid_internal_strconv_uint64pow10:DataW Unit)=Lib.tabData .u64 Lib.pow10Tab:=by kernel_rfl
theorem rv_of {W : World} (h : laidMetH Tryz.prog [("math/bits.deBruijn32tab", Rows.laid_math_bits_deBruijn32tab), ("math/bits.deBruijn64tab", Rows.laid_math_bits_deBruijn64tab), ("internal/strconv.uint64pow10", Rows.laid_internal_strconv_uint64pow10), ("strconv.ErrRange", Rows.laid_strconv_ErrRange), ("strconv.ErrSyntax", Rows.laid_strconv_ErrSyntax)] W) : Rv W.heap.size W := by
 rw [MakeChecks.laidMetH_plain _ _ _ (by kernel_rfl)] at h
 have h2:=h.tail.tail
 rw [laid_pow] at h2
 have hT:=Lib.tabIs_of_head Tryz.gPow Tryz.gPowT Tryz.underlying342 Tryz.underlying226 Tryz.cU64 Tryz.cPow h2
 have h3:=h2.tail
 unfold Rows.laid_strconv_ErrRange at h3
 obtain ⟨a1,s1,hv1,-,-,-⟩:=laid_sentinel h3 Tryz.gER Tryz.gERT Tryz.underlying248 Tryz.rowEs Tryz.underlying338 Tryz.underlying340 rfl rfl Tryz.underlying9 Tryz.cEs Tryz.c9
 have h4:=h3.tail
 unfold Rows.laid_strconv_ErrSyntax at h4
 obtain ⟨a0,s0,hv0,-,-,-⟩:=laid_sentinel h4 Tryz.gES Tryz.gEST Tryz.underlying248 Tryz.rowEs Tryz.underlying338 Tryz.underlying340 rfl rfl Tryz.underlying9 Tryz.cEs Tryz.c9
 obtain ⟨c1,l1⟩:=var_lt Tryz.gER hv1
 obtain ⟨c0,l0⟩:=var_lt Tryz.gES hv0
 exact ⟨Lib.tabBelow_of_tabIs hT,⟨_,_,_,_,c0,c1⟩,l0,l1,Nat.le_refl _⟩
end Go.Proofs.YtffdoiokmiklgaaGreatDoor
