import Derived.Test.YtffdoiokmiklgaaGreatDoortr47
import Derived.Test.YtffdoiokmiklgaaGreatDoortr48
import Derived.Test.YtffdoiokmiklgaaGreatDoortr44
import Derived.Test.YtffdoiokmiklgaaGreatDoortr43
import Derived.Test.YtffdoiokmiklgaaGreatDoortr38
import Derived.Deep.AppendLies
import Derived.Test.YtffdoiokmiklgaaGreatDoortr49
import Derived.Deep.MidRow
import Derived.Test.YtffdoiokmiklgaaGreatDoortr7
import Derived.Deep.CutRange
import Derived.Deep.CutBlock
import Derived.Deep.RegionHeld3
import Derived.Deep.RegionLawGrows
namespace Go.Proofs.YtffdoiokmiklgaaGreatDoor
open Go.RowKit
set_option maxHeartbeats 12800000 in
set_option maxRecDepth 100000 in
theorem tell_at (g nb n j:Nat) (R:Array Value) (v0 v1 v2 v3 v4 v5 v6 v7 v8 v9 v10 v11:Value) (x0 x1:ByteArray) (a2 a3 a4 a5 a11:Option Addr) (n2 k2 n3 k3 n4 k4 n5 k5 n11 k11:Nat) (x6 x7 x8 x9 x10:Int) (w:World) (F:World→List Value→Value→Prop) (Rs:World→Prop) (hj:j < n) (g0:w.cell? ⟨g,0,none⟩=some (.slice (some ⟨nb,0,none⟩) n n)) (g3:w.cell? ⟨g,3,none⟩=some (.int .i64 (j:Int))) (hrow:w.heap[nb]?=some (.cells R 51 (0,0))) (hng:nb≠g) (c0:R[j * 12]?=some v0) (c1:R[j * 12+1]?=some v1) (c2:R[j * 12+2]?=some v2) (c3:R[j * 12+3]?=some v3) (c4:R[j * 12+4]?=some v4) (c5:R[j * 12+5]?=some v5) (c6:R[j * 12+6]?=some v6) (c7:R[j * 12+7]?=some v7) (c8:R[j * 12+8]?=some v8) (c9:R[j * 12+9]?=some v9) (c10:R[j * 12+10]?=some v10) (c11:R[j * 12+11]?=some v11)
 (hWH:Calls Tryz.prog 107 #[.pointer (some ⟨g,0,none⟩)] w fun e w'=>e=.returned (.agg #[.string x0,.string x1,.slice a2 n2 k2,.slice a3 n3 k3,.slice a4 n4 k4,.slice a5 n5 k5,.int .i64 x6,.int .i64 x7,.int .i64 x8,.int .i64 x9,.int .i64 x10,.slice a11 n11 k11])∧Below w.heap.size w w')
 (hTL:∀ W,Below w.heap.size w W→Calls Tryz.prog 34 #[.agg #[.string x0,.string x1,.slice a2 n2 k2,.slice a3 n3 k3,.slice a4 n4 k4,.slice a5 n5 k5,.int .i64 x6,.int .i64 x7,.int .i64 x8,.int .i64 x9,.int .i64 x10,.slice a11 n11 k11]] W fun e w'=>Below W.heap.size W w'∧∃ u0 u1 b2 m2 e2 b3 m3 e3 b4 m4 e4 b5 m5 e5 u6 u7 u8 u9 u10 b11 m11 e11 qa qk qc,e=.returned (.tuple #[.agg #[.string u0,.string u1,.slice b2 m2 e2,.slice b3 m3 e3,.slice b4 m4 e4,.slice b5 m5 e5,.int .i64 u6,.int .i64 u7,.int .i64 u8,.int .i64 u9,.int .i64 u10,.slice b11 m11 e11],.agg #[.string x0,.bool false,.slice qa qk qc,.slice none 0 0,.slice none 0 0,.slice none 0 0],.int .i64 0])∧Hid (F w' [.string u0,.string u1,.slice b2 m2 e2,.slice b3 m3 e3,.slice b4 m4 e4,.slice b5 m5 e5,.int .i64 u6,.int .i64 u7,.int .i64 u8,.int .i64 u9,.int .i64 u10,.slice b11 m11 e11] (.slice qa qk qc)))
 (hF:∀ V V' xs q,F V xs q→Below V.heap.size V V'→F V' xs q)
 (hWR:∀ V u0 u1 b2 m2 e2 b3 m3 e3 b4 m4 e4 b5 m5 e5 u6 u7 u8 u9 u10 b11 m11 e11 qa qk qc,Below w.heap.size w V→F V [.string u0,.string u1,.slice b2 m2 e2,.slice b3 m3 e3,.slice b4 m4 e4,.slice b5 m5 e5,.int .i64 u6,.int .i64 u7,.int .i64 u8,.int .i64 u9,.int .i64 u10,.slice b11 m11 e11] (.slice qa qk qc)→Calls Tryz.prog 150 #[.pointer (some ⟨g,0,none⟩),.agg #[.string x0,.bool false,.slice qa qk qc,.slice none 0 0,.slice none 0 0,.slice none 0 0]] (World.drew (setAll nb [.string u0,.string u1,.slice b2 m2 e2,.slice b3 m3 e3,.slice b4 m4 e4,.slice b5 m5 e5,.int .i64 u6,.int .i64 u7,.int .i64 u8,.int .i64 u9,.int .i64 u10,.slice b11 m11 e11] (j * 12) V)) fun e w'=>e=.returned (.int .i64 0)∧Rs w') :
 Calls Tryz.prog 100 #[.pointer (some ⟨g,0,none⟩)] w fun e w'=>e=.returned (.int .i64 0)∧Rs w':=by
 have hgl:g < w.heap.size:=World.block_lt_of_cell? w _ g0
 have hbl:nb < w.heap.size:=(Array.getElem?_eq_some_iff.1 hrow).1
 have HTL:Hid _:=hTL
 have HF:Hid _:=hF
 have HWR:Hid _:=hWR
 have HX:Hid (∀ V,Below w.heap.size w V→V.cell? ⟨g,0,none⟩=some (.slice (some ⟨nb,0,none⟩) n n)∧V.cell? ⟨g,3,none⟩=some (.int .i64 (j:Int))∧V.heap[nb]?=some (.cells R 51 (0,0))):=fun V hV=>⟨(hV.cell (p:=⟨g,0,none⟩) hgl).trans g0,(hV.cell (p:=⟨g,3,none⟩) hgl).trans g3,(hV.block nb hbl).trans hrow⟩
 have HC:Hid (∀ V:World,V.heap[nb]?=some (.cells R 51 (0,0))→V.cell? ⟨nb,j * 12,none⟩=some v0∧V.cell? ⟨nb,j * 12+1,none⟩=some v1∧V.cell? ⟨nb,j * 12+2,none⟩=some v2∧V.cell? ⟨nb,j * 12+3,none⟩=some v3∧V.cell? ⟨nb,j * 12+4,none⟩=some v4∧V.cell? ⟨nb,j * 12+5,none⟩=some v5∧V.cell? ⟨nb,j * 12+6,none⟩=some v6∧V.cell? ⟨nb,j * 12+7,none⟩=some v7∧V.cell? ⟨nb,j * 12+8,none⟩=some v8∧V.cell? ⟨nb,j * 12+9,none⟩=some v9∧V.cell? ⟨nb,j * 12+10,none⟩=some v10∧V.cell? ⟨nb,j * 12+11,none⟩=some v11):=fun V hV=>⟨(cellsAt hV _).trans c0,(cellsAt hV _).trans c1,(cellsAt hV _).trans c2,(cellsAt hV _).trans c3,(cellsAt hV _).trans c4,(cellsAt hV _).trans c5,(cellsAt hV _).trans c6,(cellsAt hV _).trans c7,(cellsAt hV _).trans c8,(cellsAt hV _).trans c9,(cellsAt hV _).trans c10,(cellsAt hV _).trans c11⟩
 have HZ:Hid (∀ V:World,V.heap[nb]?=some (.cells R 51 (0,0))→V.frozen? ⟨nb,j * 12,none⟩=false∧V.frozen? ⟨nb,j * 12+1,none⟩=false∧V.frozen? ⟨nb,j * 12+2,none⟩=false∧V.frozen? ⟨nb,j * 12+3,none⟩=false∧V.frozen? ⟨nb,j * 12+4,none⟩=false∧V.frozen? ⟨nb,j * 12+5,none⟩=false∧V.frozen? ⟨nb,j * 12+6,none⟩=false∧V.frozen? ⟨nb,j * 12+7,none⟩=false∧V.frozen? ⟨nb,j * 12+8,none⟩=false∧V.frozen? ⟨nb,j * 12+9,none⟩=false∧V.frozen? ⟨nb,j * 12+10,none⟩=false∧V.frozen? ⟨nb,j * 12+11,none⟩=false):=fun V hV=>⟨frozen_of hV _,frozen_of hV _,frozen_of hV _,frozen_of hV _,frozen_of hV _,frozen_of hV _,frozen_of hV _,frozen_of hV _,frozen_of hV _,frozen_of hV _,frozen_of hV _,frozen_of hV _⟩
 have HNB:Hid (nb < w.heap.size):=hbl
 have hjn:(j:Int) < (n:Int):=by omega
 have hj0:(0:Int)≤(j:Int):=by omega
 have hjt:((j:Int)).toNat=j:=by omega
 clear hTL hF hWR hgl hbl g0 g3 hrow hj c0 c1 c2 c3 c4 c5 c6 c7 c8 c9 c10 c11
 go_enter Tryz.func100,Tryz.ntmps100
 go_wp2_with fail
 refine hWH.mono ?_
 rintro e w1 ⟨rfl,hb1⟩
 have HB1:Hid (Below w.heap.size w w1):=hb1
 clear hb1 hWH
 go_wp2_with fail
 refine (HTL.out w1 HB1.out).mono ?_
 rintro e w2 ⟨hb2,u0,u1,b2,m2,e2,b3,m3,e3,b4,m4,e4,b5,m5,e5,u6,u7,u8,u9,u10,b11,m11,e11,qa,qk,qc,rfl,HF2⟩
 have HB2:Hid (Below w.heap.size w w2):=HB1.out.trans (hb2.mono HB1.out.size)
 clear hb2 HTL HB1
 obtain ⟨V,hV⟩:∃ V,V=(w2.alloc (.cells #[.string u0,.string u1,.slice b2 m2 e2,.slice b3 m3 e3,.slice b4 m4 e4,.slice b5 m5 e5,.int .i64 u6,.int .i64 u7,.int .i64 u8,.int .i64 u9,.int .i64 u10,.slice b11 m11 e11] 51)).alloc (.cells #[.string x0,.bool false,.slice qa qk qc,.slice none 0 0,.slice none 0 0,.slice none 0 0] 67):=⟨_,rfl⟩
 have hbV:Below w2.heap.size w2 V:=by rw [hV];exact ((Below.refl _ _).alloc (Nat.le_refl _) _).alloc (by simp) _
 have hmq:V.heap[w2.heap.size]?=some (.cells #[.string u0,.string u1,.slice b2 m2 e2,.slice b3 m3 e3,.slice b4 m4 e4,.slice b5 m5 e5,.int .i64 u6,.int .i64 u7,.int .i64 u8,.int .i64 u9,.int .i64 u10,.slice b11 m11 e11] 51 (0,0)):=by rw [hV];exact (Lib.alloc_old _ _ _ (by simp)).trans (heap_alloc_new w2 _)
 have hpq:V.heap[w2.heap.size+1]?=some (.cells #[.string x0,.bool false,.slice qa qk qc,.slice none 0 0,.slice none 0 0,.slice none 0 0] 67 (0,0)):=by
  rw [hV]
  have:=heap_alloc_new (w2.alloc (.cells #[.string u0,.string u1,.slice b2 m2 e2,.slice b3 m3 e3,.slice b4 m4 e4,.slice b5 m5 e5,.int .i64 u6,.int .i64 u7,.int .i64 u8,.int .i64 u9,.int .i64 u10,.slice b11 m11 e11] 51)) (.cells #[.string x0,.bool false,.slice qa qk qc,.slice none 0 0,.slice none 0 0,.slice none 0 0] 67)
  simpa using this
 have HBV:Hid (Below w.heap.size w V):=HB2.out.trans (hbV.mono HB2.out.size)
 have HFV:=HF.out _ _ _ _ HF2.out hbV
 obtain ⟨a0,a3,hrV⟩:=HX.out V HBV.out
 obtain ⟨d0,d1,d2,d3,d4,d5,d6,d7,d8,d9,d10,d11⟩:=HC.out V hrV
 obtain ⟨z0,z1,z2,z3,z4,z5,z6,z7,z8,z9,z10,z11⟩:=HZ.out V hrV
 obtain ⟨y0,y1,y2,y3,y4,y5,y6,y7,y8,y9,y10,y11⟩:=cells12 hmq
 have nE2:nb≠w2.heap.size:=by have:=HNB.out;have:=HB2.out.size;omega
 have nE3:nb≠w2.heap.size+1:=by have:=HNB.out;have:=HB2.out.size;omega
 obtain ⟨W5,hW5⟩:∃ W5,W5=World.drew (setAll nb [.string u0,.string u1,.slice b2 m2 e2,.slice b3 m3 e3,.slice b4 m4 e4,.slice b5 m5 e5,.int .i64 u6,.int .i64 u7,.int .i64 u8,.int .i64 u9,.int .i64 u10,.slice b11 m11 e11] (j * 12) V):=⟨_,rfl⟩
 have HC5:=HWR.out V _ _ _ _ _ _ _ _ _ _ _ _ _ _ _ _ _ _ _ _ _ _ _ _ _ HBV.out HFV
 rw [← hW5] at HC5
 have hp5:W5.heap[w2.heap.size+1]?=some (.cells #[.string x0,.bool false,.slice qa qk qc,.slice none 0 0,.slice none 0 0,.slice none 0 0] 67 (0,0)):=by rw [hW5,drew_heap,setAll_other (Ne.symm nE3)];exact hpq
 obtain ⟨t0,t1,t2,t3,t4,t5⟩:=cells6 hp5
 simp only [setAll,Nat.add_assoc,Nat.reduceAdd] at hW5
 clear hbV hmq hpq hp5 hrV HFV HF2 HB2 HBV HX HC HZ HWR HF
 go_upto_region 2 with fail
 rw [← hV]
 clear hV
 go_region_held3 (fun w'=>w'.cell? ⟨g,0,none⟩=some (.slice (some ⟨nb,0,none⟩) n n)∧w'.cell? ⟨g,3,none⟩=some (.int .i64 (j:Int))∧w'.cell? ⟨w2.heap.size,0,none⟩=some (.string u0)∧w'.cell? ⟨w2.heap.size,1,none⟩=some (.string u1)∧w'.cell? ⟨w2.heap.size,2,none⟩=some (.slice b2 m2 e2)∧w'.cell? ⟨w2.heap.size,3,none⟩=some (.slice b3 m3 e3)∧w'.cell? ⟨w2.heap.size,4,none⟩=some (.slice b4 m4 e4)∧w'.cell? ⟨w2.heap.size,5,none⟩=some (.slice b5 m5 e5)∧w'.cell? ⟨w2.heap.size,6,none⟩=some (.int .i64 u6)∧w'.cell? ⟨w2.heap.size,7,none⟩=some (.int .i64 u7)∧w'.cell? ⟨w2.heap.size,8,none⟩=some (.int .i64 u8)∧w'.cell? ⟨w2.heap.size,9,none⟩=some (.int .i64 u9)∧w'.cell? ⟨w2.heap.size,10,none⟩=some (.int .i64 u10)∧w'.cell? ⟨w2.heap.size,11,none⟩=some (.slice b11 m11 e11)) (simp only [World.cell?_setCell_far,World.cell?_drew,ne_eq,hng,nE2,not_false_eq_true,a0,a3,y0,y1,y2,y3,y4,y5,y6,y7,y8,y9,y10,y11,and_self]) (fail)
 obtain ⟨W6,hW6⟩:∃ W6,W6=W5:=⟨_,rfl⟩
 have hW7:=hW6.trans hW5
 rw [← hW7]
 rw [hW6]
 clear hW5 hW6 hW7 d0 z0 y0 d1 z1 y1 d2 z2 y2 d3 z3 y3 d4 z4 y4 d5 z5 y5 d6 z6 y6 d7 z7 y7 d8 z8 y8 d9 z9 y9 d10 z10 y10 d11 z11 y11 a0 a3
 go_wp2_with fail
 refine HC5.mono ?_
 rintro e w6 ⟨rfl,hR6⟩
 have HR6:Hid (Rs w6):=hR6
 clear hR6 HC5
 go_wp2_with fail
 go_ret
 exact ⟨rfl,HR6.out⟩
def tellP (nm:ByteArray) (l:List Mem):Pk:=⟨nm,false,l,[],[],[]⟩
def IsTx (C:Nat) (n:Nd) (l:List Mem) (V:World) (xs:List Value) (q:Value):Prop:=(∃ y:Nx,xs=y.cs∧y.n=n∧NdOwn C V y.n y.vm y.vr y.vs y.vg y.vw∧NdOk y.n)∧Own C V q l
set_option maxHeartbeats 6400000 in
set_option maxRecDepth 100000 in
theorem tell_any (C g nb j:Nat) (ul:Value) (ls:List Lt.Ltr) (v:Ev) (L:List Nx) (n':Nd) (l:List Mem) (w:World) (h:Plr C w g (.slice (some ⟨nb,0,none⟩) L.length L.length) ul ls v) (hN:NsOwn C w nb L) (hC:C≤w.heap.size) (h20:ls.length < 20) (hv:v.which=(j:Int)) (hj:j < L.length) (hT:∀ V,Below C w V→Tab V.heap.size V) (hl:∀ m∈l,m.name.size≤maxLen)
 (hTl:∀ W vm vr vs vg vw,NdIs W (L.getD j nx0).n vm vr vs vg vw→Calls Tryz.prog 34 #[.agg (ndA (L.getD j nx0).n vm vr vs vg vw)] W fun e w'=>Below W.heap.size W w'∧∃ um ur us ug uw a k c,e=.returned (.tuple #[.agg (ndA n' um ur us ug uw),.agg #[.string (L.getD j nx0).n.name,.bool false,.slice a k c,.slice none 0 0,.slice none 0 0,.slice none 0 0],.int .i64 0])∧NdOwn W.heap.size w' n' um ur us ug uw∧NdOk n'∧Own W.heap.size w' (.slice a k c) l)
 (hWr:∀ W zm zs zg zw,Tab W.heap.size W→PkIs W (tellP (L.getD j nx0).n.name l) zm zs zg zw→Calls Tryz.prog 221 #[.agg #[.string (tellP (L.getD j nx0).n.name l).frm,.bool (tellP (L.getD j nx0).n.name l).whole,zm,zs,zg,zw]] W fun e w'=>e=.returned (.tuple #[.string (tellP (L.getD j nx0).n.name l).T,.int .i64 (tellP (L.getD j nx0).n.name l).e])∧Below W.heap.size W w') :
 Calls Tryz.prog 100 #[.pointer (some ⟨g,0,none⟩)] w fun e w'=>e=.returned (.int .i64 0)∧Below C w w'∧∃ y a k c,y.n=n'∧NsOwn C w' nb (L.set j y)∧Plr C w' g (.slice (some ⟨nb,0,none⟩) L.length L.length) (.slice a k c) (ls++[⟨v.other,(tellP (L.getD j nx0).n.name l).T⟩]) v:=by
 have hg0:w.cell? ⟨g,0,none⟩=some (.slice (some ⟨nb,0,none⟩) L.length L.length):=cellsAt h.hg 0
 have hg3:w.cell? ⟨g,3,none⟩=some (.int .i64 (j:Int)):=by rw [← hv];exact cellsAt h.hg 3
 have hng:nb≠g:=fun e=>by
  have h1:=hN.row
  rw [e,h.hg] at h1
  simp at h1
 have hWH:=who_own C g nb j L.length L.length L w hN hj rfl hg0 hg3
 have hc:=fun i hi=>nfl_get L j hj i hi
 have hcs:∀ i,i < 12→∃ u,(nfl L).toArray[j * 12+i]?=some u:=fun i hi=>by
  refine ⟨(L.getD j nx0).cs[i]'(by rw [ncs_len];exact hi),?_⟩
  rw [List.getElem?_toArray,hc i hi,List.getElem?_eq_getElem]
 obtain ⟨v0,c0⟩:=hcs 0 (by omega)
 obtain ⟨v1,c1⟩:=hcs 1 (by omega)
 obtain ⟨v2,c2⟩:=hcs 2 (by omega)
 obtain ⟨v3,c3⟩:=hcs 3 (by omega)
 obtain ⟨v4,c4⟩:=hcs 4 (by omega)
 obtain ⟨v5,c5⟩:=hcs 5 (by omega)
 obtain ⟨v6,c6⟩:=hcs 6 (by omega)
 obtain ⟨v7,c7⟩:=hcs 7 (by omega)
 obtain ⟨v8,c8⟩:=hcs 8 (by omega)
 obtain ⟨v9,c9⟩:=hcs 9 (by omega)
 obtain ⟨v10,c10⟩:=hcs 10 (by omega)
 obtain ⟨v11,c11⟩:=hcs 11 (by omega)
 have ho:=hN.own _ (nx_mem hj)
 have hok:=hN.ok _ (nx_mem hj)
 clear hc hcs
 generalize L.getD j nx0=x at *
 obtain ⟨⟨nm,ct,ms,rs,sv,gw,⟨px,py,pz,ph,pq⟩,wh⟩,vm,vr,vs,vg,vw⟩:=x
 obtain ⟨a2,x2,h2⟩:=row_form ho.ms
 obtain ⟨a3,x3,h3⟩:=row_form ho.rs
 obtain ⟨a4,x4,h4⟩:=row_form ho.sv
 obtain ⟨a5,x5,h5⟩:=row_form ho.gw
 obtain ⟨a11,x11,h11⟩:=row_form ho.wh
 simp only at h2 h3 h4 h5 h11
 subst h2 h3 h4 h5 h11
 refine tell_at g nb L.length j (nfl L).toArray v0 v1 v2 v3 v4 v5 v6 v7 v8 v9 v10 v11 nm ct a2 a3 a4 a5 a11 _ x2 _ x3 _ x4 _ x5 _ x11 px py pz ph pq w (IsTx C n' l) _ hj hg0 hg3 hN.row hng c0 c1 c2 c3 c4 c5 c6 c7 c8 c9 c10 c11 hWH ?_ ?_ ?_
 ·intro W hW
  refine (hTl W _ _ _ _ _ ((ho.is hok).below hW)).mono ?_
  rintro e w' ⟨hb,um,ur,us,ug,uw,a,k,c,rfl,ho',hk',hw'⟩
  have hCW:C≤W.heap.size:=Nat.le_trans hC hW.size
  have ho2:=ho'.mono hCW
  clear ho'
  obtain ⟨b2,d2,e2⟩:=row_form ho2.ms
  obtain ⟨b3,d3,e3⟩:=row_form ho2.rs
  obtain ⟨b4,d4,e4⟩:=row_form ho2.sv
  obtain ⟨b5,d5,e5⟩:=row_form ho2.gw
  obtain ⟨b11,d11,e11⟩:=row_form ho2.wh
  subst e2 e3 e4 e5 e11
  exact ⟨hb,n'.name,n'.centre,b2,_,d2,b3,_,d3,b4,_,d4,b5,_,d5,n'.p.x,n'.p.y,n'.p.z,n'.p.h,n'.p.s,b11,_,d11,a,k,c,rfl,⟨⟨n',_,_,_,_,_⟩,rfl,rfl,ho2,hk'⟩,Own.mono hw' hCW⟩
 ·rintro V V' xs q ⟨⟨y,rfl,hy,ho2,hk2⟩,hq⟩ hb
  exact ⟨⟨y,rfl,hy,ho2.below hb,hk2⟩,Own.below hq hb⟩
 ·rintro V u0 u1 b2 m2 e2 b3 m3 e3 b4 m4 e4 b5 m5 e5 u6 u7 u8 u9 u10 b11 m11 e11 qa qk qc hVb ⟨⟨y,hys,hy,ho2,hk2⟩,hq⟩
  rw [hys]
  have hNt:=hN.turn hVb hC hj ho2 hk2
  have hoth:∀ q,q≠nb→(World.drew (setAll nb y.cs (j * 12) V)).heap[q]?=V.heap[q]?:=fun q hq=>by rw [drew_heap];exact setAll_other hq _ _ _
  have hrV:=(hN.below hVb hC).row
  have hP:=(h.below hVb).row hrV hoth
  have hbC:Below C w (World.drew (setAll nb y.cs (j * 12) V)):=drew_below (setAll_below hN.le _ _ (hVb.mono hC))
  have hq5:Own C (World.drew (setAll nb y.cs (j * 12) V)) (.slice qa qk qc) l:=row_ty hq (fun q cs f e=>(hoth q (fun e2=>by subst e2;rw [hrV] at e;simp at e)).trans e)
  have hx5:PkIs (World.drew (setAll nb y.cs (j * 12) V)) (tellP nm l) (.slice qa qk qc) (.slice none 0 0) (.slice none 0 0) (.slice none 0 0):=⟨own_names hq5 hl,Sv.own_names (Sv.own_nil 0 _) (fun m hm=>by cases hm),Gw.own_names (Gw.own_nil 0 _) (fun m hm=>by cases hm),Wh.own_names (Wh.own_nil 0 _) (fun m hm=>by cases hm),hok.name,roomy_own hq5⟩
  have hCW:C≤(World.drew (setAll nb y.cs (j * 12) V)).heap.size:=Nat.le_trans hC hbC.size
  refine (write_any C g _ ul ls v (tellP nm l) _ _ _ _ _ hP hCW h20 hx5 hWr (hT _ hbC)).mono ?_
  rintro e w' ⟨rfl,hm,a,k,c,hp⟩
  exact ⟨rfl,hbC.trans hm.below,y,a,k,c,hy,hNt.mv hm,hp⟩
theorem step_tell (t:Nt) (vn vl:Value) (v:Ev) (w:World) (j k:Nat) (n':Nd) (l:List Mem) (hV:Rv w.heap.size w) (h:NtIs w t vn vl) (hs:t.Short) (he:t.e=0) (hk:v.kind=1) (hw:v.which=(j:Int)) (hj:j < t.ns.length) (ho:v.other=(k:Int)) (hkn:k < t.ns.length) (h20:t.ls.length < 20) (hl:∀ m∈l,m.name.size≤maxLen)
 (hTl:∀ W vm vr vs vg vw,NdIs W (t.ns.getD j ndZ) vm vr vs vg vw→Calls Tryz.prog 34 #[.agg (ndA (t.ns.getD j ndZ) vm vr vs vg vw)] W fun e w'=>Below W.heap.size W w'∧∃ um ur us ug uw a k c,e=.returned (.tuple #[.agg (ndA n' um ur us ug uw),.agg #[.string (t.ns.getD j ndZ).name,.bool false,.slice a k c,.slice none 0 0,.slice none 0 0,.slice none 0 0],.int .i64 0])∧NdOwn W.heap.size w' n' um ur us ug uw∧NdOk n'∧Own W.heap.size w' (.slice a k c) l)
 (hWr:∀ W zm zs zg zw,Tab W.heap.size W→PkIs W (tellP (t.ns.getD j ndZ).name l) zm zs zg zw→Calls Tryz.prog 221 #[.agg #[.string (tellP (t.ns.getD j ndZ).name l).frm,.bool (tellP (t.ns.getD j ndZ).name l).whole,zm,zs,zg,zw]] W fun e w'=>e=.returned (.tuple #[.string (tellP (t.ns.getD j ndZ).name l).T,.int .i64 (tellP (t.ns.getD j ndZ).name l).e])∧Below W.heap.size W w') :
 Calls Tryz.prog 16 #[.agg #[vn,vl],.agg (evA v)] w (StepSays w ⟨t.ns.set j n',t.ls++[⟨v.other,(tellP (t.ns.getD j ndZ).name l).T⟩]⟩):=by
 refine step_of t _ vn vl v w hV h hs he (fun W C g nb ul L hW hwC hC hN hmap hP=>?_)
 have hLn:L.length=t.ns.length:=by rw [← hmap,List.length_map]
 have hz:=Nt.e_zero he
 have hgl:g < W.heap.size:=(Array.getElem?_eq_some_iff.1 hP.hg).1
 have hx:=getD_map_n hmap (j:=j) (by omega)
 have e2:W.cell? ⟨g,2,none⟩=some (.int .i64 1):=by rw [← hk];exact cellsAt hP.hg 2
 have e0:W.cell? ⟨g,0,none⟩=some (.slice (some ⟨nb,0,none⟩) L.length L.length):=cellsAt hP.hg 0
 have e3:W.cell? ⟨g,3,none⟩=some (.int .i64 (j:Int)):=by rw [← hw];exact cellsAt hP.hg 3
 have e4:W.cell? ⟨g,4,none⟩=some (.int .i64 (k:Int)):=by rw [← ho];exact cellsAt hP.hg 4
 refine play_of 100 #[.pointer (some ⟨g,0,none⟩)] #[] (enters_of Tryz.func100 (by kernel_rfl) rfl) g 1 0 _ W (by decide) rfl e2 (fun W2 hW2=>there1 g L.length _ _ (j:Int) (k:Int) W2 ((hW2.cell (p:=⟨g,0,none⟩) hgl).trans e0) ((hW2.cell (p:=⟨g,2,none⟩) hgl).trans e2) ((hW2.cell (p:=⟨g,3,none⟩) hgl).trans e3) ((hW2.cell (p:=⟨g,4,none⟩) hgl).trans e4) (by omega) (within_nat (by omega)) (within_nat (by omega))) (fun W2 hW2 _=>?_)
 refine (tell_any C g nb j ul t.ls v L n' l W2 (hP.below hW2) (hN.below hW2 hC) (Nat.le_trans hC hW2.size) h20 hw (by omega) (fun V hVb=>(hV.after ((hW.trans (hW2.mono hW.size)).trans (hVb.mono hwC))).tab) hl (by rw [hx];exact hTl) (by rw [hx];exact hWr)).mono ?_
 rintro e w' ⟨rfl,hb,y,a,kk,c,hy,hN',hp⟩
 rw [hx] at hp
 exact ⟨rfl,(hW2.mono hC).trans hb,a,kk,c,L.set j y,List.length_set,by rw [List.map_set,hmap,hy],hN',hp⟩
def trA:Nd:=nwN ⟨#[97]⟩ ⟨#[99]⟩ 0 true
def trB:Nd:=nwN ⟨#[98]⟩ ⟨#[99]⟩ 1 false
def trRs:List Nd:=[nwN ⟨#[101]⟩ ⟨#[99]⟩ 2 true,nwN ⟨#[102]⟩ ⟨#[99]⟩ 3 false,nwN ⟨#[103]⟩ ⟨#[99]⟩ 4 true,nwN ⟨#[104]⟩ ⟨#[99]⟩ 5 false]
def trA1:Nd:=hrN trA (wholeP trB)
def trA2:Nd:=wsN trA1 ⟨#[98]⟩ 2
def trA3:Nd:=wsN trA2 ⟨#[98]⟩ 3
def trX (bury:Bool):Nd:=if bury=true then trA3 else trA2
def trM (bury:Bool):Mem:=⟨⟨#[98]⟩,if bury=true then 3 else 2,1,1,false⟩
def trL:Mem:=⟨⟨#[98]⟩,1,2,1,false⟩
def restOf (n:Nd) (m:Mem):List Rum:=(bump [⟨m,0⟩] [0] 1).filter (keepR (tmN n))
def trX2 (bury:Bool):Nd:={ trX bury with rs:=restOf (trX bury) (trM bury) }
def trB1 (bury:Bool):Nd:=hrN trB (tellP ⟨#[97]⟩ [trM bury])
def trB2 (bury:Bool):Nd:={ trB1 bury with rs:=restOf (trB1 bury) trL }
def trZ (bury:Bool):Nd:=hrN (trX2 bury) (tellP ⟨#[98]⟩ [trL])
theorem tell_one {n:Nd} {m:Mem} {l:List Mem} {rest:List Rum} (hr:n.rs=[⟨m,0⟩]) (h:TellIs n l rest):l=[m]∧rest=restOf n m:=by
 obtain ⟨told,ht,hp,_⟩:=h
 rw [hr] at ht
 rcases ht with ⟨h,_⟩ | ⟨_,ord,ho,rfl,rfl⟩
 ·cases h
 ·have h1:ord=[0]:=by
   have:=ho.perm
   rw [show List.range [(⟨m,0⟩:Rum)].length=[0] from rfl] at this
   exact List.perm_singleton.1 this
  subst h1
  have h2:toldL [(⟨m,0⟩:Rum)] [0] (min 5 [(⟨m,0⟩:Rum)].length)=[m]:=rfl
  rw [h2] at hp
  exact ⟨List.perm_singleton.1 hp,rfl⟩
theorem tr_eA:trA.e=0:=by kernel_rfl
theorem tr_eB:trB.e=0:=by kernel_rfl
theorem tr_pB:(wholeP trB).e=0:=by kernel_rfl
theorem tr_h1:hrE trA (wholeP trB)=0:=by kernel_rfl
theorem tr_eA1:trA1.e=0:=by kernel_rfl
theorem tr_w2:wsE trA1 ⟨#[98]⟩ 1 2=0:=by kernel_rfl
theorem tr_eA2:trA2.e=0:=by kernel_rfl
theorem tr_w3:wsE trA2 ⟨#[98]⟩ 2 3=0:=by kernel_rfl
theorem tr_rX:∀ b,(trX b).rs=[⟨trM b,0⟩]
 | true=>by kernel_rfl
 | false=>by kernel_rfl
theorem tr_eX:∀ b,(trX b).e=0
 | true=>by kernel_rfl
 | false=>by kernel_rfl
theorem tr_eX2:∀ b,(trX2 b).e=0
 | true=>by kernel_rfl
 | false=>by kernel_rfl
theorem tr_pX:∀ b,(tellP ⟨#[97]⟩ [trM b]).e=0
 | true=>by kernel_rfl
 | false=>by kernel_rfl
theorem tr_hB:∀ b,hrE trB (tellP ⟨#[97]⟩ [trM b])=0
 | true=>by kernel_rfl
 | false=>by kernel_rfl
theorem tr_eB1:∀ b,(trB1 b).e=0
 | true=>by kernel_rfl
 | false=>by kernel_rfl
theorem tr_rB:∀ b,(trB1 b).rs=[⟨trL,0⟩]
 | true=>by kernel_rfl
 | false=>by kernel_rfl
theorem tr_eB2:∀ b,(trB2 b).e=0
 | true=>by kernel_rfl
 | false=>by kernel_rfl
theorem tr_pL:(tellP ⟨#[98]⟩ [trL]).e=0:=by kernel_rfl
theorem tr_hZ:∀ b,hrE (trX2 b) (tellP ⟨#[98]⟩ [trL])=0
 | true=>by kernel_rfl
 | false=>by kernel_rfl
theorem tr_mZ:∀ b,(trZ b).ms=[⟨⟨#[97]⟩,1,1,0,true⟩,trL]
 | true=>by kernel_rfl
 | false=>by kernel_rfl
theorem chkN_two {x y x' y':Nd} {r:List Nd} (h:chkN (x :: y :: r)=0) (hx:x'.e=0) (hy:y'.e=0) (nx:x'.name=x.name) (ny:y'.name=y.name):chkN (x' :: y' :: r)=0:=by
 unfold chkN at h
 split at h
 ·rename_i h2
  split at h
  ·rename_i h3
   have ha:=(apN_iff _).1 h3
   have hz:=fstE_mem _ h2
   refine chkN_ok (fun j hj=>?_) (fun i j hij hj=>?_)
   ·match j with
    | 0=>exact hx
    | 1=>exact hy
    | j+2=>exact hz _ (by
       have hj':j < r.length:=by simpa using hj
       simp only [List.getD_cons_succ]
       rw [List.getD,List.getElem?_eq_getElem hj']
       exact List.mem_cons_of_mem _ (List.mem_cons_of_mem _ (List.getElem_mem hj')))
   ·have hj':j < (x :: y :: r).length:=by simpa using hj
    have hq:=ha i j hij hj'
    have hn:∀ k,((x' :: y' :: r).getD k ndZ).name=((x :: y :: r).getD k ndZ).name:=fun k=>by
     match k with
     | 0=>exact nx
     | 1=>exact ny
     | k+2=>rfl
    rw [hn i,hn j]
    exact hq
  ·cases h
 ·rename_i h2;exact absurd h h2
theorem tr_c0:∀ m,chkN (trA :: trB :: trRs.take m)=0
 | 0=>by kernel_rfl
 | 1=>by kernel_rfl
 | 2=>by kernel_rfl
 | 3=>by kernel_rfl
 | m+4=>by
   rw [show trRs.take (m+4)=trRs from List.take_of_length_le (Nat.le_add_left _ _)]
   kernel_rfl
def nbA:Nd:=nwN ⟨#[97]⟩ ⟨#[99]⟩ 1 false
def nbB:Nd:=nwN ⟨#[98]⟩ ⟨#[99]⟩ 2 true
def nbP:Pk:=wholeP nbA
def nbC:Nd:=hrN nbB nbP
def ev1:Ev:=⟨2,0,1,0,⟨#[]⟩,⟨0,0,0,0,0⟩,⟨⟨#[]⟩,⟨#[]⟩,⟨#[]⟩,⟨#[]⟩,0,0,false,0,false⟩⟩
def ev2:Ev:=⟨3,0,0,0,⟨#[]⟩,⟨0,0,0,0,0⟩,⟨⟨#[]⟩,⟨#[]⟩,⟨#[]⟩,⟨#[]⟩,0,0,false,0,false⟩⟩
theorem nb_e1:nwE ⟨#[97]⟩ ⟨#[99]⟩ 1=0:=by kernel_rfl
theorem nb_e2:nwE ⟨#[98]⟩ ⟨#[99]⟩ 2=0:=by kernel_rfl
theorem nb_t0:(Nt.mk [nbA,nbB] []).e=0:=by kernel_rfl
theorem nb_pe:nbP.e=0:=by kernel_rfl
theorem nb_len:nbP.B.length≤1000:=of_decide_eq_true (by kernel_rfl)
theorem nb_h:hrE nbB nbP=0:=by kernel_rfl
theorem nb_ms:nbC.ms.length=2:=by kernel_rfl
theorem nb_T:nbP.T.data.toList=nbP.B:=by unfold Pk.T;rw [if_pos nb_pe]
theorem nb_rd:rdR nbP.T.data.toList=some nbP:=by rw [nb_T];exact rdR_some.2 ⟨rfl,nb_pe⟩
theorem nb_sz:nbP.T.data.toList.length≤1000:=by rw [nb_T];exact nb_len
theorem nb_chk:chkN [nbA,nbB]=0:=by kernel_rfl
theorem nb_lt:ltE 2 ⟨1,nbP.T⟩=0:=by
 unfold ltE
 simp only [nb_rd]
 rfl
theorem nb_t1:(Nt.mk [nbA,nbB] [⟨1,nbP.T⟩]).e=0:=by
 rw [Nt.e_letters (by simp) nb_chk]
 exact if_pos nb_lt
theorem bsize (s:ByteArray):s.size=s.data.toList.length:=by rw [Array.length_toList];rfl
theorem new_ok (nm ct:ByteArray) (ad:Int) (sv:Bool) (he:nwE nm ct ad=0) (hn:nm.size≤maxLen) (hc:ct.size≤maxLen) (W:World) :
 Calls Tryz.prog 19 #[.string nm,.string ct,.int .i64 ad,.bool sv] W fun e w'=>Below W.heap.size W w'∧∃ a2 ai2 ac2 a3 ai3 ac3 a4 ai4 ac4 a5 ai5 ac5 a6 ai6 ac6,e=.returned (.tuple #[.agg #[.string nm,.string ct,.slice a2 ai2 ac2,.slice a3 ai3 ac3,.slice a4 ai4 ac4,.slice a5 ai5 ac5,.int .i64 0,.int .i64 0,.int .i64 0,.int .i64 0,.int .i64 1000,.slice a6 ai6 ac6],.int .i64 0])∧Hid (NdIs w' (nwN nm ct ad sv) (.slice a2 ai2 ac2) (.slice a3 ai3 ac3) (.slice a4 ai4 ac4) (.slice a5 ai5 ac5) (.slice a6 ai6 ac6)):=by
 refine (New_any nm ct ad sv W hn hc).mono ?_
 rintro e w' ⟨hb,⟨hne,_⟩ | ⟨_,hne,_⟩ | ⟨_,_,um,ur,us,ug,uw,rfl,ho,hk⟩⟩
 ·exact absurd he hne
 ·exact absurd rfl hne
 ·have hI:=ho.is hk
  obtain ⟨x2,y2,e2⟩:=row_form ho.ms
  obtain ⟨x3,y3,e3⟩:=row_form ho.rs
  obtain ⟨x4,y4,e4⟩:=row_form ho.sv
  obtain ⟨x5,y5,e5⟩:=row_form ho.gw
  obtain ⟨x6,y6,e6⟩:=row_form ho.wh
  subst e2 e3 e4 e5 e6
  exact ⟨hb,_,_,_,_,_,_,_,_,_,_,_,_,_,_,_,rfl,hI⟩
theorem nsl2 {W:World} {b:Nat} {n m:Nd} {v1 v2 v3 v4 v5 u1 u2 u3 u4 u5:Value} (hb:W.heap[b]?=some (.cells (ndA n v1 v2 v3 v4 v5++ndA m u1 u2 u3 u4 u5) 51 (0,0))) (hn:NdIs W n v1 v2 v3 v4 v5) (hm:NdIs W m u1 u2 u3 u4 u5):NSl W (.slice (some ⟨b,0,none⟩) 2 2) [n,m]:=by
 refine ⟨_,_,rfl,.inr ⟨b,0,rfl,(Array.getElem?_eq_some_iff.1 hb).1,fun j hj=>?_⟩⟩
 have hj2:j < 2:=hj
 rcases Nat.lt_or_ge j 1 with h1 | h1
 ·have:j=0:=by omega
  subst this
  refine ⟨_,_,_,_,_,hn,fun i hi=>(cellsAt hb _).trans ?_⟩
  rw [show 0+0 * 12+i=i by omega,Array.getElem?_append_left (show i < (ndA n v1 v2 v3 v4 v5).size from hi)];rfl
 ·have:j=1:=by omega
  subst this
  refine ⟨_,_,_,_,_,hm,fun i hi=>(cellsAt hb _).trans ?_⟩
  rw [show 0+1 * 12+i=12+i by omega,Array.getElem?_append_right (show (ndA n v1 v2 v3 v4 v5).size≤12+i from Nat.le_add_right _ _),show 12+i - (ndA n v1 v2 v3 v4 v5).size=i from Nat.add_sub_cancel_left _ _];rfl
theorem NtHas.keep {C:Nat} {w w':World} {t:Nt} {un ul:Value} (h:NtHas C w t un ul) (hk:∀ b,C≤b→b < w.heap.size→w'.heap[b]?=w.heap[b]?):NtHas C w' t un ul:=by
 obtain ⟨nb,L,h1,h2,h3,h4⟩:=h
 exact ⟨nb,L,h1,h2,h3.keep hk,row_keep hk h4⟩
set_option maxHeartbeats 25600000 in
set_option maxRecDepth 100000 in
theorem netBegun_any (w:World) (hV:Rv w.heap.size w) :
 Calls Tryz.prog 7 #[] w fun e w'=>e=.returned (.bool true)∧Below w.heap.size w w':=by
 have HNA:=new_ok ⟨#[97]⟩ ⟨#[99]⟩ 1 false nb_e1 (by decide) (by decide)
 have HNB:=new_ok ⟨#[98]⟩ ⟨#[99]⟩ 2 true nb_e2 (by decide) (by decide)
 have HNA':Hid _:=HNA
 have HNB':Hid _:=HNB
 clear HNA HNB
 have HNN:Hid (∀ W v,Below w.heap.size w W→NSl W v [nbA,nbB]→Calls Tryz.prog 6 #[v] W fun e w'=>Below W.heap.size W w'∧∃ a l c d m k,e=.returned (.tuple #[.agg #[.slice a l c,.slice d m k],.int .i64 0])∧Hid (NtIs w' ⟨[nbA,nbB],[]⟩ (.slice a l c) (.slice d m k))):=fun W v hW hv=>by
  refine (netNew_any [nbA,nbB] v W (hV.after hW) hv).mono ?_
  rintro e w' ⟨hb,⟨_,a,l,c,d,m,k,nb,L,rfl,ho⟩ | ⟨hne,_⟩⟩
  ·exact ⟨hb,_,_,_,_,_,_,rfl,⟨ho.sl hv.ok,Lt.own_names ho.ls (fun m hm=>by cases hm)⟩⟩
  ·exact absurd nb_t0 hne
 have HS1:Hid (∀ W a l c d m k,Below w.heap.size w W→NtIs W ⟨[nbA,nbB],[]⟩ (.slice a l c) (.slice d m k)→Calls Tryz.prog 16 #[.agg #[.slice a l c,.slice d m k],.agg #[.int .i64 2,.int .i64 0,.int .i64 1,.int .i64 0,.string ⟨#[]⟩,.int .i64 0,.int .i64 0,.int .i64 0,.int .i64 0,.int .i64 0,.string ⟨#[]⟩,.string ⟨#[]⟩,.string ⟨#[]⟩,.string ⟨#[]⟩,.int .i64 0,.int .i64 0,.bool false,.int .i64 0,.bool false]] W fun e w'=>Below W.heap.size W w'∧∃ a k c b l d,e=.returned (.tuple #[.agg #[.slice a k c,.slice b l d],.int .i64 0])∧Hid (NtHas W.heap.size w' ⟨[nbA,nbB],[⟨1,nbP.T⟩]⟩ (.slice a k c) (.slice b l d))):=fun W a l c d m k hW h=>
  step_whole ⟨[nbA,nbB],[]⟩ _ _ ev1 W 0 1 (hV.after hW) h (fun _ l hl=>by cases hl) nb_t0 rfl rfl (by simp) rfl (by simp) (by simp) (fun W2 zm zs zg zw hT hx=>pwrite_any nbP zm zs zg zw W2 hx (.inl rfl) hT)
 have HS2:Hid (∀ W a l c d m k,Below w.heap.size w W→NtIs W ⟨[nbA,nbB],[⟨1,nbP.T⟩]⟩ (.slice a l c) (.slice d m k)→Calls Tryz.prog 16 #[.agg #[.slice a l c,.slice d m k],.agg #[.int .i64 3,.int .i64 0,.int .i64 0,.int .i64 0,.string ⟨#[]⟩,.int .i64 0,.int .i64 0,.int .i64 0,.int .i64 0,.int .i64 0,.string ⟨#[]⟩,.string ⟨#[]⟩,.string ⟨#[]⟩,.string ⟨#[]⟩,.int .i64 0,.int .i64 0,.bool false,.int .i64 0,.bool false]] W fun e w'=>Below W.heap.size W w'∧∃ a k c b l d,e=.returned (.tuple #[.agg #[.slice a k c,.slice b l d],.int .i64 0])∧Hid (NtHas W.heap.size w' ⟨[nbA,nbC],[]⟩ (.slice a k c) (.slice b l d))):=fun W a l c d m k hW h=>
  step_come ⟨[nbA,nbB],[⟨1,nbP.T⟩]⟩ _ _ ev2 W 0 1 nbP (hV.after hW) h (fun _ l hl=>by rw [List.mem_singleton] at hl;subst hl;rw [bsize];exact Nat.le_trans nb_sz (by decide)) nb_t1 rfl rfl (by simp) 1 nbP.T rfl rfl (by simp) nb_rd (Nat.le_trans nb_sz (by decide)) nb_h (fun W2 vm vr vs vg vw zm zs zg zw hI hx=>Hear_none nbB nbP zm zs zg zw vm vr vs vg vw W2 hI hx (.inl rfl) rfl rfl rfl rfl rfl)
 clear hV
 go_enter Tryz.func7,Tryz.ntmps7
 go_wp2_with fail
 refine Calls.mono (HNA'.out _) ?_
 rintro e w1 ⟨hb1,a2,ai2,ac2,a3,ai3,ac3,a4,ai4,ac4,a5,ai5,ac5,a6,ai6,ac6,rfl,HA1⟩
 have HB1:Hid (Below w.heap.size w w1):=hb1
 clear hb1 HNA'
 obtain ⟨W1,hW1⟩:∃ W1,W1=w1.alloc (.cells #[.string ⟨#[97]⟩,.string ⟨#[99]⟩,.slice a2 ai2 ac2,.slice a3 ai3 ac3,.slice a4 ai4 ac4,.slice a5 ai5 ac5,.int .i64 0,.int .i64 0,.int .i64 0,.int .i64 0,.int .i64 1000,.slice a6 ai6 ac6] 51):=⟨_,rfl⟩
 have hb1:Below w1.heap.size w1 W1:=by rw [hW1];exact (Below.refl _ _).alloc (Nat.le_refl _) _
 have HA2:Hid (NdIs W1 nbA (.slice a2 ai2 ac2) (.slice a3 ai3 ac3) (.slice a4 ai4 ac4) (.slice a5 ai5 ac5) (.slice a6 ai6 ac6)):=HA1.out.below hb1
 have HBW1:Hid (Below w.heap.size w W1):=HB1.out.trans (hb1.mono HB1.out.size)
 have HG1:Hid (W1.heap[w1.heap.size]?=some (.cells #[.string ⟨#[97]⟩,.string ⟨#[99]⟩,.slice a2 ai2 ac2,.slice a3 ai3 ac3,.slice a4 ai4 ac4,.slice a5 ai5 ac5,.int .i64 0,.int .i64 0,.int .i64 0,.int .i64 0,.int .i64 1000,.slice a6 ai6 ac6] 51 (0,0))):=by show _=_;rw [hW1];exact heap_alloc_new w1 _
 clear hb1 HB1 HA1
 go_wp2_with fail
 rw [← hW1]
 clear hW1
 refine Calls.mono (HNB'.out _) ?_
 rintro e w2 ⟨hb2,b2,bi2,bc2,b3,bi3,bc3,b4,bi4,bc4,b5,bi5,bc5,b6,bi6,bc6,rfl,HC1⟩
 have HB2:Hid (Below w.heap.size w w2):=HBW1.out.trans (hb2.mono HBW1.out.size)
 have HA3:Hid (NdIs w2 nbA (.slice a2 ai2 ac2) (.slice a3 ai3 ac3) (.slice a4 ai4 ac4) (.slice a5 ai5 ac5) (.slice a6 ai6 ac6)):=HA2.out.below hb2
 have HG2:Hid (w2.heap[w1.heap.size]?=some (.cells #[.string ⟨#[97]⟩,.string ⟨#[99]⟩,.slice a2 ai2 ac2,.slice a3 ai3 ac3,.slice a4 ai4 ac4,.slice a5 ai5 ac5,.int .i64 0,.int .i64 0,.int .i64 0,.int .i64 0,.int .i64 1000,.slice a6 ai6 ac6] 51 (0,0))):=(hb2.block _ (Array.getElem?_eq_some_iff.1 HG1.out).1).trans HG1.out
 clear hb2 HNB' HA2 HG1 HBW1
 obtain ⟨W2,hW2⟩:∃ W2,W2=w2.alloc (.cells #[.string ⟨#[98]⟩,.string ⟨#[99]⟩,.slice b2 bi2 bc2,.slice b3 bi3 bc3,.slice b4 bi4 bc4,.slice b5 bi5 bc5,.int .i64 0,.int .i64 0,.int .i64 0,.int .i64 0,.int .i64 1000,.slice b6 bi6 bc6] 51):=⟨_,rfl⟩
 have hb2:Below w2.heap.size w2 W2:=by rw [hW2];exact (Below.refl _ _).alloc (Nat.le_refl _) _
 have hg1:W2.heap[w1.heap.size]?=some (.cells #[.string ⟨#[97]⟩,.string ⟨#[99]⟩,.slice a2 ai2 ac2,.slice a3 ai3 ac3,.slice a4 ai4 ac4,.slice a5 ai5 ac5,.int .i64 0,.int .i64 0,.int .i64 0,.int .i64 0,.int .i64 1000,.slice a6 ai6 ac6] 51 (0,0)):=(hb2.block _ (Array.getElem?_eq_some_iff.1 HG2.out).1).trans HG2.out
 have hg2:W2.heap[w2.heap.size]?=some (.cells #[.string ⟨#[98]⟩,.string ⟨#[99]⟩,.slice b2 bi2 bc2,.slice b3 bi3 bc3,.slice b4 bi4 bc4,.slice b5 bi5 bc5,.int .i64 0,.int .i64 0,.int .i64 0,.int .i64 0,.int .i64 1000,.slice b6 bi6 bc6] 51 (0,0)):=by rw [hW2];exact heap_alloc_new w2 _
 have HA4:Hid (NdIs W2 nbA (.slice a2 ai2 ac2) (.slice a3 ai3 ac3) (.slice a4 ai4 ac4) (.slice a5 ai5 ac5) (.slice a6 ai6 ac6)):=HA3.out.below hb2
 have HC2:Hid (NdIs W2 nbB (.slice b2 bi2 bc2) (.slice b3 bi3 bc3) (.slice b4 bi4 bc4) (.slice b5 bi5 bc5) (.slice b6 bi6 bc6)):=HC1.out.below hb2
 have HBW2:Hid (Below w.heap.size w W2):=HB2.out.trans (hb2.mono HB2.out.size)
 obtain ⟨p0,p1,p2,p3,p4,p5,p6,p7,p8,p9,p10,p11⟩:=cells12 hg1
 obtain ⟨q0,q1,q2,q3,q4,q5,q6,q7,q8,q9,q10,q11⟩:=cells12 hg2
 clear hb2 hg1 hg2 HA3 HC1 HB2 HG2
 obtain ⟨W3,hW3⟩:∃ W3,W3=W2.alloc (.cells #[.string ⟨#[97]⟩,.string ⟨#[99]⟩,.slice a2 ai2 ac2,.slice a3 ai3 ac3,.slice a4 ai4 ac4,.slice a5 ai5 ac5,.int .i64 0,.int .i64 0,.int .i64 0,.int .i64 0,.int .i64 1000,.slice a6 ai6 ac6,.string ⟨#[98]⟩,.string ⟨#[99]⟩,.slice b2 bi2 bc2,.slice b3 bi3 bc3,.slice b4 bi4 bc4,.slice b5 bi5 bc5,.int .i64 0,.int .i64 0,.int .i64 0,.int .i64 0,.int .i64 1000,.slice b6 bi6 bc6] 51):=⟨_,rfl⟩
 have hb3:Below W2.heap.size W2 W3:=by rw [hW3];exact (Below.refl _ _).alloc (Nat.le_refl _) _
 have hg3:W3.heap[W2.heap.size]?=some (.cells #[.string ⟨#[97]⟩,.string ⟨#[99]⟩,.slice a2 ai2 ac2,.slice a3 ai3 ac3,.slice a4 ai4 ac4,.slice a5 ai5 ac5,.int .i64 0,.int .i64 0,.int .i64 0,.int .i64 0,.int .i64 1000,.slice a6 ai6 ac6,.string ⟨#[98]⟩,.string ⟨#[99]⟩,.slice b2 bi2 bc2,.slice b3 bi3 bc3,.slice b4 bi4 bc4,.slice b5 bi5 bc5,.int .i64 0,.int .i64 0,.int .i64 0,.int .i64 0,.int .i64 1000,.slice b6 bi6 bc6] 51 (0,0)):=by rw [hW3];exact heap_alloc_new W2 _
 have HBW3:Hid (Below w.heap.size w W3):=HBW2.out.trans (hb3.mono HBW2.out.size)
 have HNW:=HNN.out W3 (.slice (some ⟨W2.heap.size,0,none⟩) 2 2) HBW3.out (nsl2 hg3 (HA4.out.below hb3) (HC2.out.below hb3))
 clear hb3 hg3 HA4 HC2 HNN
 go_upto_region 3 with fail
 rw [← hW2]
 clear hW2
 go_wp2_with fail
 rw [← hW3]
 clear hW3 p0 q0 p1 q1 p2 q2 p3 q3 p4 q4 p5 q5 p6 q6 p7 q7 p8 q8 p9 q9 p10 q10 p11 q11
 refine Calls.mono HNW ?_
 rintro e w4 ⟨hb4,a,l,c,d,m,k,rfl,HN4⟩
 have HB4:Hid (Below w.heap.size w w4):=HBW3.out.trans (hb4.mono HBW3.out.size)
 clear hb4 HNW HBW3 HBW2
 obtain ⟨W4,hW4⟩:∃ W4,W4=w4.alloc (.cells #[.slice a l c,.slice d m k] 25):=⟨_,rfl⟩
 have hb4:Below w4.heap.size w4 W4:=by rw [hW4];exact (Below.refl _ _).alloc (Nat.le_refl _) _
 have hg4:W4.heap[w4.heap.size]?=some (.cells #[.slice a l c,.slice d m k] 25 (0,0)):=by rw [hW4];exact heap_alloc_new w4 _
 have HBW4:Hid (Below w.heap.size w W4):=HB4.out.trans (hb4.mono HB4.out.size)
 have HN4':=HS1.out W4 a l c d m k HBW4.out (HN4.out.below hb4)
 have x0:W4.cell? ⟨w4.heap.size,0,none⟩=some (.slice a l c):=cellsAt hg4 0
 have x1:W4.cell? ⟨w4.heap.size,1,none⟩=some (.slice d m k):=cellsAt hg4 1
 have HG4:Hid (W4.heap[w4.heap.size]?=some (.cells #[.slice a l c,.slice d m k] 25 (0,0))):=hg4
 have HLE:Hid (w.heap.size≤w4.heap.size):=HB4.out.size
 clear hb4 hg4 HN4 HS1 HB4
 go_upto_region 4 with fail
 rw [← hW4]
 clear hW4
 go_wp2_with fail
 refine Calls.mono HN4' ?_
 rintro e w5 ⟨hb5,a5_,l5_,c5_,d5_,m5_,k5_,rfl,HN5⟩
 have hg5:w5.heap[w4.heap.size]?=some (.cells #[.slice a l c,.slice d m k] 25 (0,0)):=(hb5.block _ (Array.getElem?_eq_some_iff.1 HG4.out).1).trans HG4.out
 have HB5:Hid (Below w.heap.size w w5):=HBW4.out.trans (hb5.mono HBW4.out.size)
 have hlt4:w4.heap.size < W4.heap.size:=(Array.getElem?_eq_some_iff.1 HG4.out).1
 obtain ⟨W5,hW5⟩:∃ W5,W5=setAll w4.heap.size [.slice a5_ l5_ c5_,.slice d5_ m5_ k5_] 0 w5:=⟨_,rfl⟩
 have hk5:W5.heap[w4.heap.size]?=some (.cells #[.slice a5_ l5_ c5_,.slice d5_ m5_ k5_] 25 (0,0)):=by rw [hW5];exact setAll_block [.slice a5_ l5_ c5_,.slice d5_ m5_ k5_] [] [.slice a l c,.slice d m k] hg5 rfl
 have hoth:∀ q,q≠w4.heap.size→W5.heap[q]?=w5.heap[q]?:=fun q hq=>by rw [hW5];exact setAll_other hq _ _ _
 have HBW5:Hid (Below w.heap.size w W5):=by show Below _ _ _;rw [hW5];exact setAll_below HLE.out _ _ HB5.out
 have hI5:NtIs W5 ⟨[nbA,nbB],[⟨1,nbP.T⟩]⟩ (.slice a5_ l5_ c5_) (.slice d5_ m5_ k5_):=(HN5.out.keep (fun q hq _=>hoth q (by omega))).is (fun l hl=>by rw [List.mem_singleton] at hl;subst hl;show _≤_;rw [bsize];exact Nat.le_trans nb_sz (by decide))
 have HN5':=HS2.out W5 _ _ _ _ _ _ HBW5.out hI5
 have y0:w5.cell? ⟨w4.heap.size,0,none⟩=some (.slice a l c):=cellsAt hg5 0
 have y1:w5.cell? ⟨w4.heap.size,1,none⟩=some (.slice d m k):=cellsAt hg5 1
 have z0:w5.frozen? ⟨w4.heap.size,0,none⟩=false:=frozen_of hg5 0
 have z1:w5.frozen? ⟨w4.heap.size,1,none⟩=false:=frozen_of hg5 1
 have r0:W5.cell? ⟨w4.heap.size,0,none⟩=some (.slice a5_ l5_ c5_):=cellsAt hk5 0
 have r1:W5.cell? ⟨w4.heap.size,1,none⟩=some (.slice d5_ m5_ k5_):=cellsAt hk5 1
 have HK5:Hid (W5.heap[w4.heap.size]?=some (.cells #[.slice a5_ l5_ c5_,.slice d5_ m5_ k5_] 25 (0,0))):=hk5
 simp only [setAll,Nat.zero_add] at hW5
 clear hb5 hg5 hk5 hoth HN5 hI5 HS2 HN4' x0 x1 HBW4 HG4 hlt4 HB5
 go_upto_region 5 with fail
 rw [← hW5]
 clear hW5 y0 y1 z0 z1
 go_wp2_with fail
 refine Calls.mono HN5' ?_
 rintro e w6 ⟨hb6,a6_,l6_,c6_,d6_,m6_,k6_,rfl,HN6⟩
 have hg6:w6.heap[w4.heap.size]?=some (.cells #[.slice a5_ l5_ c5_,.slice d5_ m5_ k5_] 25 (0,0)):=(hb6.block _ (Array.getElem?_eq_some_iff.1 HK5.out).1).trans HK5.out
 have HB6:Hid (Below w.heap.size w w6):=HBW5.out.trans (hb6.mono HBW5.out.size)
 have hlt5:w4.heap.size < W5.heap.size:=(Array.getElem?_eq_some_iff.1 HK5.out).1
 obtain ⟨W6,hW6⟩:∃ W6,W6=setAll w4.heap.size [.slice a6_ l6_ c6_,.slice d6_ m6_ k6_] 0 w6:=⟨_,rfl⟩
 have hk6:W6.heap[w4.heap.size]?=some (.cells #[.slice a6_ l6_ c6_,.slice d6_ m6_ k6_] 25 (0,0)):=by rw [hW6];exact setAll_block [.slice a6_ l6_ c6_,.slice d6_ m6_ k6_] [] [.slice a5_ l5_ c5_,.slice d5_ m5_ k5_] hg6 rfl
 have hoth:∀ q,q≠w4.heap.size→W6.heap[q]?=w6.heap[q]?:=fun q hq=>by rw [hW6];exact setAll_other hq _ _ _
 have HBW6:Hid (Below w.heap.size w W6):=by show Below _ _ _;rw [hW6];exact setAll_below HLE.out _ _ HB6.out
 obtain ⟨nb,L,hun,hmap,hN,hls⟩:=HN6.out.keep (w':=W6) (fun q hq _=>hoth q (by omega))
 have hLl:L.length=2:=by have:=congrArg List.length hmap;simpa using this
 rw [hLl] at hun
 obtain ⟨a7,c7,hul⟩:=row_form hls
 have hxn:(L.getD 1 nx0).n=nbC:=getD_map_n hmap (j:=1) (by omega)
 have hms:=(hN.own _ (nx_mem (j:=1) (by omega))).ms
 rw [hxn] at hms
 obtain ⟨a8,c8,hvm⟩:=row_form hms
 rw [nb_ms] at hvm
 have hcell:W6.cell? ⟨nb,14,none⟩=some (.slice a8 2 c8):=by
  have h:=hN.cell (j:=1) (by omega) 2 (by omega)
  rw [← hvm];exact h
 have y0:w6.cell? ⟨w4.heap.size,0,none⟩=some (.slice a5_ l5_ c5_):=cellsAt hg6 0
 have y1:w6.cell? ⟨w4.heap.size,1,none⟩=some (.slice d5_ m5_ k5_):=cellsAt hg6 1
 have z0:w6.frozen? ⟨w4.heap.size,0,none⟩=false:=frozen_of hg6 0
 have z1:w6.frozen? ⟨w4.heap.size,1,none⟩=false:=frozen_of hg6 1
 have s0:W6.cell? ⟨w4.heap.size,0,none⟩=some (.slice (some ⟨nb,0,none⟩) 2 2):=by rw [← hun];exact cellsAt hk6 0
 have s1:W6.cell? ⟨w4.heap.size,1,none⟩=some (.slice a7 0 c7):=by have h:W6.cell? ⟨w4.heap.size,1,none⟩=some (.slice d6_ m6_ k6_):=cellsAt hk6 1;rw [hul] at h;exact h
 simp only [setAll,Nat.zero_add] at hW6
 clear hb6 hg6 hk6 hoth HN6 HN5' r0 r1 HBW5 HK5 hlt5 HB6 hun hmap hN hls hLl hul hxn hms hvm HLE
 go_upto_region 6 with fail
 rw [← hW6]
 clear hW6 y0 y1 z0 z1
 go_wp2_with fail
 go_ret
 exact ⟨rfl,HBW6.out⟩
def nmOf (i:Nat):ByteArray:=[(⟨#[97]⟩:ByteArray),⟨#[98]⟩,⟨#[101]⟩,⟨#[102]⟩,⟨#[103]⟩,⟨#[104]⟩].getD i ⟨#[]⟩
def sixN (i:Nat):Nd:=nwN (nmOf i) ⟨#[99]⟩ (i:Int) (decide (i%2=0))
theorem six_e:∀ i,i < 6→nwE (nmOf i) ⟨#[99]⟩ (i:Int)=0
 | 0,_=>by kernel_rfl
 | 1,_=>by kernel_rfl
 | 2,_=>by kernel_rfl
 | 3,_=>by kernel_rfl
 | 4,_=>by kernel_rfl
 | 5,_=>by kernel_rfl
 | i+6,h=>absurd h (by omega)
theorem six_n:∀ i,i < 6→(nmOf i).size≤maxLen
 | 0,_=>by decide
 | 1,_=>by decide
 | 2,_=>by decide
 | 3,_=>by decide
 | 4,_=>by decide
 | 5,_=>by decide
 | i+6,h=>absurd h (by omega)
theorem six_c:∀ i,i < 6→(#[.string ⟨#[97]⟩,.string ⟨#[98]⟩,.string ⟨#[101]⟩,.string ⟨#[102]⟩,.string ⟨#[103]⟩,.string ⟨#[104]⟩]:Array Value)[i]?=some (.string (nmOf i))
 | 0,_=>rfl
 | 1,_=>rfl
 | 2,_=>rfl
 | 3,_=>rfl
 | 4,_=>rfl
 | 5,_=>rfl
 | i+6,h=>absurd h (by omega)
theorem Tryz.infoNq:(Tryz.prog.info? 51).map (fun i=>(i.zero,i.size,i.bytes))=some (some (.agg #[.string ⟨#[]⟩,.string ⟨#[]⟩,.slice none 0 0,.slice none 0 0,.slice none 0 0,.slice none 0 0,.int .i64 0,.int .i64 0,.int .i64 0,.int .i64 0,.int .i64 0,.slice none 0 0]),12,192):=by kernel_rfl
theorem new_own (i:Nat) (hi:i < 6) (W:World) :
 Calls Tryz.prog 19 #[.string (nmOf i),.string ⟨#[99]⟩,.int .i64 (i:Int),.bool (decide (i%2=0))] W fun e w'=>Below W.heap.size W w'∧∃ a2 ai2 ac2 a3 ai3 ac3 a4 ai4 ac4 a5 ai5 ac5 a6 ai6 ac6,e=.returned (.tuple #[.agg #[.string (nmOf i),.string ⟨#[99]⟩,.slice a2 ai2 ac2,.slice a3 ai3 ac3,.slice a4 ai4 ac4,.slice a5 ai5 ac5,.int .i64 0,.int .i64 0,.int .i64 0,.int .i64 0,.int .i64 1000,.slice a6 ai6 ac6],.int .i64 0])∧Hid (NdOwn W.heap.size w' (sixN i) (.slice a2 ai2 ac2) (.slice a3 ai3 ac3) (.slice a4 ai4 ac4) (.slice a5 ai5 ac5) (.slice a6 ai6 ac6)∧NdOk (sixN i)):=by
 refine (New_any (nmOf i) ⟨#[99]⟩ (i:Int) (decide (i%2=0)) W (six_n i hi) (by decide)).mono ?_
 rintro e w' ⟨hb,⟨hne,_⟩ | ⟨_,hne,_⟩ | ⟨_,_,um,ur,us,ug,uw,rfl,ho,hk⟩⟩
 ·exact absurd (six_e i hi) hne
 ·exact absurd rfl hne
 ·obtain ⟨x2,y2,e2⟩:=row_form ho.ms
  obtain ⟨x3,y3,e3⟩:=row_form ho.rs
  obtain ⟨x4,y4,e4⟩:=row_form ho.sv
  obtain ⟨x5,y5,e5⟩:=row_form ho.gw
  obtain ⟨x6,y6,e6⟩:=row_form ho.wh
  subst e2 e3 e4 e5 e6
  exact ⟨hb,_,_,_,_,_,_,_,_,_,_,_,_,_,_,_,rfl,ho,hk⟩
set_option maxHeartbeats 800000 in
theorem choose_small (c n:Nat) (w:World) (hc:c < n) (hn:n≤1000) :
 Calls Tryz.prog 15 #[.int .i64 (c:Int),.int .i64 (n:Int)] w fun e w'=>e=.returned (.int .i64 (c:Int))∧w'=w:=by
 have h0:((n:Int) == 0)=false:=by
  have h:(n:Int)≠0:=by omega
  simpa using h
 have h1:((c:Int)).tmod (n:Int)=(c:Int):=Int.tmod_eq_of_lt (by omega) (by omega)
 have h2:IntKind.i64.wrap (c:Int)=(c:Int):=by rw [IntKind.wrap_i64];omega
 have h3:decide ((c:Int) < 0)=false:=decide_eq_false (by omega)
 go_enter Tryz.func15,Tryz.ntmps15
 go_wp2_with fail
 go_ret
 exact ⟨rfl,rfl⟩
structure Grw (C:Nat) (w:World) (v:Value) (L:List Nx):Prop where
 row:w.ownsRow C 51 12 v L.length (nfl L)
 own:∀ x∈L,NdOwn C w x.n x.vm x.vr x.vs x.vg x.vw∧NdOk x.n
theorem Grw.below {C:Nat} {w w':World} {v:Value} {L:List Nx} (h:Grw C w v L) (hb:Below w.heap.size w w'):Grw C w' v L:=
 ⟨row_ty h.row (fun b _ _ e=>(hb.block b (Array.getElem?_eq_some_iff.1 e).1).trans e),fun x hx=>⟨(h.own x hx).1.below hb,(h.own x hx).2⟩⟩
theorem NdOwn.grown {B:Nat} {w w':World} {n:Nd} {vm vr vs vg vw:Value} {row:Option Nat} (h:NdOwn B w n vm vr vs vg vw) (hg:w.grownBy w' row) (hr:∀ b,row=some b→∃ cs,w.heap[b]?=some (.cells cs 51 (0,0))):NdOwn B w' n vm vr vs vg vw:=by
 have hq:∀ (q:Nat) (c:Array Value) (T:TypeId) (f:Nat × Nat),T≠51→w.heap[q]?=some (.cells c T f)→w'.heap[q]?=some (.cells c T f):=fun q c T f hT e=>(hg.block q (Array.getElem?_eq_some_iff.1 e).1 (fun e2=>by
  obtain ⟨cs,h2⟩:=hr q e2.symm
  rw [h2] at e;simp at e;exact hT e.2.1.symm)).trans e
 exact ⟨row_ty h.ms (fun q c f e=>hq q c _ f (by decide) e),row_ty h.rs (fun q c f e=>hq q c _ f (by decide) e),row_ty h.sv (fun q c f e=>hq q c _ f (by decide) e),row_ty h.gw (fun q c f e=>hq q c _ f (by decide) e),row_ty h.wh (fun q c f e=>hq q c _ f (by decide) e)⟩
theorem Grw.nsl {C:Nat} {w:World} {v:Value} {L:List Nx} (h:Grw C w v L):NSl w v (L.map (·.n)):=by
 rcases h.row.2 with ⟨rfl,h0⟩ | ⟨b,c,cur,rfl,hbg,hb,hn,hcm,hcs,htk⟩
 ·have:L=[]:=List.eq_nil_of_length_eq_zero h0
  subst this
  exact ⟨none,0,rfl,.inl rfl⟩
 ·refine ⟨some ⟨b,0,none⟩,c,by rw [List.length_map],.inr ⟨b,0,rfl,(Array.getElem?_eq_some_iff.1 hb).1,fun j hj=>?_⟩⟩
  have hjL:j < L.length:=by simpa using hj
  have hn2:(L.getD j nx0).n=(L.map (·.n)).getD j ndZ:=by
   rw [List.getD,List.getD,List.getElem?_map,List.getElem?_eq_getElem hjL];rfl
  have ho:=h.own _ (nx_mem hjL)
  rw [← hn2]
  refine ⟨_,_,_,_,_,ho.1.is ho.2,fun i hi=>?_⟩
  have hg:=nfl_get L j hjL i hi
  rw [cellsAt hb,show 0+j * 12+i=j * 12+i by omega,← Array.getElem?_toList,← List.getElem?_take_of_lt (show j * 12+i < L.length * 12 by omega),htk,hg,Nx.cs,Array.getElem?_toList]
set_option maxHeartbeats 25600000 in
set_option maxRecDepth 100000 in
theorem begunN_any (k:Nat) (hk:k≤5) (w:World) (hV:Rv w.heap.size w) (he:(Nt.mk ((List.range (k+1)).map sixN) []).e=0) :
 Calls Tryz.prog 14 #[.int .i64 (k:Int),.int .i64 0] w fun e w'=>Below w.heap.size w w'∧∃ a l c d m q,e=.returned (.tuple #[.agg #[.slice a l c,.slice d m q],.bool true])∧Hid (NtIs w' ⟨(List.range (k+1)).map sixN,[]⟩ (.slice a l c) (.slice d m q)):=by
 obtain ⟨i0,hi0,hz0,hzs,hzb⟩:=info_parts Tryz.infoNq
 have HNW:Hid (∀ W v,Below w.heap.size w W→NSl W v ((List.range (k+1)).map sixN)→Calls Tryz.prog 6 #[v] W fun e w'=>Below W.heap.size W w'∧∃ a l c d m q,e=.returned (.tuple #[.agg #[.slice a l c,.slice d m q],.int .i64 0])∧Hid (NtHas W.heap.size w' ⟨(List.range (k+1)).map sixN,[]⟩ (.slice a l c) (.slice d m q))):=fun W v hW hv=>by
  refine (netNew_any _ v W (hV.after hW) hv).mono ?_
  rintro e w' ⟨hb,⟨_,a,l,c,d,m,q,nb,L,rfl,ho⟩ | ⟨hne,_⟩⟩
  ·have hns:L.map (·.n)=(List.range (k+1)).map sixN:=ho.ns
   have hLn:L.length=((List.range (k+1)).map sixN).length:=by rw [← hns,List.length_map]
   exact ⟨hb,_,_,_,_,_,_,rfl,nb,L,by rw [hLn];exact ho.un,ho.ns,⟨ho.le,ho.row,fun x hx=>(ho.own x hx).mono (by have:=ho.le;omega),fun x hx=>hv.ok _ (by rw [← hns];exact List.mem_map_of_mem hx)⟩,Lt.Own.mono ho.ls (by have:=ho.le;omega)⟩
  ·exact absurd he hne
 have HCH:Hid (∀ W:World,Calls Tryz.prog 15 #[.int .i64 (k:Int),.int .i64 6] W fun e w'=>e=.returned (.int .i64 (k:Int))∧w'=W):=fun W=>choose_small k 6 W (by omega) (by omega)
 have HC0:Hid (∀ W:World,Calls Tryz.prog 15 #[.int .i64 0,.int .i64 2] W fun e w'=>e=.returned (.int .i64 0)∧w'=W):=fun W=>choose_small 0 2 W (by omega) (by omega)
 have hw1:IntKind.i64.wrap (1+(k:Int))=1+(k:Int):=by rw [IntKind.wrap_i64];omega
 clear hV he
 obtain ⟨W0,hW0⟩:∃ W0,W0=w.alloc (.cells #[.slice none 0 0,.slice none 0 0] 25):=⟨_,rfl⟩
 have hb0:Below w.heap.size w W0:=by rw [hW0];exact (Below.refl _ _).alloc (Nat.le_refl _) _
 have hz:W0.heap[w.heap.size]?=some (.cells #[.slice none 0 0,.slice none 0 0] 25 (0,0)):=by rw [hW0];exact heap_alloc_new w _
 have HS0:Hid (w.heap.size+1≤W0.heap.size):=by show _≤_;rw [hW0];simp
 have HB0:Hid (Below w.heap.size w W0∧W0.heap[w.heap.size]?=some (.cells #[.slice none 0 0,.slice none 0 0] 25 (0,0))):=⟨hb0,hz⟩
 clear hb0 hz
 go_enter Tryz.func14,Tryz.ntmps14
 go_wp2_with fail
 rw [← hW0]
 clear hW0
 go_loopw [6,7] (fun v i wr=>∃ (j:Nat) (L:List Nx) (a:Option Addr) (c:Nat),j≤k+1∧i=.int .i64 j∧v=.slice a j c∧Hid (L.map (·.n)=(List.range j).map sixN∧L.length=j)∧Hid (Grw (w.heap.size+1) wr (.slice a j c) L)∧Hid (Below w.heap.size w wr∧wr.heap[w.heap.size]?=some (.cells #[.slice none 0 0,.slice none 0 0] 25 (0,0)))) (fun _ i _=>k+1 - (intOf i).toNat)
 case atStart=>exact ⟨0,[],none,0,Nat.zero_le _,rfl,rfl,⟨rfl,rfl⟩,⟨World.ownsRow_nil _ _ _ _,fun x hx=>by cases hx⟩,HB0⟩
 case round=>
  obtain ⟨j,L,a,c,hj,rfl,rfl,HL,HG,HB⟩:=hrel
  by_cases hlt:j < k+1
  ·have hd:decide ((j:Int) < 1+(k:Int))=true:=decide_eq_true (by omega)
   have hj6:j < 6:=by omega
   have hm1:((j:Int)).tmod 1=0:=by simp
   have hm4:((j:Int)%2 == 0)=decide (j%2=0):=by
    by_cases h:j%2=0
    ·rw [decide_eq_true h]
     have:(j:Int)%2=0:=by omega
     simpa using this
    ·rw [decide_eq_false h]
     have:(j:Int)%2≠0:=by omega
     simpa using this
   have HM4:Hid (((j:Int)%2 == 0)=decide (j%2=0)):=hm4
   clear hm4
   have HNO:=new_own j hj6
   have HNO':Hid _:=HNO
   clear HNO
   go_wp2_with fail
   refine (HCH.out wr).mono ?_
   rintro e w' ⟨rfl,hw'⟩
   have hw2':=hw'.symm
   subst hw2'
   go_wp2_with fail
   obtain ⟨W1,hW1⟩:∃ W1,W1=wr.alloc (.cells #[.string ⟨#[99]⟩,.string ⟨#[100]⟩] 9):=⟨_,rfl⟩
   rw [← hW1]
   refine (HC0.out W1).mono ?_
   rintro e w' ⟨rfl,hw'⟩
   have hw2':=hw'.symm
   subst hw2'
   have hx1:W1.heap[wr.heap.size]?=some (.cells #[.string ⟨#[99]⟩,.string ⟨#[100]⟩] 9 (0,0)):=by rw [hW1];exact heap_alloc_new wr _
   have HB1:Hid (Below wr.heap.size wr W1):=by show Below _ _ _;rw [hW1];exact (Below.refl _ _).alloc (Nat.le_refl _) _
   have x0:W1.cell? ⟨wr.heap.size,0,none⟩=some (.string ⟨#[99]⟩):=cellsAt hx1 0
   have y0:(W1.alloc (.cells #[.string ⟨#[97]⟩,.string ⟨#[98]⟩,.string ⟨#[101]⟩,.string ⟨#[102]⟩,.string ⟨#[103]⟩,.string ⟨#[104]⟩] 9)).cell? ⟨W1.heap.size,j,none⟩=some (.string (nmOf j)):=(cellsAt (heap_alloc_new W1 _) j).trans (six_c j hj6)
   have hj7:(j:Int) < 6:=by omega
   clear hW1 hx1
   go_wp2_with fail
   obtain ⟨W2,hW2⟩:∃ W2,W2=W1.alloc (.cells #[.string ⟨#[97]⟩,.string ⟨#[98]⟩,.string ⟨#[101]⟩,.string ⟨#[102]⟩,.string ⟨#[103]⟩,.string ⟨#[104]⟩] 9):=⟨_,rfl⟩
   rw [← hW2]
   have HB2:Hid (Below wr.heap.size wr W2):=by show Below _ _ _;rw [hW2];exact HB1.out.alloc HB1.out.size _
   rw [HM4.out]
   refine Calls.mono (HNO'.out W2) ?_
   rintro e w3 ⟨hb3,a2,ai2,ac2,a3,ai3,ac3,a4,ai4,ac4,a5,ai5,ac5,a6,ai6,ac6,rfl,HN3⟩
   have HB3:Hid (Below wr.heap.size wr w3):=HB2.out.trans (hb3.mono HB2.out.size)
   clear hb3 hW2 x0 y0 HNO'
   generalize hnm:nmOf j=nm at *
   have HNM:Hid (nmOf j=nm):=hnm
   clear hnm
   have hsz:=HB3.out.size
   obtain ⟨W4,hW4⟩:∃ W4,W4=w3.alloc (.cells #[.string nm,.string ⟨#[99]⟩,.slice a2 ai2 ac2,.slice a3 ai3 ac3,.slice a4 ai4 ac4,.slice a5 ai5 ac5,.int .i64 0,.int .i64 0,.int .i64 0,.int .i64 0,.int .i64 1000,.slice a6 ai6 ac6] 51):=⟨_,rfl⟩
   have hb4:Below w3.heap.size w3 W4:=by rw [hW4];exact (Below.refl _ _).alloc (Nat.le_refl _) _
   have hg4:W4.heap[w3.heap.size]?=some (.cells #[.string nm,.string ⟨#[99]⟩,.slice a2 ai2 ac2,.slice a3 ai3 ac3,.slice a4 ai4 ac4,.slice a5 ai5 ac5,.int .i64 0,.int .i64 0,.int .i64 0,.int .i64 0,.int .i64 1000,.slice a6 ai6 ac6] 51 (0,0)):=by rw [hW4];exact heap_alloc_new w3 _
   have HB4:Hid (Below wr.heap.size wr W4):=HB3.out.trans (hb4.mono HB3.out.size)
   have HBW:Hid (Below w.heap.size w W4):=HB.out.1.trans (HB4.out.mono HB.out.1.size)
   have HG4:=(HG.out.below HB4.out)
   have hrow:W4.ownsRow (w.heap.size+1) 51 12 (.slice a j c) j (nfl L):=by have h:=HG4.row;rw [HL.out.2] at h;exact h
   have HO4:Hid (NdOwn (w.heap.size+1) W4 (sixN j) (.slice a2 ai2 ac2) (.slice a3 ai3 ac3) (.slice a4 ai4 ac4) (.slice a5 ai5 ac5) (.slice a6 ai6 ac6)∧NdOk (sixN j)):=⟨(HN3.out.1.below hb4).mono (by have:=HB2.out.size;have:=HB.out.1.size;have:=(Array.getElem?_eq_some_iff.1 HB.out.2).1;omega),HN3.out.2⟩
   have HOO:Hid (∀ x∈L,NdOwn (w.heap.size+1) W4 x.n x.vm x.vr x.vs x.vg x.vw∧NdOk x.n):=HG4.own
   obtain ⟨p0,p1,p2,p3,p4,p5,p6,p7,p8,p9,p10,p11⟩:=cells12 hg4
   have HZ4:Hid (W4.heap[w.heap.size]?=some (.cells #[.slice none 0 0,.slice none 0 0] 25 (0,0))):=(HB4.out.block _ (Array.getElem?_eq_some_iff.1 HB.out.2).1).trans HB.out.2
   have hbs:w.heap.size+1≤W4.heap.size:=by have:=HB4.out.size;have:=(Array.getElem?_eq_some_iff.1 HB.out.2).1;omega
   clear hb4 hg4 HG4 HN3
   go_upto_region 7 with fail
   rw [← hW4]
   clear hW4
   have HRB:Hid (∀ b,(Value.slice a j c).ownBlock=some b→∃ cs,W4.heap[b]?=some (.cells cs 51 (0,0))):=fun b e=>(row_block hrow e).2
   have HRL:Hid (∀ b,(Value.slice a j c).ownBlock=some b→w.heap.size+1≤b):=fun b e=>(row_block hrow e).1
   have h63:j+1≤maxLen:=by unfold maxLen;omega
   have hbt:(j+1) * 192≤140737488355328:=by omega
   go_wp2_with (at_builtin;refine wpList_append_lies _ rfl _ _ 22 rfl (w.heap.size+1) 51 i0 _ 12 192 Tryz.underlying22 hi0 hz0 hzs hzb rfl (by omega) (.slice a j c) j (nfl L) rfl (World.ownsRow.alloc hrow _) ⟨W4.heap.size,0,none⟩ 1 1 [.string nm,.string ⟨#[99]⟩,.slice a2 ai2 ac2,.slice a3 ai3 ac3,.slice a4 ai4 ac4,.slice a5 ai5 ac5,.int .i64 0,.int .i64 0,.int .i64 0,.int .i64 0,.int .i64 1000,.slice a6 ai6 ac6] rfl rfl (World.news_of_block (cs:=#[.string nm,.string ⟨#[99]⟩,.slice a2 ai2 ac2,.slice a3 ai3 ac3,.slice a4 ai4 ac4,.slice a5 ai5 ac5,.int .i64 0,.int .i64 0,.int .i64 0,.int .i64 0,.int .i64 1000,.slice a6 ai6 ac6]) (t:=51) (fr:=(0,0)) (heap_alloc_new W4 _)) (by simp [Value.oneCell']) (by omega) h63 hbt (by simp;omega) (W4.heap.size+1) (by simp) ?_;intro gg cap w5 hown hgrow hat hlt5)
   have hbA:Below W4.heap.size W4 (W4.alloc (.cells #[.string nm,.string ⟨#[99]⟩,.slice a2 ai2 ac2,.slice a3 ai3 ac3,.slice a4 ai4 ac4,.slice a5 ai5 ac5,.int .i64 0,.int .i64 0,.int .i64 0,.int .i64 0,.int .i64 1000,.slice a6 ai6 ac6] 51)):=(Below.refl _ _).alloc (Nat.le_refl _) _
   have HGR:Hid (Grw (w.heap.size+1) w5 (.slice (some ⟨gg,0,none⟩) (j+1) cap) (L++[⟨sixN j,.slice a2 ai2 ac2,.slice a3 ai3 ac3,.slice a4 ai4 ac4,.slice a5 ai5 ac5,.slice a6 ai6 ac6⟩])):=by
    have hrb:∀ b,(Value.slice a j c).ownBlock=some b→∃ cs,(W4.alloc (.cells #[.string nm,.string ⟨#[99]⟩,.slice a2 ai2 ac2,.slice a3 ai3 ac3,.slice a4 ai4 ac4,.slice a5 ai5 ac5,.int .i64 0,.int .i64 0,.int .i64 0,.int .i64 0,.int .i64 1000,.slice a6 ai6 ac6] 51)).heap[b]?=some (.cells cs 51 (0,0)):=fun b e=>by
     obtain ⟨cs,h2⟩:=HRB.out b e
     exact ⟨cs,(hbA.block b (Array.getElem?_eq_some_iff.1 h2).1).trans h2⟩
    refine ⟨?_,fun x hx=>?_⟩
    ·have hl:(L++[(⟨sixN j,.slice a2 ai2 ac2,.slice a3 ai3 ac3,.slice a4 ai4 ac4,.slice a5 ai5 ac5,.slice a6 ai6 ac6⟩:Nx)]).length=j+1:=by rw [List.length_append,HL.out.2];rfl
     rw [hl,nfl_app,nfl_one]
     have hcs:(⟨sixN j,.slice a2 ai2 ac2,.slice a3 ai3 ac3,.slice a4 ai4 ac4,.slice a5 ai5 ac5,.slice a6 ai6 ac6⟩:Nx).cs=[.string nm,.string ⟨#[99]⟩,.slice a2 ai2 ac2,.slice a3 ai3 ac3,.slice a4 ai4 ac4,.slice a5 ai5 ac5,.int .i64 0,.int .i64 0,.int .i64 0,.int .i64 0,.int .i64 1000,.slice a6 ai6 ac6]:=by rw [← HNM.out];rfl
     rw [hcs]
     exact hown
    ·rcases List.mem_append.1 hx with h1 | h1
     ·exact ⟨((HOO.out x h1).1.below hbA).grown hgrow hrb,(HOO.out x h1).2⟩
     ·rw [List.mem_singleton] at h1
      subst h1
      exact ⟨(HO4.out.1.below hbA).grown hgrow hrb,HO4.out.2⟩
   have HLL:Hid ((L++[(⟨sixN j,.slice a2 ai2 ac2,.slice a3 ai3 ac3,.slice a4 ai4 ac4,.slice a5 ai5 ac5,.slice a6 ai6 ac6⟩:Nx)]).map (·.n)=(List.range (j+1)).map sixN∧(L++[(⟨sixN j,.slice a2 ai2 ac2,.slice a3 ai3 ac3,.slice a4 ai4 ac4,.slice a5 ai5 ac5,.slice a6 ai6 ac6⟩:Nx)]).length=j+1):=⟨by rw [List.map_append,HL.out.1,List.range_succ,List.map_append];rfl,by rw [List.length_append,HL.out.2];rfl⟩
   have hlw:w.heap.size < W4.heap.size:=(Array.getElem?_eq_some_iff.1 HZ4.out).1
   have HBF:Hid (Below w.heap.size w w5∧w5.heap[w.heap.size]?=some (.cells #[.slice none 0 0,.slice none 0 0] 25 (0,0))):=⟨(HBW.out.trans (hbA.mono HBW.out.size)).grown hgrow (by simp;omega) (fun b e=>by have:=HRL.out b e;omega),((hgrow.block _ (by simp;omega) (fun e=>by have:=HRL.out _ e.symm;omega)).trans (hbA.block _ hlw)).trans HZ4.out⟩
   clear hown hgrow hat hlt5 hbA hrow p0 p1 p2 p3 p4 p5 p6 p7 p8 p9 p10 p11 HOO HO4 HZ4 HBW HB4 HB3 HB2 HB1 HRB HRL HL HG HB hlw hbs
   go_wp2_with fail
   go_roundw
   case rel=>exact ⟨j+1,_,some ⟨gg,0,none⟩,cap,by omega,by go_num,rfl,HLL,HGR,HBF⟩
   case measure=>simp [intOf];omega
  ·have hd:decide ((j:Int) < 1+(k:Int))=false:=decide_eq_false (by omega)
   have hjk:j=k+1:=by omega
   have hN:=HG.out.nsl
   rw [HL.out.1,hjk] at hN
   have HC:=HNW.out wr _ HB.out.1 hN
   rw [← hjk] at HC
   have HJK:Hid (j=k+1):=hjk
   clear HG HL hN HNW HC0 hjk
   go_wp2_with fail
   refine (HCH.out wr).mono ?_
   rintro e w' ⟨rfl,hw'⟩
   have hw2':=hw'.symm
   subst hw2'
   go_wp2_with fail
   refine Calls.mono HC ?_
   rintro e w1 ⟨hb1,a1,l1,c1,d1,m1,q1,rfl,HN1⟩
   have HB1:Hid (Below w.heap.size w w1):=HB.out.1.trans (hb1.mono HB.out.1.size)
   have hz1:w1.heap[w.heap.size]?=some (.cells #[.slice none 0 0,.slice none 0 0] 25 (0,0)):=(hb1.block _ (Array.getElem?_eq_some_iff.1 HB.out.2).1).trans HB.out.2
   have hlt1:w.heap.size < wr.heap.size:=(Array.getElem?_eq_some_iff.1 HB.out.2).1
   clear hb1 HC HB HCH
   obtain ⟨W2,hW2⟩:∃ W2,W2=w1.alloc (.cells #[.slice a1 l1 c1,.slice d1 m1 q1] 25):=⟨_,rfl⟩
   have hb2:Below w1.heap.size w1 W2:=by rw [hW2];exact (Below.refl _ _).alloc (Nat.le_refl _) _
   have hg2:W2.heap[w1.heap.size]?=some (.cells #[.slice a1 l1 c1,.slice d1 m1 q1] 25 (0,0)):=by rw [hW2];exact heap_alloc_new w1 _
   have hz2:W2.heap[w.heap.size]?=some (.cells #[.slice none 0 0,.slice none 0 0] 25 (0,0)):=(hb2.block _ (Array.getElem?_eq_some_iff.1 hz1).1).trans hz1
   obtain ⟨W3,hW3⟩:∃ W3,W3=setAll w.heap.size [.slice a1 l1 c1,.slice d1 m1 q1] 0 W2:=⟨_,rfl⟩
   have hk3:W3.heap[w.heap.size]?=some (.cells #[.slice a1 l1 c1,.slice d1 m1 q1] 25 (0,0)):=by rw [hW3];exact setAll_block [.slice a1 l1 c1,.slice d1 m1 q1] [] [.slice none 0 0,.slice none 0 0] hz2 rfl
   have HRES:Hid (Below w.heap.size w W3∧NtIs W3 ⟨(List.range (k+1)).map sixN,[]⟩ (.slice a1 l1 c1) (.slice d1 m1 q1)):=by
    refine ⟨by rw [hW3];exact setAll_below (Nat.le_refl _) _ _ (HB1.out.trans (hb2.mono HB1.out.size)),by rw [← HJK.out];exact ((HN1.out.keep (w':=W2) (fun q hq hl=>hb2.block q hl)).keep (w':=W3) (fun q hq _=>by rw [hW3];exact setAll_other (by omega) _ _ _)).is (fun l hl=>by cases hl)⟩
   have x0:W2.cell? ⟨w1.heap.size,0,none⟩=some (.slice a1 l1 c1):=cellsAt hg2 0
   have x1:W2.cell? ⟨w1.heap.size,1,none⟩=some (.slice d1 m1 q1):=cellsAt hg2 1
   have g0:W2.cell? ⟨w.heap.size,0,none⟩=some (.slice none 0 0):=cellsAt hz2 0
   have g1:W2.cell? ⟨w.heap.size,1,none⟩=some (.slice none 0 0):=cellsAt hz2 1
   have f0:W2.frozen? ⟨w.heap.size,0,none⟩=false:=frozen_of hz2 0
   have f1:W2.frozen? ⟨w.heap.size,1,none⟩=false:=frozen_of hz2 1
   have q0:W3.cell? ⟨w.heap.size,0,none⟩=some (.slice a1 l1 c1):=cellsAt hk3 0
   have q1':W3.cell? ⟨w.heap.size,1,none⟩=some (.slice d1 m1 q1):=cellsAt hk3 1
   clear hb2 hg2 hz2 hz1 hk3 HN1 HB1 hlt1
   go_upto_region 11 with fail
   rw [← hW2]
   clear hW2
   go_wp2_with fail
   simp only [setAll,Nat.zero_add] at hW3
   rw [← hW3]
   clear hW3 x0 x1 g0 g1 f0 f1
   exact bodyPost_ret (v:=.tuple #[.agg #[.slice a1 l1 c1,.slice d1 m1 q1],.bool true]) (by simp [results,Tryz.results14,go_sem,q0,q1']) rfl ⟨HRES.out.1,_,_,_,_,_,_,rfl,HRES.out.2⟩
def evZ (kd wh ot:Int) (nm:ByteArray):Ev:=⟨kd,wh,ot,0,nm,⟨0,0,0,0,0⟩,⟨⟨#[]⟩,⟨#[]⟩,⟨#[]⟩,⟨#[]⟩,0,0,false,0,false⟩⟩
theorem pT_list {p:Pk} (h:p.e=0):p.T.data.toList=p.B:=by unfold Pk.T;rw [if_pos h]
theorem pT_rd {p:Pk} (h:p.e=0):rdR p.T.data.toList=some p:=by rw [pT_list h];exact rdR_some.2 ⟨rfl,h⟩
theorem lt_right {p:Pk} (h:p.e=0) {k n:Nat} (hk:k < n):ltE n ⟨(k:Int),p.T⟩=0:=by
 unfold ltE
 simp only [pT_rd h,within_nat hk]
 rfl
def two (x y:Nd) (m:Nat) (ls:List Lt.Ltr):Nt:=⟨x :: y :: trRs.take m,ls⟩
theorem two_len (m:Nat) (hm:m≤4) (x y:Nd):(x :: y :: trRs.take m).length=m+2:=by
 have:(trRs.take m).length=m:=by rw [List.length_take];exact Nat.min_eq_left hm
 simp [this]
theorem two_nl (m:Nat) (hm:m≤4) (x y:Nd) (ls:List Lt.Ltr):(two x y m ls).ns.length=m+2:=two_len m hm x y
theorem two_e0 (m:Nat) (hm:m≤4) {x y:Nd} (hx:x.e=0) (hy:y.e=0) (nx:x.name=trA.name) (ny:y.name=trB.name):(two x y m []).e=0:=by
 unfold two
 rw [Nt.e_letters (by rw [two_len m hm];simp;omega) (chkN_two (tr_c0 m) hx hy nx ny)]
 rfl
theorem two_e1 (m:Nat) (hm:m≤4) {x y:Nd} {p:Pk} {k:Nat} (hk:k < 2) (hx:x.e=0) (hy:y.e=0) (nx:x.name=trA.name) (ny:y.name=trB.name) (hp:p.e=0):(two x y m [⟨(k:Int),p.T⟩]).e=0:=by
 unfold two
 rw [Nt.e_letters (by rw [two_len m hm];simp;omega) (chkN_two (tr_c0 m) hx hy nx ny)]
 exact if_pos (by rw [two_len m hm];exact lt_right hp (by omega))
theorem short0 (x y:Nd) (m:Nat):(two x y m []).Short:=fun _ l hl=>by cases hl
theorem short1 (x y:Nd) (m:Nat) {to_:Int} {p:Pk} (h:p.e=0) (hB:p.B.length≤1000):(two x y m [⟨to_,p.T⟩]).Short:=fun _ l hl=>by
 rw [show (two x y m [⟨to_,p.T⟩]).ls=[⟨to_,p.T⟩] from rfl,List.mem_singleton] at hl
 subst hl
 show p.T.size≤_
 rw [bsize,pT_list h]
 omega
theorem wr_of {p:Pk} (hz:p.sv.length+p.gw.length+p.wh.length≤4611686018427387904):∀ W zm zs zg zw,Tab W.heap.size W→PkIs W p zm zs zg zw→Calls Tryz.prog 221 #[.agg #[.string p.frm,.bool p.whole,zm,zs,zg,zw]] W fun e w'=>e=.returned (.tuple #[.string p.T,.int .i64 p.e])∧Below W.heap.size W w':=fun W zm zs zg zw hT hx=>pwrite_any p zm zs zg zw W hx (.inr hz) hT
theorem t_whole (m:Nat) (hm:m≤4) (vn vl:Value) (w:World) (hV:Rv w.heap.size w) (h:NtIs w (two trA trB m []) vn vl) :
 Calls Tryz.prog 16 #[.agg #[vn,vl],.agg (evA (evZ 2 1 0 ⟨#[]⟩))] w (StepSays w (two trA trB m [⟨0,(wholeP trB).T⟩])):=
 step_whole (two trA trB m []) vn vl (evZ 2 1 0 ⟨#[]⟩) w 1 0 hV h (short0 _ _ _) (two_e0 m hm tr_eA tr_eB rfl rfl) rfl rfl (by rw [two_nl m hm];omega) rfl (by rw [two_nl m hm];omega) (show 0 < 20 by omega) (wr_of (p:=wholeP trB) (by decide))
theorem t_come0 (m:Nat) (hm:m≤4) {x y x':Nd} {p:Pk} (vn vl:Value) (w:World) (hV:Rv w.heap.size w) (h:NtIs w (two x y m [⟨0,p.T⟩]) vn vl) (hx:x.e=0) (hy:y.e=0) (nx:x.name=trA.name) (ny:y.name=trB.name) (hp:p.e=0) (hB:p.B.length≤1000) (hh:hrE x p=0) (hx':hrN x p=x') (z1:x.sv=[]) (z2:x.gw=[]) (z3:p.sv=[]) (z4:p.gw=[]) (z5:p.wh=[]) :
 Calls Tryz.prog 16 #[.agg #[vn,vl],.agg (evA (evZ 3 0 0 ⟨#[]⟩))] w (StepSays w (two x' y m [])):=by
 have hs:=step_come (two x y m [⟨0,p.T⟩]) vn vl (evZ 3 0 0 ⟨#[]⟩) w 0 0 p hV h (short1 x y m hp hB) (two_e1 (k:=0) m hm (by omega) hx hy nx ny hp) rfl rfl (show 0 < 1 by omega) 0 p.T rfl rfl (by rw [two_nl m hm];omega) (pT_rd hp) (by rw [pT_list hp];omega) hh (fun W vm vr vs vg vw zm zs zg zw hI hX=>Hear_none x p zm zs zg zw vm vr vs vg vw W hI hX (.inr (by rw [z3,z4,z5];decide)) z1 z2 z3 z4 z5)
 rw [← hx']
 exact hs
theorem t_come1 (m:Nat) (hm:m≤4) {x y y':Nd} {p:Pk} (vn vl:Value) (w:World) (hV:Rv w.heap.size w) (h:NtIs w (two x y m [⟨1,p.T⟩]) vn vl) (hx:x.e=0) (hy:y.e=0) (nx:x.name=trA.name) (ny:y.name=trB.name) (hp:p.e=0) (hB:p.B.length≤1000) (hh:hrE y p=0) (hy':hrN y p=y') (z1:y.sv=[]) (z2:y.gw=[]) (z3:p.sv=[]) (z4:p.gw=[]) (z5:p.wh=[]) :
 Calls Tryz.prog 16 #[.agg #[vn,vl],.agg (evA (evZ 3 0 0 ⟨#[]⟩))] w (StepSays w (two x y' m [])):=by
 have hs:=step_come (two x y m [⟨1,p.T⟩]) vn vl (evZ 3 0 0 ⟨#[]⟩) w 0 1 p hV h (short1 x y m hp hB) (two_e1 (k:=1) m hm (by omega) hx hy nx ny hp) rfl rfl (show 0 < 1 by omega) 1 p.T rfl rfl (by rw [two_nl m hm];omega) (pT_rd hp) (by rw [pT_list hp];omega) hh (fun W vm vr vs vg vw zm zs zg zw hI hX=>Hear_none y p zm zs zg zw vm vr vs vg vw W hI hX (.inr (by rw [z3,z4,z5];decide)) z1 z2 z3 z4 z5)
 rw [← hy']
 exact hs
theorem t_doubt (m:Nat) (hm:m≤4) (vn vl:Value) (w:World) (hV:Rv w.heap.size w) (h:NtIs w (two trA1 trB m []) vn vl) :
 Calls Tryz.prog 16 #[.agg #[vn,vl],.agg (evA (evZ 6 0 0 ⟨#[98]⟩))] w (StepSays w (two trA2 trB m [])):=
 step_doubt (two trA1 trB m []) vn vl (evZ 6 0 0 ⟨#[98]⟩) w 0 trA2 hV h (short0 _ _ _) (two_e0 m hm tr_eA1 tr_eB (by kernel_rfl) rfl) rfl rfl (by rw [two_nl m hm];omega) (fun W vm vr vs vg vw hI=>by
  have hd:=Doubt_any trA1 ⟨#[98]⟩ vm vr vs vg vw W hI (by decide)
  rw [tr_w2] at hd
  exact hd)
theorem t_bury (m:Nat) (hm:m≤4) (vn vl:Value) (w:World) (hV:Rv w.heap.size w) (h:NtIs w (two trA2 trB m []) vn vl) :
 Calls Tryz.prog 16 #[.agg #[vn,vl],.agg (evA (evZ 7 0 0 ⟨#[98]⟩))] w (StepSays w (two trA3 trB m [])):=
 step_bury (two trA2 trB m []) vn vl (evZ 7 0 0 ⟨#[98]⟩) w 0 trA3 hV h (short0 _ _ _) (two_e0 m hm tr_eA2 tr_eB (by kernel_rfl) rfl) rfl rfl (by rw [two_nl m hm];omega) (fun W vm vr vs vg vw hI=>by
  have hd:=Bury_any trA2 ⟨#[98]⟩ vm vr vs vg vw W hI (by decide)
  rw [tr_w3] at hd
  exact hd)
theorem tl_of {n n':Nd} {mm:Mem} (he:n.e=0) (hr:n.rs=[⟨mm,0⟩]) (hn':n'={ n with rs:=restOf n mm }):∀ W vm vr vs vg vw,NdIs W n vm vr vs vg vw→Calls Tryz.prog 34 #[.agg (ndA n vm vr vs vg vw)] W fun e w'=>Below W.heap.size W w'∧∃ um ur us ug uw a k c,e=.returned (.tuple #[.agg (ndA n' um ur us ug uw),.agg #[.string n.name,.bool false,.slice a k c,.slice none 0 0,.slice none 0 0,.slice none 0 0],.int .i64 0])∧NdOwn W.heap.size w' n' um ur us ug uw∧NdOk n'∧Own W.heap.size w' (.slice a k c) [mm]:=fun W vm vr vs vg vw hI=>by
 refine (Tell_any n vm vr vs vg vw W hI).mono ?_
 rintro e w' ⟨hb,⟨hne,_⟩ | ⟨_,n2,um,ur,us,ug,uw,a,k,c,l,rfl,h1,h2,h3,h4,h5⟩⟩
 ·exact absurd he hne
 ·obtain ⟨h6,h7⟩:=tell_one hr h2
  have h8:n2=n':=by rw [hn',h1,h7]
  subst h8 h6
  exact ⟨hb,um,ur,us,ug,uw,a,k,c,rfl,h3,h4,h5⟩
theorem t_tell0 (m:Nat) (hm:m≤4) {x y x':Nd} {mm:Mem} (vn vl:Value) (w:World) (hV:Rv w.heap.size w) (h:NtIs w (two x y m []) vn vl) (hx:x.e=0) (hy:y.e=0) (nx:x.name=trA.name) (ny:y.name=trB.name) (hr:x.rs=[⟨mm,0⟩]) (hx':x'={ x with rs:=restOf x mm }) (hmn:mm.name.size≤maxLen) :
 Calls Tryz.prog 16 #[.agg #[vn,vl],.agg (evA (evZ 1 0 1 ⟨#[]⟩))] w (StepSays w (two x' y m [⟨1,(tellP x.name [mm]).T⟩])):=
 step_tell (two x y m []) vn vl (evZ 1 0 1 ⟨#[]⟩) w 0 1 x' [mm] hV h (short0 _ _ _) (two_e0 m hm hx hy nx ny) rfl rfl (by rw [two_nl m hm];omega) rfl (by rw [two_nl m hm];omega) (show 0 < 20 by omega) (fun q hq=>by rw [List.mem_singleton] at hq;subst hq;exact hmn) (tl_of hx hr hx') (wr_of (p:=tellP x.name [mm]) (show 0≤_ by omega))
theorem t_tell1 (m:Nat) (hm:m≤4) {x y y':Nd} {mm:Mem} (vn vl:Value) (w:World) (hV:Rv w.heap.size w) (h:NtIs w (two x y m []) vn vl) (hx:x.e=0) (hy:y.e=0) (nx:x.name=trA.name) (ny:y.name=trB.name) (hr:y.rs=[⟨mm,0⟩]) (hy':y'={ y with rs:=restOf y mm }) (hmn:mm.name.size≤maxLen) :
 Calls Tryz.prog 16 #[.agg #[vn,vl],.agg (evA (evZ 1 1 0 ⟨#[]⟩))] w (StepSays w (two x y' m [⟨0,(tellP y.name [mm]).T⟩])):=
 step_tell (two x y m []) vn vl (evZ 1 1 0 ⟨#[]⟩) w 1 0 y' [mm] hV h (short0 _ _ _) (two_e0 m hm hx hy nx ny) rfl rfl (by rw [two_nl m hm];omega) rfl (by rw [two_nl m hm];omega) (show 0 < 20 by omega) (fun q hq=>by rw [List.mem_singleton] at hq;subst hq;exact hmn) (tl_of hy hr hy') (wr_of (p:=tellP y.name [mm]) (show 0≤_ by omega))
def topEv:Bool→List Ev
 | false=>[evZ 2 1 0 ⟨#[]⟩,evZ 3 0 0 ⟨#[]⟩,evZ 6 0 0 ⟨#[98]⟩,evZ 1 0 1 ⟨#[]⟩,evZ 3 0 0 ⟨#[]⟩,evZ 1 1 0 ⟨#[]⟩,evZ 3 0 0 ⟨#[]⟩]
 | true=>[evZ 2 1 0 ⟨#[]⟩,evZ 3 0 0 ⟨#[]⟩,evZ 6 0 0 ⟨#[98]⟩,evZ 7 0 0 ⟨#[98]⟩,evZ 1 0 1 ⟨#[]⟩,evZ 3 0 0 ⟨#[]⟩,evZ 1 1 0 ⟨#[]⟩,evZ 3 0 0 ⟨#[]⟩]
def topEnd (b:Bool) (m:Nat):List Nt:=[two (trX2 b) trB m [⟨1,(tellP ⟨#[97]⟩ [trM b]).T⟩],two (trX2 b) (trB1 b) m [],two (trX2 b) (trB2 b) m [⟨0,(tellP ⟨#[98]⟩ [trL]).T⟩],two (trZ b) (trB2 b) m []]
def topSt (b:Bool) (m:Nat):List Nt:=[two trA trB m [],two trA trB m [⟨0,(wholeP trB).T⟩],two trA1 trB m [],two trA2 trB m []]++((if b=true then [two trA3 trB m []] else [])++topEnd b m)
theorem tr_nX2:∀ b,(trX2 b).name=trA.name
 | true=>by kernel_rfl
 | false=>by kernel_rfl
theorem tr_nB1:∀ b,(trB1 b).name=trB.name
 | true=>by kernel_rfl
 | false=>by kernel_rfl
theorem tr_nX:∀ b,(trX b).name=trA.name
 | true=>by kernel_rfl
 | false=>by kernel_rfl
theorem tr_bB:(wholeP trB).B.length≤1000:=of_decide_eq_true (by kernel_rfl)
theorem tr_bX:∀ b,(tellP ⟨#[97]⟩ [trM b]).B.length≤1000
 | true=>of_decide_eq_true (by kernel_rfl)
 | false=>of_decide_eq_true (by kernel_rfl)
theorem tr_bL:(tellP ⟨#[98]⟩ [trL]).B.length≤1000:=of_decide_eq_true (by kernel_rfl)
theorem tr_svX:∀ b,(trX2 b).sv=[]∧(trX2 b).gw=[]
 | true=>⟨by kernel_rfl,by kernel_rfl⟩
 | false=>⟨by kernel_rfl,by kernel_rfl⟩
theorem top_tell (b:Bool) (m:Nat) (hm:m≤4) (vn vl:Value) (w:World) (hV:Rv w.heap.size w) (h:NtIs w (two (trX b) trB m []) vn vl) :
 Calls Tryz.prog 16 #[.agg #[vn,vl],.agg (evA (evZ 1 0 1 ⟨#[]⟩))] w (StepSays w (two (trX2 b) trB m [⟨1,(tellP ⟨#[97]⟩ [trM b]).T⟩])):=by
 have hs:=t_tell0 m hm (x:=trX b) (x':=trX2 b) (mm:=trM b) vn vl w hV h (tr_eX b) tr_eB (tr_nX b) rfl (tr_rX b) rfl (by show (1:Nat)≤maxLen;decide)
 rw [tr_nX b] at hs
 exact hs
theorem top_hear (b:Bool) (m:Nat) (hm:m≤4) (vn vl:Value) (w:World) (hV:Rv w.heap.size w) (h:NtIs w (two (trX2 b) trB m [⟨1,(tellP ⟨#[97]⟩ [trM b]).T⟩]) vn vl) :
 Calls Tryz.prog 16 #[.agg #[vn,vl],.agg (evA (evZ 3 0 0 ⟨#[]⟩))] w (StepSays w (two (trX2 b) (trB1 b) m [])):=
 t_come1 m hm vn vl w hV h (tr_eX2 b) tr_eB (tr_nX2 b) rfl (tr_pX b) (tr_bX b) (tr_hB b) rfl rfl rfl rfl rfl rfl
theorem top_back (b:Bool) (m:Nat) (hm:m≤4) (vn vl:Value) (w:World) (hV:Rv w.heap.size w) (h:NtIs w (two (trX2 b) (trB1 b) m []) vn vl) :
 Calls Tryz.prog 16 #[.agg #[vn,vl],.agg (evA (evZ 1 1 0 ⟨#[]⟩))] w (StepSays w (two (trX2 b) (trB2 b) m [⟨0,(tellP ⟨#[98]⟩ [trL]).T⟩])):=by
 have hs:=t_tell1 m hm (y:=trB1 b) (y':=trB2 b) (mm:=trL) vn vl w hV h (tr_eX2 b) (tr_eB1 b) (tr_nX2 b) (tr_nB1 b) (tr_rB b) rfl (by show (1:Nat)≤maxLen;decide)
 rw [tr_nB1 b] at hs
 exact hs
theorem top_last (b:Bool) (m:Nat) (hm:m≤4) (vn vl:Value) (w:World) (hV:Rv w.heap.size w) (h:NtIs w (two (trX2 b) (trB2 b) m [⟨0,(tellP ⟨#[98]⟩ [trL]).T⟩]) vn vl) :
 Calls Tryz.prog 16 #[.agg #[vn,vl],.agg (evA (evZ 3 0 0 ⟨#[]⟩))] w (StepSays w (two (trZ b) (trB2 b) m [])):=
 t_come0 m hm vn vl w hV h (tr_eX2 b) (tr_eB2 b) (tr_nX2 b) (tr_nB1 b) tr_pL tr_bL (tr_hZ b) rfl (tr_svX b).1 (tr_svX b).2 rfl rfl rfl
theorem top_step (m:Nat) (hm:m≤4):∀ (b:Bool) (k:Nat),k < (topEv b).length→∀ (vn vl:Value) (w:World),Rv w.heap.size w→NtIs w ((topSt b m).getD k ⟨[],[]⟩) vn vl →
 Calls Tryz.prog 16 #[.agg #[vn,vl],.agg (evA ((topEv b).getD k (evZ 0 0 0 ⟨#[]⟩)))] w (StepSays w ((topSt b m).getD (k+1) ⟨[],[]⟩))
 | false,0,_,vn,vl,w,hV,h=>t_whole m hm vn vl w hV h
 | true,0,_,vn,vl,w,hV,h=>t_whole m hm vn vl w hV h
 | false,1,_,vn,vl,w,hV,h=>t_come0 m hm vn vl w hV h tr_eA tr_eB rfl rfl tr_pB tr_bB tr_h1 rfl rfl rfl rfl rfl rfl
 | true,1,_,vn,vl,w,hV,h=>t_come0 m hm vn vl w hV h tr_eA tr_eB rfl rfl tr_pB tr_bB tr_h1 rfl rfl rfl rfl rfl rfl
 | false,2,_,vn,vl,w,hV,h=>t_doubt m hm vn vl w hV h
 | true,2,_,vn,vl,w,hV,h=>t_doubt m hm vn vl w hV h
 | true,3,_,vn,vl,w,hV,h=>t_bury m hm vn vl w hV h
 | false,3,_,vn,vl,w,hV,h=>top_tell false m hm vn vl w hV h
 | true,4,_,vn,vl,w,hV,h=>top_tell true m hm vn vl w hV h
 | false,4,_,vn,vl,w,hV,h=>top_hear false m hm vn vl w hV h
 | true,5,_,vn,vl,w,hV,h=>top_hear true m hm vn vl w hV h
 | false,5,_,vn,vl,w,hV,h=>top_back false m hm vn vl w hV h
 | true,6,_,vn,vl,w,hV,h=>top_back true m hm vn vl w hV h
 | false,6,_,vn,vl,w,hV,h=>top_last false m hm vn vl w hV h
 | true,7,_,vn,vl,w,hV,h=>top_last true m hm vn vl w hV h
 | false,k+7,hk,_,_,_,_,_=>absurd hk (by show ¬ k+7 < 7;omega)
 | true,k+8,hk,_,_,_,_,_=>absurd hk (by show ¬ k+8 < 8;omega)
theorem six_two:∀ m,m≤4→(List.range (m+2)).map sixN=trA :: trB :: trRs.take m
 | 0,_=>by rfl
 | 1,_=>by rfl
 | 2,_=>by rfl
 | 3,_=>by rfl
 | 4,_=>by rfl
 | m+5,h=>absurd h (by omega)
theorem begunT_any (m:Nat) (hm:m≤4) (w:World) (hV:Rv w.heap.size w) :
 Calls Tryz.prog 14 #[.int .i64 ((m+1:Nat):Int),.int .i64 0] w fun e w'=>Below w.heap.size w w'∧∃ a c d q l,e=.returned (.tuple #[.agg #[.slice a (m+2) c,.slice d l q],.bool true])∧Hid (NtIs w' (two trA trB m []) (.slice a (m+2) c) (.slice d l q)):=by
 refine (begunN_any (m+1) (by omega) w hV (by
  have h:=two_e0 m hm tr_eA tr_eB rfl rfl
  unfold two at h
  rw [← six_two m hm] at h
  exact h)).mono ?_
 rintro e w' ⟨hb,a,l,c,d,l2,q,rfl,HN⟩
 have hN:NtIs w' (two trA trB m []) (.slice a l c) (.slice d l2 q):=by
  have h:=HN.out
  rw [show m+1+1=m+2 from rfl,six_two m hm] at h
  exact h
 obtain ⟨a0,c0,e0,_⟩:=hN.ns
 have hl:l=m+2:=by
  have h:=two_nl m hm trA trB []
  rw [h] at e0
  simp only [Value.slice.injEq] at e0
  exact e0.2.1
 subst hl
 exact ⟨hb,a,c,d,q,l2,rfl,hN⟩
theorem exec_load_mid {P:Program} {a:Act} {o:Oper} {W:World} (ty:TypeId) (x:Operand) (ho:o.op=.load ty x) (b off:Nat) (hx:a.eval x=.pointer (some ⟨b,off,none⟩)) (cs:List Value) (d:TypeDesc) (hc:W.rangeAt b off cs) (hu:P.underlying ty=some d) (hd:d.isRow=true) (hi:(P.info? ty).map (·.size)=some cs.length):(execOp a.eval o).run P W=.ok (.value (.agg cs.toArray)) W:=by
 unfold execOp
 simp only [ho,hx,run_loadAt_mid W b off ty cs d hc hu hd hi,Sem.run_bind,Sem.run_pure,Result.andThen_ok]
def evCs (l:List Ev):List Value:=l.flatMap fun v=>(evA v).toList
theorem evA_len (v:Ev):(evA v).toList.length=19:=rfl
theorem evCs_get (l:List Ev) (d:Ev) (k:Nat) (hk:k < l.length) (i:Nat) (hi:i < 19):(evCs l)[k * 19+i]?=(evA (l.getD k d)).toList[i]?:=by
 induction l generalizing k with
 | nil=>simp at hk
 | cons v r ih=>
   have e:evCs (v :: r)=(evA v).toList++evCs r:=by simp [evCs]
   rw [e]
   cases k with
   | zero=>rw [List.getElem?_append_left (by rw [evA_len];omega)];simp
   | succ k=>
     rw [List.getElem?_append_right (by rw [evA_len];omega),evA_len,show (k+1) * 19+i - 19=k * 19+i by omega,ih k (by simpa using hk)]
     simp
theorem choose_five (c:Int) (w:World) (hc : -9223372036854775808≤c) (hc2:c≤9223372036854775807) :
 Calls Tryz.prog 15 #[.int .i64 c,.int .i64 5] w fun e w'=>∃ m:Nat,m≤4∧e=.returned (.int .i64 (m:Int))∧w'=w:=by
 by_cases h:c < 0
 ·have h1:IntKind.i64.wrap (c+1)=c+1:=by rw [IntKind.wrap_i64];omega
  have h2:IntKind.i64.wrap (-(c+1)) = -(c+1):=by rw [IntKind.wrap_i64];omega
  have h3:0≤(-(c+1)).tmod 5:=Int.tmod_nonneg _ (by omega)
  have h4:(-(c+1)).tmod 5 < 5:=Int.tmod_lt_of_pos _ (by omega)
  have h5:IntKind.i64.wrap ((-(c+1)).tmod 5)=(-(c+1)).tmod 5:=by rw [IntKind.wrap_i64];omega
  go_enter Tryz.func15,Tryz.ntmps15
  go_wp2_with fail
  go_ret
  exact ⟨((-(c+1)).tmod 5).toNat,by omega,by rw [Int.toNat_of_nonneg h3,← Int.neg_tmod];rfl,rfl⟩
 ·have h3:0≤c.tmod 5:=Int.tmod_nonneg _ (by omega)
  have h4:c.tmod 5 < 5:=Int.tmod_lt_of_pos _ (by omega)
  have h5:IntKind.i64.wrap (c.tmod 5)=c.tmod 5:=by rw [IntKind.wrap_i64];omega
  go_enter Tryz.func15,Tryz.ntmps15
  go_wp2_with fail
  go_ret
  exact ⟨(c.tmod 5).toNat,by omega,by rw [Int.toNat_of_nonneg h3,Int.tmod_eq_emod_of_nonneg (by omega)];rfl,rfl⟩
theorem two_cells {W:World} {x y:Nd} {m:Nat} {ls:List Lt.Ltr} {a:Option Addr} {k c:Nat} {vl:Value} (h:NtIs W (two x y m ls) (.slice a k c) vl):∃ nb off vm,a=some ⟨nb,off,none⟩∧nb < W.heap.size∧W.cell? ⟨nb,off+2,none⟩=some vm∧W.cell? ⟨nb,off+12,none⟩=some (.string y.name)∧Sl W vm x.ms:=by
 obtain ⟨a0,c0,e,h2⟩:=h.ns
 rcases h2 with h2 | ⟨nb,off,rfl,hl,hr⟩
 ·cases h2
 ·simp only [Value.slice.injEq] at e
  obtain ⟨rfl,_,_⟩:=e
  obtain ⟨vm,vr,vs,vg,vw,hI,hc⟩:=hr 0 (by simp [two])
  obtain ⟨um,ur,us,ug,uw,hJ,hd⟩:=hr 1 (by simp [two])
  exact ⟨nb,off,vm,rfl,hl,hc 2 (by omega),hd 0 (by omega),hI.ms⟩
def topN:Bool→Nat | true=>8 | false=>7
theorem top_len:∀ b,(topEv b).length=topN b
 | true=>rfl
 | false=>rfl
theorem ok1 {to_:Int} {p:Pk} (h:p.e=0) (hB:p.B.length≤1000):∀ l∈[(⟨to_,p.T⟩:Lt.Ltr)],l.ok:=fun l hl=>by
 rw [List.mem_singleton] at hl
 subst hl
 show _≤_
 rw [bsize,pT_list h]
 exact Nat.le_trans hB (by decide)
theorem ok0:∀ l∈([]:List Lt.Ltr),l.ok:=fun l hl=>by cases hl
theorem top_all (m:Nat) (hm:m≤4):∀ (b:Bool) (k:Nat),k≤topN b→((topSt b m).getD k ⟨[],[]⟩).ns.length=m+2∧∀ l∈((topSt b m).getD k ⟨[],[]⟩).ls,l.ok
 | false,0,_=>⟨two_nl m hm _ _ _,ok0⟩
 | false,1,_=>⟨two_nl m hm _ _ _,ok1 tr_pB tr_bB⟩
 | false,2,_=>⟨two_nl m hm _ _ _,ok0⟩
 | false,3,_=>⟨two_nl m hm _ _ _,ok0⟩
 | false,4,_=>⟨two_nl m hm _ _ _,ok1 (tr_pX false) (tr_bX false)⟩
 | false,5,_=>⟨two_nl m hm _ _ _,ok0⟩
 | false,6,_=>⟨two_nl m hm _ _ _,ok1 tr_pL tr_bL⟩
 | false,7,_=>⟨two_nl m hm _ _ _,ok0⟩
 | false,k+8,h=>absurd h (by show ¬ k+8≤7;omega)
 | true,0,_=>⟨two_nl m hm _ _ _,ok0⟩
 | true,1,_=>⟨two_nl m hm _ _ _,ok1 tr_pB tr_bB⟩
 | true,2,_=>⟨two_nl m hm _ _ _,ok0⟩
 | true,3,_=>⟨two_nl m hm _ _ _,ok0⟩
 | true,4,_=>⟨two_nl m hm _ _ _,ok0⟩
 | true,5,_=>⟨two_nl m hm _ _ _,ok1 (tr_pX true) (tr_bX true)⟩
 | true,6,_=>⟨two_nl m hm _ _ _,ok0⟩
 | true,7,_=>⟨two_nl m hm _ _ _,ok1 tr_pL tr_bL⟩
 | true,8,_=>⟨two_nl m hm _ _ _,ok0⟩
 | true,k+9,h=>absurd h (by show ¬ k+9≤8;omega)
theorem at_two {r:Int} (h:AtF [⟨⟨#[97]⟩,1,1,0,true⟩,trL] ⟨#[98]⟩ r):r=1:=by
 have hf:fstM [⟨⟨#[97]⟩,1,1,0,true⟩,trL] ⟨#[98]⟩=some trL:=by kernel_rfl
 rcases h with ⟨k,hk,rfl,he⟩ | ⟨_,he⟩
 ·rw [hf] at he
  match k,hk,he with
  | 0,_,he=>exact absurd (congrArg Mem.life (Option.some.inj he)) (by decide)
  | 1,_,_=>rfl
  | k+2,hk,_=>simp at hk;omega
 ·rw [hf] at he;cases he
def EvAt (W:World) (G:Nat) (l:List Ev):Prop:=∀ j u,(evCs l)[j]?=some u→W.cell? ⟨G,j,none⟩=some u
theorem EvAt.range {W:World} {G:Nat} {l:List Ev} (h:EvAt W G l) (d:Ev) {k:Nat} (hk:k < l.length):W.rangeAt G (k * 19) (evA (l.getD k d)).toList:=fun i v hi=>by
 have hi2:i < 19:=by
  have:=(List.getElem?_eq_some_iff.1 hi).1
  rwa [evA_len] at this
 exact h _ _ (by rw [evCs_get l d k hk i hi2];exact hi)
theorem EvAt.keep {W W':World} {G:Nat} {l:List Ev} (h:EvAt W G l) (hb:W'.heap[G]?=W.heap[G]?):EvAt W' G l:=fun j u hj=>(World.cell?_of_block (a:=⟨G,j,none⟩) hb).trans (h j u hj)
theorem EvAt.of {W:World} {G:Nat} {l:List Ev} (h:W.heap[G]?=some (.cells (evCs l).toArray 44 (0,0))):EvAt W G l:=fun j u hj=>by
 rw [cellsAt h,List.getElem?_toArray];exact hj
def eA3:List Value:=evCs ((topEv false).take 3)
def eA4:List Value:=evCs ((topEv false).drop 3)
def eA1:List Value:=evCs [evZ 7 0 0 ⟨#[98]⟩]
theorem ev_old:evCs (topEv false)=eA3++eA4:=by kernel_rfl
theorem ev_new:evCs (topEv true)=eA3++(eA1++eA4):=by kernel_rfl
theorem eA3_len:eA3.length=57:=by kernel_rfl
theorem eA4_len:eA4.length=76:=by kernel_rfl
theorem ev41_one:∀ u∈eA1++eA4,u.oneCell'=true:=by
 have h:(eA1++eA4).all (fun u=>u.oneCell')=true:=by kernel_rfl
 exact fun u hu=>List.all_eq_true.1 h u hu
theorem ev4_one:∀ u∈eA4,u.oneCell'=true:=fun u hu=>ev41_one u (List.mem_append.2 (.inr hu))
theorem own_ev {X:World} {b base:Nat} (hX:X.heap[b]?=some (.cells #[.int .i64 7,.int .i64 0,.int .i64 0,.int .i64 0,.string ⟨#[98]⟩,.int .i64 0,.int .i64 0,.int .i64 0,.int .i64 0,.int .i64 0,.string ⟨#[]⟩,.string ⟨#[]⟩,.string ⟨#[]⟩,.string ⟨#[]⟩,.int .i64 0,.int .i64 0,.bool false,.int .i64 0,.bool false] 44 (0,0))) (hb:base≤b):X.ownsRow base 44 19 (.slice (some ⟨b,0,none⟩) 1 1) 1 eA1:=⟨rfl,.inr ⟨b,1,_,rfl,hb,hX,Nat.le_refl _,by decide,rfl,rfl⟩⟩
theorem own_at {base g n c m s:Nat} {e:TypeId} {w:World} {xs:List Value} (h:w.ownsRow base e s (.slice (some ⟨g,0,none⟩) n c) m xs):∀ j u,xs[j]?=some u→w.cell? (Addr.add ⟨g,0,none⟩ j)=some u:=fun j u hj=>by
 have hl:j < xs.length:=(List.getElem?_eq_some_iff.1 hj).1
 rw [Addr.add_lit,Nat.zero_add]
 rcases h.2 with ⟨h1,_⟩ | ⟨g',c',cur,h1,hbg,hg,hnc,hcm,hcs,htake⟩
 ·cases h1
 ·simp only [Value.slice.injEq,Option.some.injEq,Addr.mk.injEq] at h1
  obtain ⟨⟨rfl,_,_⟩,_,_⟩:=h1
  rw [cellsAt hg,← hj,← htake,List.getElem?_take_of_lt (by rw [← h.1];exact hl)]
  simp
theorem ev_news {W:World} {G:Nat} (h:EvAt W G (topEv false)):∀ j u,eA4[j]?=some u→W.cell? (Addr.add ⟨G,57,none⟩ j)=some u:=fun j u hj=>by
 rw [Addr.add_lit]
 exact h _ _ (by rw [ev_old,List.getElem?_append_right (by rw [eA3_len];omega),eA3_len,Nat.add_sub_cancel_left];exact hj)
theorem ev_olds {W:World} {G:Nat} (h:EvAt W G (topEv false)):∀ ad:Addr,some (⟨G,0,none⟩:Addr)=some ad→∀ j u,eA3[j]?=some u→W.cell? (ad.add j)=some u:=fun ad had j u hj=>by
 cases had
 rw [Addr.add_lit,Nat.zero_add]
 exact h _ _ (by rw [ev_old,List.getElem?_append_left (List.getElem?_eq_some_iff.1 hj).1];exact hj)
theorem Tryz.infoEq:(Tryz.prog.info? 44).map (fun i=>(i.zero,i.size,i.bytes))=some (some (.agg #[.int .i64 0,.int .i64 0,.int .i64 0,.int .i64 0,.string ⟨#[]⟩,.int .i64 0,.int .i64 0,.int .i64 0,.int .i64 0,.int .i64 0,.string ⟨#[]⟩,.string ⟨#[]⟩,.string ⟨#[]⟩,.string ⟨#[]⟩,.int .i64 0,.int .i64 0,.bool false,.int .i64 0,.bool false]),19,192):=by kernel_rfl
theorem top_cs:(evCs (topEv false)).toArray=#[.int .i64 2,.int .i64 1,.int .i64 0,.int .i64 0,.string ⟨#[]⟩,.int .i64 0,.int .i64 0,.int .i64 0,.int .i64 0,.int .i64 0,.string ⟨#[]⟩,.string ⟨#[]⟩,.string ⟨#[]⟩,.string ⟨#[]⟩,.int .i64 0,.int .i64 0,.bool false,.int .i64 0,.bool false,.int .i64 3,.int .i64 0,.int .i64 0,.int .i64 0,.string ⟨#[]⟩,.int .i64 0,.int .i64 0,.int .i64 0,.int .i64 0,.int .i64 0,.string ⟨#[]⟩,.string ⟨#[]⟩,.string ⟨#[]⟩,.string ⟨#[]⟩,.int .i64 0,.int .i64 0,.bool false,.int .i64 0,.bool false,.int .i64 6,.int .i64 0,.int .i64 0,.int .i64 0,.string ⟨#[98]⟩,.int .i64 0,.int .i64 0,.int .i64 0,.int .i64 0,.int .i64 0,.string ⟨#[]⟩,.string ⟨#[]⟩,.string ⟨#[]⟩,.string ⟨#[]⟩,.int .i64 0,.int .i64 0,.bool false,.int .i64 0,.bool false,.int .i64 1,.int .i64 0,.int .i64 1,.int .i64 0,.string ⟨#[]⟩,.int .i64 0,.int .i64 0,.int .i64 0,.int .i64 0,.int .i64 0,.string ⟨#[]⟩,.string ⟨#[]⟩,.string ⟨#[]⟩,.string ⟨#[]⟩,.int .i64 0,.int .i64 0,.bool false,.int .i64 0,.bool false,.int .i64 3,.int .i64 0,.int .i64 0,.int .i64 0,.string ⟨#[]⟩,.int .i64 0,.int .i64 0,.int .i64 0,.int .i64 0,.int .i64 0,.string ⟨#[]⟩,.string ⟨#[]⟩,.string ⟨#[]⟩,.string ⟨#[]⟩,.int .i64 0,.int .i64 0,.bool false,.int .i64 0,.bool false,.int .i64 1,.int .i64 1,.int .i64 0,.int .i64 0,.string ⟨#[]⟩,.int .i64 0,.int .i64 0,.int .i64 0,.int .i64 0,.int .i64 0,.string ⟨#[]⟩,.string ⟨#[]⟩,.string ⟨#[]⟩,.string ⟨#[]⟩,.int .i64 0,.int .i64 0,.bool false,.int .i64 0,.bool false,.int .i64 3,.int .i64 0,.int .i64 0,.int .i64 0,.string ⟨#[]⟩,.int .i64 0,.int .i64 0,.int .i64 0,.int .i64 0,.int .i64 0,.string ⟨#[]⟩,.string ⟨#[]⟩,.string ⟨#[]⟩,.string ⟨#[]⟩,.int .i64 0,.int .i64 0,.bool false,.int .i64 0,.bool false]:=by kernel_rfl
set_option maxHeartbeats 12800000 in
set_option maxRecDepth 100000 in
theorem topRefuted_walk (nodes:Int) (bury:Bool) (w:World) (hn : -9223372036854775808≤nodes) (hn2:nodes≤9223372036854775807) (hV:Rv w.heap.size w) :
 Calls Tryz.prog 5 #[.int .i64 nodes,.bool bury] w fun e w'=>e=.returned (.bool true)∧Below w.heap.size w w':=by
 have HNB:Hid (∀ W,Below w.heap.size w W→Calls Tryz.prog 7 #[] W fun e w'=>e=.returned (.bool true)∧Below W.heap.size W w'):=fun W hW=>netBegun_any W (hV.after hW)
 have HOB:Hid (∀ W,Calls Tryz.prog 13 #[] W fun e w'=>e=.returned (.bool true)∧Below W.heap.size W w'):=fun W=>nodeBegun0_any W
 have HCH:Hid (∀ W,Calls Tryz.prog 15 #[.int .i64 nodes,.int .i64 5] W fun e w'=>∃ m:Nat,m≤4∧e=.returned (.int .i64 (m:Int))∧w'=W):=fun W=>choose_five nodes W hn hn2
 have HBT:Hid (∀ (m:Nat) (W:World),m≤4→Below w.heap.size w W→Calls Tryz.prog 14 #[.int .i64 ((m:Int)+1),.int .i64 0] W fun e w'=>Below W.heap.size W w'∧∃ a c d q l nl,2≤nl∧e=.returned (.tuple #[.agg #[.slice a nl c,.slice d l q],.bool true])∧Hid (NtIs w' (two trA trB m []) (.slice a nl c) (.slice d l q))):=fun m W hm hW=>by
  refine (begunT_any m hm W (hV.after hW)).mono ?_
  rintro e w' ⟨hb,a,c,d,q,l,rfl,HN⟩
  exact ⟨hb,a,c,d,q,l,m+2,by omega,rfl,HN⟩
 have HVV:Hid (Rv w.heap.size w):=hV
 clear hV hn hn2
 go_enter Tryz.func5,Tryz.ntmps5
 go_wp2_with fail
 refine (HNB.out w (Below.refl _ _)).mono ?_
 rintro e w1 ⟨rfl,hb1⟩
 have HB1:Hid (Below w.heap.size w w1):=hb1
 clear hb1 HNB
 go_wp2_with fail
 refine (HOB.out w1).mono ?_
 rintro e w2 ⟨rfl,hb2⟩
 have HB2:Hid (Below w.heap.size w w2):=HB1.out.trans (hb2.mono HB1.out.size)
 clear hb2 HOB HB1
 go_wp2_with fail
 refine (HCH.out w2).mono ?_
 rintro e w' ⟨m,hm,rfl,hw'⟩
 subst hw'
 have hw1:IntKind.i64.wrap (1+(m:Int))=(m:Int)+1:=by rw [IntKind.wrap_i64];omega
 have HBM:Hid _:=HBT.out m w' hm HB2.out
 have HM:Hid (m≤4):=hm
 clear HCH HBT hm
 go_wp2_with fail
 refine Calls.mono HBM.out ?_
 rintro e w3 ⟨hb3,a,c,d,q,l,nl,hnl,rfl,HN3⟩
 have HB3:Hid (Below w.heap.size w w3):=HB2.out.trans (hb3.mono HB2.out.size)
 have HW3:Hid (w.heap.size≤w3.heap.size):=HB3.out.size
 clear hb3 HBM HB2
 obtain ⟨nb,off,vm,ha,hnb,-,hnm,-⟩:=two_cells HN3.out
 subst ha
 obtain ⟨W4,hW4⟩:∃ W4,W4=w3.alloc (.cells #[.slice (some ⟨nb,off,none⟩) nl c,.slice d l q] 25):=⟨_,rfl⟩
 have hb4:Below w3.heap.size w3 W4:=by rw [hW4];exact (Below.refl _ _).alloc (Nat.le_refl _) _
 have hg4:W4.heap[w3.heap.size]?=some (.cells #[.slice (some ⟨nb,off,none⟩) nl c,.slice d l q] 25 (0,0)):=by rw [hW4];exact heap_alloc_new w3 _
 have hs4:W4.heap.size=w3.heap.size+1:=by rw [hW4];simp
 have HN4:Hid (NtIs W4 (two trA trB m []) (.slice (some ⟨nb,off,none⟩) nl c) (.slice d l q)):=HN3.out.below hb4
 have HB4:Hid (Below w.heap.size w W4):=HB3.out.trans (hb4.mono HB3.out.size)
 have x0:W4.cell? ⟨w3.heap.size,0,none⟩=some (.slice (some ⟨nb,off,none⟩) nl c):=cellsAt hg4 0
 have x1:W4.cell? ⟨w3.heap.size,1,none⟩=some (.slice d l q):=cellsAt hg4 1
 have y0:W4.cell? ⟨nb,off+12,none⟩=some (.string ⟨#[98]⟩):=(hb4.cell (p:=⟨nb,off+12,none⟩) hnb).trans hnm
 have hd1:decide ((nl:Int) < 2)=false:=decide_eq_false (by omega)
 have hd2:(1:Int) < (nl:Int):=by omega
 have HG4:Hid (W4.heap[w3.heap.size]?=some (.cells #[.slice (some ⟨nb,off,none⟩) nl c,.slice d l q] 25 (0,0))):=hg4
 obtain ⟨W6,hW6⟩:∃ W6,W6=W4.alloc (.cells (evCs (topEv false)).toArray 44):=⟨_,rfl⟩
 have hb6:Below W4.heap.size W4 W6:=by rw [hW6];exact (Below.refl _ _).alloc (Nat.le_refl _) _
 have HE6:Hid (EvAt W6 (w3.heap.size+1) (topEv false)):=by rw [← hs4];rw [hW6];exact EvAt.of (heap_alloc_new W4 _)
 have hs6:W6.heap.size=w3.heap.size+2:=by rw [hW6];simp;omega
 have HB6:Hid (Below W4.heap.size W4 W6):=hb6
 have z0:W6.cell? ⟨w3.heap.size,0,none⟩=some (.slice (some ⟨nb,off,none⟩) nl c):=(hb6.cell (p:=⟨w3.heap.size,0,none⟩) (by show w3.heap.size < _;omega)).trans x0
 have z2:W6.cell? ⟨nb,off+12,none⟩=some (.string ⟨#[98]⟩):=(hb6.cell (p:=⟨nb,off+12,none⟩) (by show nb < _;omega)).trans y0
 rw [top_cs] at hW6
 have HS6:Hid (W6.heap.size=w3.heap.size+2∧nb < w3.heap.size):=⟨hs6,hnb⟩
 clear hb4 hg4 hnm HN3 HB3 hb6 hs6
 go_upto_region 4 with fail
 rw [← hW4]
 clear hW4
 go_upto_if 46 with fail
 rw [← hW6]
 clear hW6 x0 x1 y0
 go_cut [7] from 12 to 59 (fun lv wx=>∃ G cap,lv=.slice (some ⟨G,0,none⟩) (topN bury) cap∧Hid (EvAt wx G (topEv bury)∧w3.heap.size < G∧G < wx.heap.size∧Below W4.heap.size W4 wx))
 case first=>
  cases bury with
  | false=>
    go_wp2_with fail
    go_meet
    case rel=>exact ⟨_,_,rfl,HE6.out,by omega,by have:=HS6.out.1;omega,HB6.out⟩
  | true=>
    obtain ⟨i0,hi0,hz0,hzs,hzb⟩:=info_parts Tryz.infoEq
    have HEV:Hid (∀ Y:World,Below W6.heap.size W6 Y→EvAt Y (w3.heap.size+1) (topEv false)):=fun Y hY=>HE6.out.keep (hY.block _ (by have:=HS6.out.1;omega))
    have e0:=World.new_ne W6 _ z0
    have e2:=World.new_ne W6 _ z2
    go_wp2_with fail
    go_region_held3 (fun w'=>w'.cell? ⟨w3.heap.size,0,none⟩=some (.slice (some ⟨nb,off,none⟩) nl c)∧w'.cell? ⟨nb,off+12,none⟩=some (.string ⟨#[98]⟩)) (first | go_keep | ((go_split_ands;refine ⟨?_,?_⟩;all_goals ((rw [hgrow9.cell_far _ (by have h8:=hgrow8.size;have h6:=HS6.out;simp at h8 ⊢;omega) (by simp)];assumption)))) | ((go_split_ands;refine ⟨?_,?_⟩;all_goals ((rw [hgrow8.cell_far _ (by have h6:=HS6.out;simp;omega) (by have h6:=HS6.out;simp [Value.ownBlock];omega)];assumption)))) | (trace_state;fail))
     (first
       | (refine step_append_lies _ (by rfl) _ _ _ (by rfl) W6.heap.size 44 i0 _ 19 192 Tryz.underlying52 hi0 hz0 hzs hzb rfl (by omega) (.slice (some ⟨W6.heap.size,0,none⟩) 1 1) 1 eA1 (by rfl) ((own_ev (heap_alloc_new W6 _) (Nat.le_refl _)).drew) ⟨w3.heap.size+1,57,none⟩ 4 4 eA4 (by rfl) eA4_len (ev_news (HEV.out _ ((Below.refl _ _).alloc (Nat.le_refl _) _).drew)) ev4_one (by omega) (by decide) (by decide) (by simp) _ rfl ?_
          intro g1 c1' w8 hown8 hgrow8 hat8 hlt8)
       | (refine step_append_grows rfl (.tmp 48) (.tmp 58) 52 (by rfl) 44 i0 _ 19 192 Tryz.underlying52 hi0 hz0 hzs hzb rfl (by omega) (some ⟨w3.heap.size+1,0,none⟩) 3 3 eA3 (by rfl) (fun h=>by cases h) eA3_len (ev_olds (HEV.out _ ?_)) ⟨g1,0,none⟩ (1+4) c1' (eA1++eA4) (by rfl) hown8.1 (own_at hown8) ev41_one (by omega) (by decide) (by decide) ?_
          (focus (exact ((Below.refl _ _).alloc (Nat.le_refl _) _).drew.grown hgrow8 (by simp) (fun j hj=>by simp [Value.ownBlock] at hj;omega)))
          intro v9 w9 hown9 hgrow9)
       | (trace_state;fail))
    obtain ⟨g9,c9,hv9,hle9,hlt9⟩:=hown9.form (by omega)
    subst hv9
    have HRL:Hid (EvAt w9 g9 (topEv true)∧w3.heap.size < g9∧g9 < w9.heap.size∧Below W4.heap.size W4 w9):=by
     have h6:=HS6.out.1
     have h8:=hgrow8.size
     have h8':W6.heap.size+1≤w8.heap.size:=by simpa using h8
     refine ⟨fun j u hj=>?_,by omega,hlt9,((HB6.out.trans (((((Below.refl W6.heap.size W6).alloc (Nat.le_refl _) _).drew).grown hgrow8 (by simp) (fun j hj=>by simp [Value.ownBlock] at hj;omega)).mono HB6.out.size)).grown hgrow9 (by omega) (fun j hj=>by cases hj))⟩
     have h9:=own_at hown9 j u (by rw [← ev_new];exact hj)
     rw [Addr.add_lit,Nat.zero_add] at h9
     exact h9
    clear hown8 hown9 hgrow8 hgrow9 hat8 hlt8 hle9 hlt9
    go_wp2_with fail
    go_meet
    case rel=>exact ⟨g9,c9,rfl,HRL⟩
 case rest=>
  obtain ⟨G,cap,rfl,HW⟩:=hcut
  have hm:=HM.out
  obtain ⟨T,hT⟩:∃ T:Nat→Nt,T=fun k=>(topSt bury m).getD k ⟨[],[]⟩:=⟨_,rfl⟩
  obtain ⟨V,hVv⟩:∃ V:Nat→Ev,V=fun k=>(topEv bury).getD k (evZ 0 0 0 ⟨#[]⟩):=⟨_,rfl⟩
  have HST:Hid (∀ k,k < topN bury→∀ (vn vl:Value) (W:World),Below w.heap.size w W→NtIs W (T k) vn vl→Calls Tryz.prog 16 #[.agg #[vn,vl],.agg (evA (V k))] W (StepSays W (T (k+1)))):=fun k hk vn vl W hW h=>by
   rw [hT] at h ⊢
   rw [hVv]
   exact top_step m hm bury k (by rw [top_len];exact hk) vn vl W (HVV.out.after hW) h
  have HTL:Hid (∀ k,k≤topN bury→(T k).ns.length=m+2∧∀ l∈(T k).ls,l.ok):=fun k hk=>by rw [hT];exact top_all m hm bury k hk
  have HT0:Hid (T 0=two trA trB m []):=by show _=_;rw [hT];cases bury<;>rfl
  have HTN:Hid (T (topN bury)=two (trZ bury) (trB2 bury) m []):=by show _=_;rw [hT];cases bury<;>rfl
  have HEV:Hid (∀ W k,EvAt W G (topEv bury)→k < topN bury→W.rangeAt G (k * 19) (evA (V k)).toList):=fun W k h hk=>by rw [hVv];exact h.range _ (by rw [top_len];exact hk)
  have HNC:Hid (topN bury≤8):=by show _≤_;cases bury<;>decide
  have HE:Hid (∀ k (W:World),(k≤topN bury→EvAt W G (topEv bury))→k≤topN bury→EvAt W G (topEv bury)):=fun k W h hk=>h hk
  clear hT hVv HVV HE6 HB6 z0 z2 HS6 hs4
  generalize HTB:two (trZ bury) (trB2 bury) m []=TZ at *
  generalize topEv bury=tev at *
  generalize topN bury=n at *
  have HI0:Hid (wc.heap[w3.heap.size]?=some (.cells #[.slice (some ⟨nb,off,none⟩) nl c,.slice d l q] 25 (0,0))∧NtIs wc (T 0) (.slice (some ⟨nb,off,none⟩) nl c) (.slice d l q)∧EvAt wc G tev∧Below w.heap.size w wc∧G < wc.heap.size∧w3.heap.size < G):=by
   rw [HT0.out]
   obtain ⟨h1,h2,h3,h4⟩:=HW.out
   exact ⟨(h4.block _ (Array.getElem?_eq_some_iff.1 HG4.out).1).trans HG4.out,HN4.out.below h4,h1,HB4.out.trans (h4.mono HB4.out.size),h3,h2⟩
  have HWW:Hid (w.heap.size≤w3.heap.size):=HW3.out
  clear HW HG4 HN4 HB4 hm
  go_wp2_with fail
  go_loopw [8] (fun i wr=>∃ (k n1 c1 l1 q1:Nat) (a1 d1:Option Addr),k≤n∧i=.int .i64 k∧Hid (wr.heap[w3.heap.size]?=some (.cells #[.slice a1 n1 c1,.slice d1 l1 q1] 25 (0,0))∧NtIs wr (T k) (.slice a1 n1 c1) (.slice d1 l1 q1)∧EvAt wr G tev∧Below w.heap.size w wr∧G < wr.heap.size∧w3.heap.size < G)) (fun i _=>n - (intOf i).toNat)
  case atStart=>exact ⟨0,nl,c,l,q,some ⟨nb,off,none⟩,d,Nat.zero_le _,rfl,HI0⟩
  case round=>
   obtain ⟨k,n1,c1,l1,q1,a1,d1,hk,rfl,HR⟩:=hrel
   by_cases hlt:k < n
   ·have hd:decide ((k:Int) < (n:Int))=true:=decide_eq_true (by omega)
    go_upto_region 12 with fail
    go_cut [9,10] from 60 to 83 (fun p9 e10 wx=>∃ (B9 n2 c2 l2 q2:Nat) (a2 d2:Option Addr),p9=.pointer (some ⟨B9,0,none⟩)∧e10=.int .i64 0∧Hid (wx.heap[B9]?=some (.cells #[.slice a2 n2 c2,.slice d2 l2 q2] 25 (0,0))∧G < B9)∧Hid (NtHas wr.heap.size wx (T (k+1)) (.slice a2 n2 c2) (.slice d2 l2 q2)∧Below wr.heap.size wr wx))
    case first=>
     have HSK:Hid (∀ W,Below wr.heap.size wr W→Calls Tryz.prog 16 #[.agg #[.slice a1 n1 c1,.slice d1 l1 q1],.agg (evA (V k))] W fun e w'=>Below W.heap.size W w'∧∃ a2 n2 c2 d2 l2 q2,e=.returned (.tuple #[.agg #[.slice a2 n2 c2,.slice d2 l2 q2],.int .i64 0])∧Hid (NtHas W.heap.size w' (T (k+1)) (.slice a2 n2 c2) (.slice d2 l2 q2))):=fun W hW=>HST.out k hlt _ _ W (HR.out.2.2.2.1.trans (hW.mono HR.out.2.2.2.1.size)) (HR.out.2.1.below hW)
     have HSS:Hid (∀ W,Below wr.heap.size wr W→W.heap[w3.heap.size]?=some (.cells #[.slice a1 n1 c1,.slice d1 l1 q1] 25 (0,0))∧W.rangeAt G (k * 19) (evA (V k)).toList):=fun W hW=>by
      obtain ⟨h1,h2,h3,h4,h5,h6⟩:=HR.out
      exact ⟨(hW.block _ (by omega)).trans h1,HEV.out W k (h3.keep (hW.block _ h5)) hlt⟩
     have HGW:Hid (G < wr.heap.size):=HR.out.2.2.2.2.1
     have hk0:(k:Int) < (n:Int):=by omega
     have hk1:¬ (k:Int) < 0:=by omega
     have hk2:(0:Int)≤(k:Int):=by omega
     have hk3:((k:Int)).toNat=k:=by omega
     generalize V k=v at *
     clear HR HST HEV HTL HT0 HTN
     refine wp_region_held_drew (S:=fun W=>W.heap[w3.heap.size]?=some (.cells #[.slice a1 n1 c1,.slice d1 l1 q1] 25 (0,0))∧W.rangeAt G (k * 19) (evA v).toList) (by kernel_rfl) (HSS.out _ (Below.refl _ _).drew) (fun hHeld=>?_)
     refine wpAnyH_take (i:=0) (v:=.agg #[.slice a1 n1 c1,.slice d1 l1 q1]) rfl (by kernel_rfl) (by kernel_rfl) (by kernel_rfl) (fun _ _ _ h=>h) (Or.inl ⟨by rfl,?hy⟩) (by assumption) ?_
     case hy=>exact fun W hSw=>exec_load_row 25 (.tmp 5) rfl w3.heap.size rfl 25 #[.slice a1 n1 c1,.slice d1 l1 q1] (0,0) _ hSw.1 Tryz.underlying25 rfl (by kernel_rfl)
     refine wpAnyH_take (i:=1) (v:=.slice (some ⟨G,0,none⟩) n cap) rfl (by kernel_rfl) (by kernel_rfl) (by kernel_rfl) (fun _ _ _ h=>h) (Or.inl ⟨by rfl,?hy⟩) (by assumption) ?_
     case hy=>(intro W hSw;clear hSw hHeld;go_simp;try with_reducible rfl)
     refine wpAnyH_take (i:=2) (v:=.int .i64 (k:Int)) rfl (by kernel_rfl) (by kernel_rfl) (by kernel_rfl) (fun _ _ _ h=>h) (Or.inl ⟨by rfl,?hy⟩) (by assumption) ?_
     case hy=>(intro W hSw;clear hSw hHeld;go_simp;try with_reducible rfl)
     refine wpAnyH_take (i:=3) (v:=.pointer (some ⟨G,k * 19,none⟩)) rfl (by kernel_rfl) (by kernel_rfl) (by kernel_rfl) (fun _ _ _ h=>h) (Or.inl ⟨by rfl,?hy⟩) (by assumption) ?_
     case hy=>(intro W hSw;clear hSw hHeld;go_simp;try with_reducible rfl)
     refine wpAnyH_take (i:=4) (v:=.agg (evA v)) rfl (by kernel_rfl) (by kernel_rfl) (by kernel_rfl) (fun _ _ _ h=>h) (Or.inl ⟨by rfl,?hy⟩) (by assumption) ?_
     case hy=>exact fun W hSw=>exec_load_mid 44 (.tmp 70) rfl G (k * 19) rfl (evA v).toList _ hSw.2 Tryz.underlying44 rfl (by kernel_rfl)
     refine wpAnyH_ready (rs:=[5,9]) (by kernel_rfl) (by simp) ?_
     refine AllReadyH.cons rfl (fun K hK=>?_) (AllReadyH.cons rfl (fun K hK=>?_) AllReadyH.nil)
     ·have HK:Hid _:=hK
      clear hK
      go_simp
      refine Calls.mono (HSK.out _ (Below.refl _ _).drew) ?_
      rintro e w5 ⟨hb5,a2,n2,c2,d2,l2,q2,rfl,HN5⟩
      have HB5:Hid (Below wr.heap.size wr w5):=(Below.refl wr.heap.size wr).drew.trans hb5
      clear hb5 HSK
      refine HK.out _ _ (HSS.out w5 HB5.out) (fun hHeld=>?_)
      clear HK K
      refine wpAnyH_take (i:=6) (v:=.tuple #[.agg #[.slice a2 n2 c2,.slice d2 l2 q2],.int .i64 0]) rfl (by kernel_rfl) (by kernel_rfl) (by kernel_rfl) (fun _ _ _ h=>h) (Or.inl ⟨by rfl,?hy⟩) (by assumption) ?_
      case hy=>(intro W hSw;clear hSw hHeld;go_simp;try with_reducible rfl)
      refine wpAnyH_take (i:=7) (v:=.agg #[.slice a2 n2 c2,.slice d2 l2 q2]) rfl (by kernel_rfl) (by kernel_rfl) (by kernel_rfl) (fun _ _ _ h=>h) (Or.inl ⟨by rfl,?hy⟩) (by assumption) ?_
      case hy=>(intro W hSw;clear hSw hHeld;go_simp;try with_reducible rfl)
      refine wpAnyH_take (i:=8) (v:=.int .i64 0) rfl (by kernel_rfl) (by kernel_rfl) (by kernel_rfl) (fun _ _ _ h=>h) (Or.inl ⟨by rfl,?hy⟩) (by assumption) ?_
      case hy=>(intro W hSw;clear hSw hHeld;go_simp;try with_reducible rfl)
      refine wpAnyH_ready (rs:=[9]) (by kernel_rfl) (by simp) ?_
      refine AllReadyH.cons rfl (fun K hK=>?_) AllReadyH.nil
      have HK:Hid _:=hK
      clear hK
      go_simp
      have HB6:Hid (Below wr.heap.size wr (w5.alloc (.cells #[.slice none 0 0,.slice none 0 0] 25))):=HB5.out.alloc HB5.out.size _
      refine HK.out _ _ (HSS.out _ HB6.out) (fun hHeld=>?_)
      clear HK K
      refine wpAnyH_ready (rs:=[10]) (by kernel_rfl) (by simp) ?_
      refine AllReadyH.cons rfl (fun K hK=>?_) AllReadyH.nil
      have HK:Hid _:=hK
      clear hK
      go_simp
      have HB7:Hid (Below wr.heap.size wr (w5.alloc (.cells #[.slice a2 n2 c2,.slice d2 l2 q2] 25))):=HB5.out.alloc HB5.out.size _
      refine HK.out _ _ (HSS.out _ HB7.out) (fun hHeld=>?_)
      clear HK K
      refine wpAnyH_take (i:=11) (v:=.int .i64 0) rfl (by kernel_rfl) (by kernel_rfl) (by kernel_rfl) (fun _ _ _ h=>h) (Or.inl ⟨by rfl,?hy⟩) (by assumption) ?_
      case hy=>(intro W hSw;clear hSw hHeld;go_simp;try with_reducible rfl)
      refine wpAnyH_done (by kernel_rfl) ?_ _
      clear hHeld
      go_wp2_with fail
      go_meet
      case rel=>exact ⟨w5.heap.size,n2,c2,l2,q2,a2,d2,rfl,rfl,⟨heap_alloc_new w5 _,by have:=HB5.out.size;have:=HGW.out;omega⟩,⟨HN5.out.keep (fun b _ hb=>((Below.refl w5.heap.size w5).alloc (Nat.le_refl _) _).block b hb),HB7.out⟩⟩
     ·have HK:Hid _:=hK
      clear hK
      go_simp
      have HB6:Hid (Below wr.heap.size wr ((wr.alloc (.cells #[.slice none 0 0,.slice none 0 0] 25)).drew)):=((Below.refl wr.heap.size wr).alloc (Nat.le_refl _) _).drew
      have hg6:((wr.alloc (.cells #[.slice none 0 0,.slice none 0 0] 25)).drew).heap[wr.heap.size]?=some (.cells #[.slice none 0 0,.slice none 0 0] 25 (0,0)):=heap_alloc_new wr _
      have hs6:((wr.alloc (.cells #[.slice none 0 0,.slice none 0 0] 25)).drew).heap.size=wr.heap.size+1:=by simp
      refine HK.out _ _ (HSS.out _ HB6.out) (fun hHeld=>?_)
      clear HK K
      generalize (wr.alloc (.cells #[.slice none 0 0,.slice none 0 0] 25)).drew=W6b at *
      have HS6:Hid (W6b.heap.size=wr.heap.size+1):=hs6
      clear hs6
      refine wpAnyH_ready (rs:=[5]) (by kernel_rfl) (by simp) ?_
      refine AllReadyH.cons rfl (fun K hK=>?_) AllReadyH.nil
      have HK:Hid _:=hK
      clear hK
      go_simp
      refine Calls.mono (HSK.out _ HB6.out) ?_
      rintro e w5 ⟨hb5,a2,n2,c2,d2,l2,q2,rfl,HN5⟩
      have HB5:Hid (Below wr.heap.size wr w5):=HB6.out.trans (hb5.mono HB6.out.size)
      have hg5:w5.heap[wr.heap.size]?=some (.cells #[.slice none 0 0,.slice none 0 0] 25 (0,0)):=(hb5.block _ (Array.getElem?_eq_some_iff.1 hg6).1).trans hg6
      clear hb5 HSK hg6
      refine HK.out _ _ (HSS.out w5 HB5.out) (fun hHeld=>?_)
      clear HK K
      refine wpAnyH_take (i:=6) (v:=.tuple #[.agg #[.slice a2 n2 c2,.slice d2 l2 q2],.int .i64 0]) rfl (by kernel_rfl) (by kernel_rfl) (by kernel_rfl) (fun _ _ _ h=>h) (Or.inl ⟨by rfl,?hy⟩) (by assumption) ?_
      case hy=>(intro W hSw;clear hSw hHeld;go_simp;try with_reducible rfl)
      refine wpAnyH_take (i:=7) (v:=.agg #[.slice a2 n2 c2,.slice d2 l2 q2]) rfl (by kernel_rfl) (by kernel_rfl) (by kernel_rfl) (fun _ _ _ h=>h) (Or.inl ⟨by rfl,?hy⟩) (by assumption) ?_
      case hy=>(intro W hSw;clear hSw hHeld;go_simp;try with_reducible rfl)
      refine wpAnyH_take (i:=8) (v:=.int .i64 0) rfl (by kernel_rfl) (by kernel_rfl) (by kernel_rfl) (fun _ _ _ h=>h) (Or.inl ⟨by rfl,?hy⟩) (by assumption) ?_
      case hy=>(intro W hSw;clear hSw hHeld;go_simp;try with_reducible rfl)
      obtain ⟨W7,hW7⟩:∃ W7,W7=setAll wr.heap.size [.slice a2 n2 c2,.slice d2 l2 q2] 0 w5:=⟨_,rfl⟩
      have hk7:W7.heap[wr.heap.size]?=some (.cells #[.slice a2 n2 c2,.slice d2 l2 q2] 25 (0,0)):=by rw [hW7];exact setAll_block [.slice a2 n2 c2,.slice d2 l2 q2] [] [.slice none 0 0,.slice none 0 0] hg5 rfl
      have HK7:Hid (W7.heap[wr.heap.size]?=some (.cells #[.slice a2 n2 c2,.slice d2 l2 q2] 25 (0,0))):=hk7
      have HN7:Hid (NtHas wr.heap.size W7 (T (k+1)) (.slice a2 n2 c2) (.slice d2 l2 q2)∧Below wr.heap.size wr W7):=by
       obtain ⟨nb7,L7,e1,e2,e3,e4⟩:=HN5.out
       have hle:=HS6.out
       have hkk:∀ b,W6b.heap.size≤b→b < w5.heap.size→W7.heap[b]?=w5.heap[b]?:=fun b hb _=>by rw [hW7];exact setAll_other (by omega) _ _ _
       exact ⟨⟨nb7,L7,e1,e2,(e3.keep hkk).mono (by omega),Lt.Own.mono (row_keep hkk e4) (by omega)⟩,by rw [hW7];exact setAll_below (Nat.le_refl _) _ _ HB5.out⟩
      have g0:w5.cell? ⟨wr.heap.size,0,none⟩=some (.slice none 0 0):=cellsAt hg5 0
      have g1:w5.cell? ⟨wr.heap.size,1,none⟩=some (.slice none 0 0):=cellsAt hg5 1
      have f0:w5.frozen? ⟨wr.heap.size,0,none⟩=false:=frozen_of hg5 0
      have f1:w5.frozen? ⟨wr.heap.size,1,none⟩=false:=frozen_of hg5 1
      clear hk7 hg5
      refine wpAnyH_ready (rs:=[10]) (by kernel_rfl) (by simp) ?_
      refine AllReadyH.cons rfl (fun K hK=>?_) AllReadyH.nil
      have HK:Hid _:=hK
      clear hK
      go_simp
      simp only [setAll,Nat.zero_add] at hW7
      rw [← hW7]
      clear hW7 g0 g1 f0 f1
      refine HK.out _ _ (HSS.out _ HN7.out.2) (fun hHeld=>?_)
      clear HK K
      refine wpAnyH_take (i:=11) (v:=.int .i64 0) rfl (by kernel_rfl) (by kernel_rfl) (by kernel_rfl) (fun _ _ _ h=>h) (Or.inl ⟨by rfl,?hy⟩) (by assumption) ?_
      case hy=>(intro W hSw;clear hSw hHeld;go_simp;try with_reducible rfl)
      refine wpAnyH_done (by kernel_rfl) ?_ _
      clear hHeld
      go_wp2_with fail
      go_meet
      case rel=>exact ⟨wr.heap.size,n2,c2,l2,q2,a2,d2,rfl,rfl,⟨HK7.out,HGW.out⟩,HN7.out⟩
    case rest=>
     obtain ⟨B9,n2,c2,l2,q2,a2,d2,rfl,rfl,H9,HN9⟩:=hcut
     have hn2:2≤n2:=by
      obtain ⟨_,L,e1,e2,_⟩:=HN9.out.1
      have h3:=(HTL.out (k+1) (by omega)).1
      rw [← e2,List.length_map] at h3
      simp only [Value.slice.injEq] at e1
      omega
     have hd2':decide ((n2:Int) < 2)=false:=decide_eq_false (by omega)
     have hg5:wc.heap[w3.heap.size]?=some (.cells #[.slice a1 n1 c1,.slice d1 l1 q1] 25 (0,0)):=(HN9.out.2.block _ (by have:=HR.out.2.2.2.2;omega)).trans HR.out.1
     obtain ⟨W8,hW8⟩:∃ W8,W8=setAll w3.heap.size [.slice a2 n2 c2,.slice d2 l2 q2] 0 wc:=⟨_,rfl⟩
     have HR8:Hid (W8.heap[w3.heap.size]?=some (.cells #[.slice a2 n2 c2,.slice d2 l2 q2] 25 (0,0))∧NtIs W8 (T (k+1)) (.slice a2 n2 c2) (.slice d2 l2 q2)∧EvAt W8 G tev∧Below w.heap.size w W8∧G < W8.heap.size∧w3.heap.size < G):=by
      obtain ⟨h1,h2,h3,h4,h5,h6⟩:=HR.out
      obtain ⟨n1',n2'⟩:=HN9.out
      have hoth:∀ q,q≠w3.heap.size→W8.heap[q]?=wc.heap[q]?:=fun q hq=>by rw [hW8];exact setAll_other hq _ _ _
      have hbw:Below w.heap.size w W8:=by rw [hW8];exact setAll_below (by have:=HWW.out;omega) _ _ (h4.trans (n2'.mono h4.size))
      refine ⟨by rw [hW8];exact setAll_block [.slice a2 n2 c2,.slice d2 l2 q2] [] [.slice a1 n1 c1,.slice d1 l1 q1] hg5 rfl,(n1'.keep (fun b hb _=>hoth b (by omega))).is (HTL.out (k+1) (by omega)).2,h3.keep ((hoth G (by omega)).trans (n2'.block G h5)),hbw,?_,h6⟩
      have h7:=n2'.size
      have h8:W8.heap[G]?=wr.heap[G]?:=(hoth G (by omega)).trans (n2'.block G h5)
      rw [Array.getElem?_eq_getElem h5] at h8
      exact (Array.getElem?_eq_some_iff.1 h8).1
     have y0:wc.cell? ⟨B9,0,none⟩=some (.slice a2 n2 c2):=cellsAt H9.out.1 0
     have y1:wc.cell? ⟨B9,1,none⟩=some (.slice d2 l2 q2):=cellsAt H9.out.1 1
     have g0:wc.cell? ⟨w3.heap.size,0,none⟩=some (.slice a1 n1 c1):=cellsAt hg5 0
     have g1:wc.cell? ⟨w3.heap.size,1,none⟩=some (.slice d1 l1 q1):=cellsAt hg5 1
     have f0:wc.frozen? ⟨w3.heap.size,0,none⟩=false:=frozen_of hg5 0
     have f1:wc.frozen? ⟨w3.heap.size,1,none⟩=false:=frozen_of hg5 1
     have hn8:n≤8:=HNC.out
     have hne:¬ B9=w3.heap.size:=by have:=H9.out.2;have:=HR.out.2.2.2.2.2;omega
     clear HR HN9 H9 hg5 HTL
     go_wp2_with fail
     simp only [setAll,Nat.zero_add] at hW8
     rw [← hW8]
     clear hW8 y0 y1 g0 g1 f0 f1
     go_roundw
     case rel=>exact ⟨k+1,n2,c2,l2,q2,a2,d2,by omega,by go_num,HR8⟩
     case measure=>simp [intOf];omega
   ·have hd:decide ((k:Int) < (n:Int))=false:=decide_eq_false (by omega)
    have hkn:k=n:=by omega
    subst hkn
    have hN:=HR.out.2.1
    rw [HTN.out,← HTB] at hN
    obtain ⟨nb2,off2,vm2,ha2,hnb2,hc2,hc12,hSl⟩:=two_cells hN
    subst ha2
    rw [show (trB2 bury).name=⟨#[98]⟩ from tr_nB1 bury] at hc12
    rw [tr_mZ] at hSl
    have HBW:Hid (Below w.heap.size w wr):=HR.out.2.2.2.1
    have hn1:2≤n1:=by
     obtain ⟨_,_,e,_⟩:=hN.ns
     simp only [Value.slice.injEq] at e
     have h3:=(HTL.out k (Nat.le_refl _)).1
     rw [HTN.out,← HTB] at h3
     omega
    have hn10:(0:Int) < (n1:Int):=by omega
    have hn12:0 < n1:=by omega
    have hn13:1 < n1:=by omega
    have hn11:(1:Int) < (n1:Int):=by omega
    have HSL:Hid (Sl wr vm2 [⟨⟨#[97]⟩,1,1,0,true⟩,trL]):=hSl
    obtain ⟨pm,cm,rfl,_,hor⟩:=hSl
    rcases hor with hor | ⟨gm,om,rfl,hgm,hrow⟩
    ·cases hor
    obtain ⟨r0,r1,r2,r3,r4⟩:=hrow 1 (by simp)
    have F0:∀ d_ os,(Go.Sort.grow (redrawn wr d_) os).cell? ⟨w3.heap.size,0,none⟩=some (.slice (some ⟨nb2,off2,none⟩) n1 c1):=cell_regrown (cellsAt HR.out.1 0)
    have F1:∀ d_ os,(Go.Sort.grow (redrawn wr d_) os).cell? ⟨nb2,off2+2,none⟩=some (.slice (some ⟨gm,om,none⟩) 2 cm):=cell_regrown hc2
    have F2:∀ d_ os,(Go.Sort.grow (redrawn wr d_) os).cell? ⟨nb2,off2+12,none⟩=some (.string ⟨#[98]⟩):=cell_regrown hc12
    have F3:∀ d_ os,(Go.Sort.grow (redrawn wr d_) os).cell? ⟨gm,om+5+1,none⟩=some (.int .i64 1):=cell_regrown r1
    have F4:∀ d_ os,(Go.Sort.grow (redrawn wr d_) os).cell? ⟨gm,om+5+2,none⟩=some (.int .i64 2):=cell_regrown r2
    have C0:∀ d_ os,Calls Tryz.prog 17 #[.slice (some ⟨gm,om,none⟩) 2 cm,.string ⟨#[98]⟩] (Go.Sort.grow (redrawn wr d_) os) fun e w''=>e=.returned (.int .i64 1)∧∃ p:Regrown,w''=Go.Sort.grow (redrawn wr p.d) p.os:=fun d_ os=>by
     refine Calls.regrown_of ((memAt_any _ _ _ _ (HSL.out.below (below_regrown wr d_ os)) (by simp)).mono ?_)
     rintro e w' ⟨r,rfl,HA,rfl⟩
     rw [at_two HA.out]
     exact ⟨rfl,Below.refl _ _⟩
    clear hN hc2 hc12 HSL r0 r1 r2 r3 r4 hrow HR HTL HT0 HTN HTB HST HEV
    go_upto_region 16 with fail
    refine wp_region_quiet_below (by kernel_rfl) (by kernel_rfl) ?_
    repeat (quiet_step (exact C0 _ _))
    refine wpQuiet_nil ?_
    intro _ hw'
    obtain ⟨⟨dq,osq⟩,hw''⟩:=hw'
    subst hw''
    have HBQ:Hid (Below w.heap.size w (Go.Sort.grow (redrawn wr dq) osq)):=HBW.out.trans ((below_regrown wr dq osq).mono HBW.out.size)
    have G0:=F0 dq osq
    have G1:=F1 dq osq
    have G3:=F3 dq osq
    have G4:=F4 dq osq
    clear C0 F0 F1 F2 F3 F4 HBW
    generalize Go.Sort.grow (redrawn wr dq) osq=WQ at *
    go_wp2_with fail
    go_ret
    exact ⟨rfl,HBQ.out⟩
end Go.Proofs.YtffdoiokmiklgaaGreatDoor
