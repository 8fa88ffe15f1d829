import Derived.Test.YtffdoiokmiklgaaGreatDoortr16
import Derived.Deep.RegionHeld3
import Derived.Deep.Cut
import Derived.Test.YtffdoiokmiklgaaGreatDoortr41
import Derived.Test.YtffdoiokmiklgaaGreatDoortr42
import Derived.Test.YtffdoiokmiklgaaGreatDoortr44
import Derived.Deep.RegionWith
namespace Go.Proofs.YtffdoiokmiklgaaGreatDoor
open Go.RowKit
set_option maxHeartbeats 12800000 in
set_option maxRecDepth 100000 in
theorem who_at (g nb o n cap j:Nat) (x0 x1:ByteArray) (a2 a3 a4 a5 a11:Option Addr) (n2 k2 n3 k3 n4 k4 n5 k5 n11 k11:Nat) (x6 x7 x8 x9 x10:Int) (w:World) (g0:w.cell? ⟨g,0,none⟩=some (.slice (some ⟨nb,o,none⟩) n cap)) (g3:w.cell? ⟨g,3,none⟩=some (.int .i64 (j:Int))) (hj:j < n)
 (c0:w.cell? ⟨nb,o+j * 12,none⟩=some (.string x0)) (c1:w.cell? ⟨nb,o+j * 12+1,none⟩=some (.string x1)) (c2:w.cell? ⟨nb,o+j * 12+2,none⟩=some (.slice a2 n2 k2)) (c3:w.cell? ⟨nb,o+j * 12+3,none⟩=some (.slice a3 n3 k3)) (c4:w.cell? ⟨nb,o+j * 12+4,none⟩=some (.slice a4 n4 k4)) (c5:w.cell? ⟨nb,o+j * 12+5,none⟩=some (.slice a5 n5 k5)) (c6:w.cell? ⟨nb,o+j * 12+6,none⟩=some (.int .i64 x6)) (c7:w.cell? ⟨nb,o+j * 12+7,none⟩=some (.int .i64 x7)) (c8:w.cell? ⟨nb,o+j * 12+8,none⟩=some (.int .i64 x8)) (c9:w.cell? ⟨nb,o+j * 12+9,none⟩=some (.int .i64 x9)) (c10:w.cell? ⟨nb,o+j * 12+10,none⟩=some (.int .i64 x10)) (c11:w.cell? ⟨nb,o+j * 12+11,none⟩=some (.slice a11 n11 k11)) :
 Calls Tryz.prog 107 #[.pointer (some ⟨g,0,none⟩)] w fun e w'=>e=.returned (.agg #[.string x0,.string x1,.slice a2 n2 k2,.slice a3 n3 k3,.slice a4 n4 k4,.slice a5 n5 k5,.int .i64 x6,.int .i64 x7,.int .i64 x8,.int .i64 x9,.int .i64 x10,.slice a11 n11 k11])∧Below w.heap.size w w':=by
 have hgl:g < w.heap.size:=World.block_lt_of_cell? w _ g0
 have hbl:nb < w.heap.size:=World.block_lt_of_cell? w _ c0
 obtain ⟨W0,hW0⟩:∃ W0,W0=w.alloc (.cells #[.string ⟨#[]⟩,.string ⟨#[]⟩,.slice none 0 0,.slice none 0 0,.slice none 0 0,.slice none 0 0,.int .i64 0,.int .i64 0,.int .i64 0,.int .i64 0,.int .i64 0,.slice none 0 0] 51):=⟨_,rfl⟩
 have hb0:Below w.heap.size w W0:=by rw [hW0];exact (Below.refl _ _).alloc (Nat.le_refl _) _
 have hg0:W0.heap[w.heap.size]?=some (.cells #[.string ⟨#[]⟩,.string ⟨#[]⟩,.slice none 0 0,.slice none 0 0,.slice none 0 0,.slice none 0 0,.int .i64 0,.int .i64 0,.int .i64 0,.int .i64 0,.int .i64 0,.slice none 0 0] 51 (0,0)):=by rw [hW0];exact heap_alloc_new w _
 have ne1:w.heap.size≠g:=by omega
 have ne2:w.heap.size≠nb:=by omega
 have hlt:(j:Int) < (n:Int):=by omega
 have hge:(0:Int)≤(j:Int):=by omega
 have htn:((j:Int)).toNat=j:=by omega
 have e0:W0.cell? ⟨g,0,none⟩=some (.slice (some ⟨nb,o,none⟩) n cap):=(hb0.cell (p:=⟨g,0,none⟩) hgl).trans g0
 have e3:W0.cell? ⟨g,3,none⟩=some (.int .i64 (j:Int)):=(hb0.cell (p:=⟨g,3,none⟩) hgl).trans g3
 have d0:W0.cell? ⟨nb,o+j * 12,none⟩=some (.string x0):=(hb0.cell (p:=⟨nb,o+j * 12,none⟩) hbl).trans c0
 have d1:W0.cell? ⟨nb,o+j * 12+1,none⟩=some (.string x1):=(hb0.cell (p:=⟨nb,o+j * 12+1,none⟩) hbl).trans c1
 have d2:W0.cell? ⟨nb,o+j * 12+2,none⟩=some (.slice a2 n2 k2):=(hb0.cell (p:=⟨nb,o+j * 12+2,none⟩) hbl).trans c2
 have d3:W0.cell? ⟨nb,o+j * 12+3,none⟩=some (.slice a3 n3 k3):=(hb0.cell (p:=⟨nb,o+j * 12+3,none⟩) hbl).trans c3
 have d4:W0.cell? ⟨nb,o+j * 12+4,none⟩=some (.slice a4 n4 k4):=(hb0.cell (p:=⟨nb,o+j * 12+4,none⟩) hbl).trans c4
 have d5:W0.cell? ⟨nb,o+j * 12+5,none⟩=some (.slice a5 n5 k5):=(hb0.cell (p:=⟨nb,o+j * 12+5,none⟩) hbl).trans c5
 have d6:W0.cell? ⟨nb,o+j * 12+6,none⟩=some (.int .i64 x6):=(hb0.cell (p:=⟨nb,o+j * 12+6,none⟩) hbl).trans c6
 have d7:W0.cell? ⟨nb,o+j * 12+7,none⟩=some (.int .i64 x7):=(hb0.cell (p:=⟨nb,o+j * 12+7,none⟩) hbl).trans c7
 have d8:W0.cell? ⟨nb,o+j * 12+8,none⟩=some (.int .i64 x8):=(hb0.cell (p:=⟨nb,o+j * 12+8,none⟩) hbl).trans c8
 have d9:W0.cell? ⟨nb,o+j * 12+9,none⟩=some (.int .i64 x9):=(hb0.cell (p:=⟨nb,o+j * 12+9,none⟩) hbl).trans c9
 have d10:W0.cell? ⟨nb,o+j * 12+10,none⟩=some (.int .i64 x10):=(hb0.cell (p:=⟨nb,o+j * 12+10,none⟩) hbl).trans c10
 have d11:W0.cell? ⟨nb,o+j * 12+11,none⟩=some (.slice a11 n11 k11):=(hb0.cell (p:=⟨nb,o+j * 12+11,none⟩) hbl).trans c11
 obtain ⟨q0,q1,q2,q3,q4,q5,q6,q7,q8,q9,q10,q11⟩:=cells12 hg0
 obtain ⟨qz0,qz1,qz2,qz3,qz4,qz5,qz6,qz7,qz8,qz9,qz10,qz11⟩:=frz12 hg0
 obtain ⟨W1,hW1⟩:∃ W1,W1=World.drew (setAll w.heap.size [.string x0,.string x1,.slice a2 n2 k2,.slice a3 n3 k3,.slice a4 n4 k4,.slice a5 n5 k5,.int .i64 x6,.int .i64 x7,.int .i64 x8,.int .i64 x9,.int .i64 x10,.slice a11 n11 k11] 0 W0):=⟨_,rfl⟩
 have hb1:Below w.heap.size w W1:=by rw [hW1];exact drew_below (setAll_below (Nat.le_refl _) _ _ hb0)
 have hg1:W1.heap[w.heap.size]?=some (.cells #[.string x0,.string x1,.slice a2 n2 k2,.slice a3 n3 k3,.slice a4 n4 k4,.slice a5 n5 k5,.int .i64 x6,.int .i64 x7,.int .i64 x8,.int .i64 x9,.int .i64 x10,.slice a11 n11 k11] 51 (0,0)):=by rw [hW1,drew_heap];exact setAll12 hg0 _ _ _ _ _ _ _ _ _ _ _ _
 obtain ⟨r0,r1,r2,r3,r4,r5,r6,r7,r8,r9,r10,r11⟩:=cells12 hg1
 have HB1:Hid (Below w.heap.size w W1):=hb1
 clear hb0 hg0 hb1 hg1 hgl hbl g0 g3 c0 c1 c2 c3 c4 c5 c6 c7 c8 c9 c10 c11
 go_enter Tryz.func107,Tryz.ntmps107
 go_upto_region 1 with fail
 rw [← hW0]
 clear hW0
 go_region_held3 (fun w'=>w'.cell? ⟨g,0,none⟩=some (.slice (some ⟨nb,o,none⟩) n cap)∧w'.cell? ⟨g,3,none⟩=some (.int .i64 (j:Int))∧w'.cell? ⟨nb,o+j * 12,none⟩=some (.string x0)∧w'.cell? ⟨nb,o+j * 12+1,none⟩=some (.string x1)∧w'.cell? ⟨nb,o+j * 12+2,none⟩=some (.slice a2 n2 k2)∧w'.cell? ⟨nb,o+j * 12+3,none⟩=some (.slice a3 n3 k3)∧w'.cell? ⟨nb,o+j * 12+4,none⟩=some (.slice a4 n4 k4)∧w'.cell? ⟨nb,o+j * 12+5,none⟩=some (.slice a5 n5 k5)∧w'.cell? ⟨nb,o+j * 12+6,none⟩=some (.int .i64 x6)∧w'.cell? ⟨nb,o+j * 12+7,none⟩=some (.int .i64 x7)∧w'.cell? ⟨nb,o+j * 12+8,none⟩=some (.int .i64 x8)∧w'.cell? ⟨nb,o+j * 12+9,none⟩=some (.int .i64 x9)∧w'.cell? ⟨nb,o+j * 12+10,none⟩=some (.int .i64 x10)∧w'.cell? ⟨nb,o+j * 12+11,none⟩=some (.slice a11 n11 k11)) (simp only [World.cell?_setCell_far,World.cell?_drew,ne_eq,ne1,ne2,not_false_eq_true,e0,e3,d0,d1,d2,d3,d4,d5,d6,d7,d8,d9,d10,d11,and_self]) (fail)
 go_wp2_with fail
 simp only [setAll,Nat.zero_add,Nat.reduceAdd] at hW1
 rw [← hW1]
 clear hW1
 exact bodyPost_ret (v:=.agg #[.string x0,.string x1,.slice a2 n2 k2,.slice a3 n3 k3,.slice a4 n4 k4,.slice a5 n5 k5,.int .i64 x6,.int .i64 x7,.int .i64 x8,.int .i64 x9,.int .i64 x10,.slice a11 n11 k11]) (by simp [results,Tryz.results107,go_sem,r0,r1,r2,r3,r4,r5,r6,r7,r8,r9,r10,r11]) rfl ⟨rfl,HB1.out⟩
structure NsOwn (C:Nat) (w:World) (nb:Nat) (L:List Nx):Prop where
 le:C≤nb
 row:w.heap[nb]?=some (.cells (nfl L).toArray 51 (0,0))
 own:∀ x∈L,NdOwn C w x.n x.vm x.vr x.vs x.vg x.vw
 ok:∀ x∈L,NdOk x.n
theorem NdOwn.mv {C B:Nat} {w w':World} {n:Nd} {vm vr vs vg vw:Value} (h:NdOwn B w n vm vr vs vg vw) (hm:Mv C w w'):NdOwn B w' n vm vr vs vg vw:=
 ⟨row_ty h.ms (fun b cs f e=>hm.keep b cs _ f e (by decide) (by decide)),row_ty h.rs (fun b cs f e=>hm.keep b cs _ f e (by decide) (by decide)),row_ty h.sv (fun b cs f e=>hm.keep b cs _ f e (by decide) (by decide)),row_ty h.gw (fun b cs f e=>hm.keep b cs _ f e (by decide) (by decide)),row_ty h.wh (fun b cs f e=>hm.keep b cs _ f e (by decide) (by decide))⟩
theorem NsOwn.mv {C nb:Nat} {w w':World} {L:List Nx} (h:NsOwn C w nb L) (hm:Mv C w w'):NsOwn C w' nb L:=⟨h.le,hm.keep _ _ _ _ h.row (by decide) (by decide),fun x hx=>(h.own x hx).mv hm,h.ok⟩
theorem NsOwn.below {C nb:Nat} {w w':World} {L:List Nx} (h:NsOwn C w nb L) (hb:Below w.heap.size w w') (hC:C≤w.heap.size):NsOwn C w' nb L:=h.mv (Mv.of hb hC)
theorem nx_mem {L:List Nx} {j:Nat} (hj:j < L.length):L.getD j nx0∈L:=by rw [List.getD,List.getElem?_eq_getElem hj];exact List.getElem_mem hj
theorem NsOwn.cell {C nb:Nat} {w:World} {L:List Nx} (h:NsOwn C w nb L) {j:Nat} (hj:j < L.length) (i:Nat) (hi:i < 12):w.cell? ⟨nb,0+j * 12+i,none⟩=(L.getD j nx0).cs[i]?:=by
 rw [cellsAt h.row]
 simpa using nfl_get L j hj i hi
theorem who_own (C g nb j n cap:Nat) (L:List Nx) (w:World) (hN:NsOwn C w nb L) (hj:j < L.length) (hn:n=L.length) (g0:w.cell? ⟨g,0,none⟩=some (.slice (some ⟨nb,0,none⟩) n cap)) (g3:w.cell? ⟨g,3,none⟩=some (.int .i64 (j:Int))) :
 Calls Tryz.prog 107 #[.pointer (some ⟨g,0,none⟩)] w fun e w'=>e=.returned (.agg (ndA (L.getD j nx0).n (L.getD j nx0).vm (L.getD j nx0).vr (L.getD j nx0).vs (L.getD j nx0).vg (L.getD j nx0).vw))∧Below w.heap.size w w':=by
 have hc:=fun i hi=>hN.cell hj i hi
 have ho:=hN.own _ (nx_mem hj)
 generalize L.getD j nx0=x at *
 obtain ⟨⟨nm,ct,ms,rs,sv,gw,⟨px,py,pz,ph,pq⟩,wh⟩,vm,vr,vs,vg,vw⟩:=x
 obtain ⟨a2,c2,h2⟩:=row_form ho.ms
 obtain ⟨a3,c3,h3⟩:=row_form ho.rs
 obtain ⟨a4,c4,h4⟩:=row_form ho.sv
 obtain ⟨a5,c5,h5⟩:=row_form ho.gw
 obtain ⟨a11,c11,h11⟩:=row_form ho.wh
 simp only at h2 h3 h4 h5 h11
 subst h2 h3 h4 h5 h11
 exact who_at g nb 0 n cap j nm ct a2 a3 a4 a5 a11 _ c2 _ c3 _ c4 _ c5 _ c11 px py pz ph pq w g0 g3 (by omega) (hc 0 (by omega)) (hc 1 (by omega)) (hc 2 (by omega)) (hc 3 (by omega)) (hc 4 (by omega)) (hc 5 (by omega)) (hc 6 (by omega)) (hc 7 (by omega)) (hc 8 (by omega)) (hc 9 (by omega)) (hc 10 (by omega)) (hc 11 (by omega))
set_option maxHeartbeats 6400000 in
set_option maxRecDepth 100000 in
theorem write_any (C g:Nat) (un ul:Value) (ls:List Lt.Ltr) (v:Ev) (p:Pk) (zm zs zg zw:Value) (w:World) (h:Plr C w g un ul ls v) (hC:C≤w.heap.size) (h20:ls.length < 20) (hx:PkIs w p zm zs zg zw) (hWr:∀ W zm zs zg zw,Tab W.heap.size W→PkIs W p zm zs zg zw→Calls Tryz.prog 221 #[.agg #[.string p.frm,.bool p.whole,zm,zs,zg,zw]] W fun e w'=>e=.returned (.tuple #[.string p.T,.int .i64 p.e])∧Below W.heap.size W w') (hT:Tab w.heap.size w) :
 Calls Tryz.prog 150 #[.pointer (some ⟨g,0,none⟩),.agg #[.string p.frm,.bool p.whole,zm,zs,zg,zw]] w fun e w'=>e=.returned (.int .i64 0)∧Mv C w w'∧∃ a k c,Plr C w' g un (.slice a k c) (ls++[⟨v.other,p.T⟩]) v:=by
 have hgl:g < w.heap.size:=(Array.getElem?_eq_some_iff.1 h.hg).1
 have HW:Hid (∀ W,Below w.heap.size w W→Calls Tryz.prog 221 #[.agg #[.string p.frm,.bool p.whole,zm,zs,zg,zw]] W fun e w'=>e=.returned (.tuple #[.string p.T,.int .i64 p.e])∧Below W.heap.size W w'):=fun W hW=>hWr W zm zs zg zw (fun W2 hW2=>hT W2 (hW.trans (hW2.mono hW.size))) (hx.below hW)
 have HS:Hid (∀ W,Below w.heap.size w W→Calls Tryz.prog 152 #[.pointer (some ⟨g,0,none⟩),.agg #[.int .i64 v.other,.string p.T]] W fun e w'=>e=.returned (.int .i64 0)∧Mv C w w'∧∃ a k c,Plr C w' g un (.slice a k c) (ls++[⟨v.other,p.T⟩]) v):=fun W hW=>(send_any C g un ul ls v v.other p.T W (h.below hW) (Nat.le_trans hC hW.size) h20).mono (fun e w' hh=>⟨hh.1,(Mv.of hW hC).trans hh.2.1,hh.2.2⟩)
 have HG:Hid (∀ W,Below w.heap.size w W→W.cell? ⟨g,4,none⟩=some (.int .i64 v.other)):=fun W hW=>(hW.cell (p:=⟨g,4,none⟩) hgl).trans (cellsAt h.hg 4)
 obtain ⟨⟨a2,c2,rfl,_⟩,⟨a3,c3,rfl,_⟩,⟨a4,c4,rfl,_⟩,⟨a5,c5,rfl,_⟩,_,_⟩:=hx
 clear h hWr hT h20
 generalize p.T=tx at *
 generalize p.e=pe at *
 obtain ⟨W0,hW0⟩:∃ W0,W0=w.alloc (.cells #[.string p.frm,.bool p.whole,.slice a2 p.ms.length c2,.slice a3 p.sv.length c3,.slice a4 p.gw.length c4,.slice a5 p.wh.length c5] 67):=⟨_,rfl⟩
 have hb0:Below w.heap.size w W0:=by rw [hW0];exact (Below.refl _ _).alloc (Nat.le_refl _) _
 have hg0:W0.heap[w.heap.size]?=some (.cells #[.string p.frm,.bool p.whole,.slice a2 p.ms.length c2,.slice a3 p.sv.length c3,.slice a4 p.gw.length c4,.slice a5 p.wh.length c5] 67 (0,0)):=by rw [hW0];exact heap_alloc_new w _
 obtain ⟨q0,q1,q2,q3,q4,q5⟩:=cells6 hg0
 have HB0:Hid (Below w.heap.size w W0):=hb0
 clear hg0 hb0
 generalize p.frm=pf at *
 generalize p.whole=pw at *
 generalize p.ms.length=k2 at *
 generalize p.sv.length=k3 at *
 generalize p.gw.length=k4 at *
 generalize p.wh.length=k5 at *
 go_enter Tryz.func150,Tryz.ntmps150
 go_upto_region 1 with fail
 rw [← hW0]
 clear hW0
 go_wp2_with fail
 refine (HW.out W0 HB0.out).mono ?_
 rintro e w1 ⟨rfl,hb1⟩
 have HB1:Hid (Below w.heap.size w w1):=HB0.out.trans (hb1.mono HB0.out.size)
 have y4:=HG.out w1 HB1.out
 clear hb1 HW HG
 go_wp2_with fail
 refine (HS.out w1 HB1.out).mono ?_
 rintro e w2 ⟨rfl,hm,hp⟩
 have HR:Hid (Mv C w w2∧∃ a k c,Plr C w2 g un (.slice a k c) (ls++[⟨v.other,tx⟩]) v):=⟨hm,hp⟩
 clear hm hp
 go_wp2_with fail
 go_ret
 exact ⟨rfl,HR.out⟩
def wholeP (n:Nd):Pk:=⟨n.name,true,n.ms,n.sv,n.gw,n.wh⟩
set_option maxHeartbeats 6400000 in
set_option maxRecDepth 100000 in
theorem tellAll_any (C g nb j:Nat) (ul:Value) (ls:List Lt.Ltr) (v:Ev) (L:List Nx) (w:World) (h:Plr C w g (.slice (some ⟨nb,0,none⟩) L.length L.length) ul ls v) (hN:NsOwn C w nb L) (hC:C≤w.heap.size) (h20:ls.length < 20) (hv:v.which=(j:Int)) (hj:j < L.length) (he:(L.getD j nx0).n.e=0) (hV:Rv w.heap.size w) (hWr:∀ W zm zs zg zw,Tab W.heap.size W→PkIs W (wholeP (L.getD j nx0).n) zm zs zg zw→Calls Tryz.prog 221 #[.agg #[.string (wholeP (L.getD j nx0).n).frm,.bool (wholeP (L.getD j nx0).n).whole,zm,zs,zg,zw]] W fun e w'=>e=.returned (.tuple #[.string (wholeP (L.getD j nx0).n).T,.int .i64 (wholeP (L.getD j nx0).n).e])∧Below W.heap.size W w') :
 Calls Tryz.prog 101 #[.pointer (some ⟨g,0,none⟩)] w fun e w'=>e=.returned (.int .i64 0)∧Mv C w w'∧∃ a k c,Plr C w' g (.slice (some ⟨nb,0,none⟩) L.length L.length) (.slice a k c) (ls++[⟨v.other,(wholeP (L.getD j nx0).n).T⟩]) v:=by
 have g0:w.cell? ⟨g,0,none⟩=some (.slice (some ⟨nb,0,none⟩) L.length L.length):=cellsAt h.hg 0
 have g3:w.cell? ⟨g,3,none⟩=some (.int .i64 (j:Int)):=by rw [← hv];exact cellsAt h.hg 3
 have HWHO:=who_own C g nb j L.length L.length L w hN hj rfl g0 g3
 have hI:NdIs w (L.getD j nx0).n (L.getD j nx0).vm (L.getD j nx0).vr (L.getD j nx0).vs (L.getD j nx0).vg (L.getD j nx0).vw:=(hN.own _ (nx_mem hj)).is (hN.ok _ (nx_mem hj))
 have hOk:=hN.ok _ (nx_mem hj)
 generalize L.getD j nx0=x at *
 have HWL:Hid (∀ W,Below w.heap.size w W→Calls Tryz.prog 31 #[.agg (ndA x.n x.vm x.vr x.vs x.vg x.vw)] W fun e w'=>Below W.heap.size W w'∧∃ a2 n2 c2 a3 n3 c3 a4 n4 c4 a5 n5 c5,e=.returned (.tuple #[.agg #[.string x.n.name,.bool true,.slice a2 n2 c2,.slice a3 n3 c3,.slice a4 n4 c4,.slice a5 n5 c5],.int .i64 0])∧Hid (PkIs w' (wholeP x.n) (.slice a2 n2 c2) (.slice a3 n3 c3) (.slice a4 n4 c4) (.slice a5 n5 c5))):=fun W hW=>by
  refine (Whole_any x.n x.vm x.vr x.vs x.vg x.vw W (hI.below hW)).mono ?_
  rintro e w' ⟨hb,⟨hne,_⟩ | ⟨_,um,us,ug,uw,rfl,h1,h2,h3,h4⟩⟩
  ·exact absurd he hne
  ·obtain ⟨a2,c2,e2⟩:=row_form h1
   obtain ⟨a3,c3,e3⟩:=row_form h2
   obtain ⟨a4,c4,e4⟩:=row_form h3
   obtain ⟨a5,c5,e5⟩:=row_form h4
   subst e2 e3 e4 e5
   exact ⟨hb,_,_,_,_,_,_,_,_,_,_,_,_,rfl,own_names h1 hOk.ms,Sv.own_names h2 hOk.sv,Gw.own_names h3 hOk.gw,Wh.own_names h4 hOk.wh,hOk.name,roomy_own h1⟩
 have HWR:Hid (∀ W a2 n2 c2 a3 n3 c3 a4 n4 c4 a5 n5 c5,Below w.heap.size w W→PkIs W (wholeP x.n) (.slice a2 n2 c2) (.slice a3 n3 c3) (.slice a4 n4 c4) (.slice a5 n5 c5)→Calls Tryz.prog 150 #[.pointer (some ⟨g,0,none⟩),.agg #[.string x.n.name,.bool true,.slice a2 n2 c2,.slice a3 n3 c3,.slice a4 n4 c4,.slice a5 n5 c5]] W fun e w'=>e=.returned (.int .i64 0)∧Hid (Mv C w w'∧∃ a k c,Plr C w' g (.slice (some ⟨nb,0,none⟩) L.length L.length) (.slice a k c) (ls++[⟨v.other,(wholeP x.n).T⟩]) v)):=fun W a2 n2 c2 a3 n3 c3 a4 n4 c4 a5 n5 c5 hW hx=>
  (write_any C g _ ul ls v (wholeP x.n) _ _ _ _ W (h.below hW) (Nat.le_trans hC hW.size) h20 hx hWr (hV.after hW).tab).mono (fun e w' hh=>⟨hh.1,(Mv.of hW hC).trans hh.2.1,hh.2.2⟩)
 clear h hN hv hI hOk hV g0 g3 he hWr
 generalize L.length=n at *
 generalize (wholeP x.n).T=tx at *
 obtain ⟨⟨nm,ct,ms,rs,sv,gw,⟨px,py,pz,ph,pq⟩,wh⟩,vm,vr,vs,vg,vw⟩:=x
 simp only [ndA] at HWHO HWL HWR
 go_enter Tryz.func101,Tryz.ntmps101
 go_wp2_with fail
 refine HWHO.mono ?_
 rintro e w1 ⟨rfl,hb1⟩
 have HB1:Hid (Below w.heap.size w w1):=hb1
 clear hb1 HWHO
 go_wp2_with fail
 refine (HWL.out w1 HB1.out).mono ?_
 rintro e w2 ⟨hb2,a2,n2,c2,a3,n3,c3,a4,n4,c4,a5,n5,c5,rfl,HPK⟩
 have HB2:Hid (Below w.heap.size w w2):=HB1.out.trans (hb2.mono HB1.out.size)
 clear hb2 HB1 HWL
 obtain ⟨W3,hW3⟩:∃ W3,W3=w2.alloc (.cells #[.string nm,.bool true,.slice a2 n2 c2,.slice a3 n3 c3,.slice a4 n4 c4,.slice a5 n5 c5] 67):=⟨_,rfl⟩
 have hb3:Below w2.heap.size w2 W3:=by rw [hW3];exact (Below.refl _ _).alloc (Nat.le_refl _) _
 have HB3:Hid (Below w.heap.size w W3):=HB2.out.trans (hb3.mono HB2.out.size)
 have HP3:Hid (PkIs W3 (wholeP ⟨nm,ct,ms,rs,sv,gw,⟨px,py,pz,ph,pq⟩,wh⟩) (.slice a2 n2 c2) (.slice a3 n3 c3) (.slice a4 n4 c4) (.slice a5 n5 c5)):=HPK.out.below hb3
 have hg3:W3.heap[w2.heap.size]?=some (.cells #[.string nm,.bool true,.slice a2 n2 c2,.slice a3 n3 c3,.slice a4 n4 c4,.slice a5 n5 c5] 67 (0,0)):=by rw [hW3];exact heap_alloc_new w2 _
 obtain ⟨q0,q1,q2,q3,q4,q5⟩:=cells6 hg3
 clear hb3 hg3 HB2 HPK
 go_wp2_with fail
 rw [← hW3]
 refine (HWR.out W3 _ _ _ _ _ _ _ _ _ _ _ _ HB3.out HP3.out).mono ?_
 rintro e w4 ⟨rfl,HR⟩
 clear hW3 q0 q1 q2 q3 q4 q5 HB3 HP3 HWR
 go_wp2_with fail
 go_ret
 exact ⟨rfl,HR.out⟩
set_option maxHeartbeats 25600000 in
set_option maxRecDepth 100000 in
theorem come_at (g nb n k lb m cu j:Nat) (tx:ByteArray) (R:Array Value) (x0 x1:ByteArray) (a2 a3 a4 a5 a11:Option Addr) (n2 k2 n3 k3 n4 k4 n5 k5 n11 k11:Nat) (x6 x7 x8 x9 x10:Int) (w:World) (F G:World→List Value→Prop) (Rs:World→Prop)
 (hk:k < n) (hj:j < m)
 (g0:w.cell? ⟨g,0,none⟩=some (.slice (some ⟨nb,0,none⟩) n n)) (g1:w.cell? ⟨g,1,none⟩=some (.slice (some ⟨lb,0,none⟩) m cu)) (g3:w.cell? ⟨g,3,none⟩=some (.int .i64 (j:Int)))
 (l0:w.cell? ⟨lb,j * 2,none⟩=some (.int .i64 (k:Int))) (l1:w.cell? ⟨lb,j * 2+1,none⟩=some (.string tx))
 (hrow:w.heap[nb]?=some (.cells R 51 (0,0))) (c0:R[k * 12]?=some (.string x0)) (c1:R[k * 12+1]?=some (.string x1)) (c2:R[k * 12+2]?=some (.slice a2 n2 k2)) (c3:R[k * 12+3]?=some (.slice a3 n3 k3)) (c4:R[k * 12+4]?=some (.slice a4 n4 k4)) (c5:R[k * 12+5]?=some (.slice a5 n5 k5)) (c6:R[k * 12+6]?=some (.int .i64 x6)) (c7:R[k * 12+7]?=some (.int .i64 x7)) (c8:R[k * 12+8]?=some (.int .i64 x8)) (c9:R[k * 12+9]?=some (.int .i64 x9)) (c10:R[k * 12+10]?=some (.int .i64 x10)) (c11:R[k * 12+11]?=some (.slice a11 n11 k11))
 (hG:∀ V V' xs,G V xs→Below V.heap.size V V'→G V' xs) (hF:∀ V V' xs,F V xs→Below V.heap.size V V'→F V' xs)
 (hFS:∀ (V:World) xs (b:Nat) cs L,F V xs→V.heap[b]?=some (.cells cs 51 (0,0))→F (setAll b L 0 V) xs) (hng:R[0]? ≠ some (.slice (some ⟨nb,0,none⟩) n n))
 (hRD:∀ W,Below w.heap.size w W→Calls Tryz.prog 85 #[.string tx] W fun e w'=>Below W.heap.size W w'∧∃ pf pw p2 q2 r2 p3 q3 r3 p4 q4 r4 p5 q5 r5,e=.returned (.tuple #[.agg #[.string pf,.bool pw,.slice p2 q2 r2,.slice p3 q3 r3,.slice p4 q4 r4,.slice p5 q5 r5],.int .i64 0])∧Hid (G w' [.string pf,.bool pw,.slice p2 q2 r2,.slice p3 q3 r3,.slice p4 q4 r4,.slice p5 q5 r5]))
 (hHR:∀ W pf pw p2 q2 r2 p3 q3 r3 p4 q4 r4 p5 q5 r5,Below w.heap.size w W→G W [.string pf,.bool pw,.slice p2 q2 r2,.slice p3 q3 r3,.slice p4 q4 r4,.slice p5 q5 r5]→Calls Tryz.prog 32 #[.agg #[.string x0,.string x1,.slice a2 n2 k2,.slice a3 n3 k3,.slice a4 n4 k4,.slice a5 n5 k5,.int .i64 x6,.int .i64 x7,.int .i64 x8,.int .i64 x9,.int .i64 x10,.slice a11 n11 k11],.agg #[.string pf,.bool pw,.slice p2 q2 r2,.slice p3 q3 r3,.slice p4 q4 r4,.slice p5 q5 r5]] W fun e w'=>Below W.heap.size W w'∧∃ u0 u1 b2 m2 e2 b3 m3 e3 b4 m4 e4 b5 m5 e5 u6 u7 u8 u9 u10 b11 m11 e11,e=.returned (.tuple #[.agg #[.string u0,.string u1,.slice b2 m2 e2,.slice b3 m3 e3,.slice b4 m4 e4,.slice b5 m5 e5,.int .i64 u6,.int .i64 u7,.int .i64 u8,.int .i64 u9,.int .i64 u10,.slice b11 m11 e11],.int .i64 0])∧Hid (F w' [.string u0,.string u1,.slice b2 m2 e2,.slice b3 m3 e3,.slice b4 m4 e4,.slice b5 m5 e5,.int .i64 u6,.int .i64 u7,.int .i64 u8,.int .i64 u9,.int .i64 u10,.slice b11 m11 e11]))
 (hLS:∀ V u0 u1 b2 m2 e2 b3 m3 e3 b4 m4 e4 b5 m5 e5 u6 u7 u8 u9 u10 b11 m11 e11,Below w.heap.size w V→F V [.string u0,.string u1,.slice b2 m2 e2,.slice b3 m3 e3,.slice b4 m4 e4,.slice b5 m5 e5,.int .i64 u6,.int .i64 u7,.int .i64 u8,.int .i64 u9,.int .i64 u10,.slice b11 m11 e11]→Calls Tryz.prog 103 #[.pointer (some ⟨g,0,none⟩)] (World.drew (setAll nb [.string u0,.string u1,.slice b2 m2 e2,.slice b3 m3 e3,.slice b4 m4 e4,.slice b5 m5 e5,.int .i64 u6,.int .i64 u7,.int .i64 u8,.int .i64 u9,.int .i64 u10,.slice b11 m11 e11] (k * 12) V)) fun e w'=>e=.returned (.int .i64 0)∧Rs w') :
 Calls Tryz.prog 102 #[.pointer (some ⟨g,0,none⟩)] w fun e w'=>e=.returned (.int .i64 0)∧Rs w':=by
 have hgl:g < w.heap.size:=World.block_lt_of_cell? w _ g0
 have hbl:nb < w.heap.size:=(Array.getElem?_eq_some_iff.1 hrow).1
 have HG:Hid (∀ V V' xs,G V xs→Below V.heap.size V V'→G V' xs):=hG
 have HF:Hid (∀ V V' xs,F V xs→Below V.heap.size V V'→F V' xs):=hF
 have HFS:Hid (∀ (V:World) xs (b:Nat) cs L,F V xs→V.heap[b]?=some (.cells cs 51 (0,0))→F (setAll b L 0 V) xs):=hFS
 have HNG:Hid (R[0]? ≠ some (.slice (some ⟨nb,0,none⟩) n n)):=hng
 have HNL:Hid (nb < w.heap.size):=hbl
 have HRD:Hid (∀ W,Below w.heap.size w W→Calls Tryz.prog 85 #[.string tx] W fun e w'=>Below W.heap.size W w'∧∃ pf pw p2 q2 r2 p3 q3 r3 p4 q4 r4 p5 q5 r5,e=.returned (.tuple #[.agg #[.string pf,.bool pw,.slice p2 q2 r2,.slice p3 q3 r3,.slice p4 q4 r4,.slice p5 q5 r5],.int .i64 0])∧Hid (G w' [.string pf,.bool pw,.slice p2 q2 r2,.slice p3 q3 r3,.slice p4 q4 r4,.slice p5 q5 r5])):=hRD
 have HHR:Hid (∀ W pf pw p2 q2 r2 p3 q3 r3 p4 q4 r4 p5 q5 r5,Below w.heap.size w W→G W [.string pf,.bool pw,.slice p2 q2 r2,.slice p3 q3 r3,.slice p4 q4 r4,.slice p5 q5 r5]→Calls Tryz.prog 32 #[.agg #[.string x0,.string x1,.slice a2 n2 k2,.slice a3 n3 k3,.slice a4 n4 k4,.slice a5 n5 k5,.int .i64 x6,.int .i64 x7,.int .i64 x8,.int .i64 x9,.int .i64 x10,.slice a11 n11 k11],.agg #[.string pf,.bool pw,.slice p2 q2 r2,.slice p3 q3 r3,.slice p4 q4 r4,.slice p5 q5 r5]] W fun e w'=>Below W.heap.size W w'∧∃ u0 u1 b2 m2 e2 b3 m3 e3 b4 m4 e4 b5 m5 e5 u6 u7 u8 u9 u10 b11 m11 e11,e=.returned (.tuple #[.agg #[.string u0,.string u1,.slice b2 m2 e2,.slice b3 m3 e3,.slice b4 m4 e4,.slice b5 m5 e5,.int .i64 u6,.int .i64 u7,.int .i64 u8,.int .i64 u9,.int .i64 u10,.slice b11 m11 e11],.int .i64 0])∧Hid (F w' [.string u0,.string u1,.slice b2 m2 e2,.slice b3 m3 e3,.slice b4 m4 e4,.slice b5 m5 e5,.int .i64 u6,.int .i64 u7,.int .i64 u8,.int .i64 u9,.int .i64 u10,.slice b11 m11 e11])):=hHR
 have HLS:Hid (∀ V u0 u1 b2 m2 e2 b3 m3 e3 b4 m4 e4 b5 m5 e5 u6 u7 u8 u9 u10 b11 m11 e11,Below w.heap.size w V→F V [.string u0,.string u1,.slice b2 m2 e2,.slice b3 m3 e3,.slice b4 m4 e4,.slice b5 m5 e5,.int .i64 u6,.int .i64 u7,.int .i64 u8,.int .i64 u9,.int .i64 u10,.slice b11 m11 e11]→Calls Tryz.prog 103 #[.pointer (some ⟨g,0,none⟩)] (World.drew (setAll nb [.string u0,.string u1,.slice b2 m2 e2,.slice b3 m3 e3,.slice b4 m4 e4,.slice b5 m5 e5,.int .i64 u6,.int .i64 u7,.int .i64 u8,.int .i64 u9,.int .i64 u10,.slice b11 m11 e11] (k * 12) V)) fun e w'=>e=.returned (.int .i64 0)∧Rs w'):=hLS
 have HX:Hid (∀ V,Below w.heap.size w V→V.cell? ⟨g,0,none⟩=some (.slice (some ⟨nb,0,none⟩) n n)∧V.heap[nb]?=some (.cells R 51 (0,0))):=fun V hV=>⟨(hV.cell (p:=⟨g,0,none⟩) hgl).trans g0,(hV.block nb hbl).trans hrow⟩
 have HC:Hid (∀ V:World,V.heap[nb]?=some (.cells R 51 (0,0))→V.cell? ⟨nb,k * 12,none⟩=some (.string x0)∧V.cell? ⟨nb,k * 12+1,none⟩=some (.string x1)∧V.cell? ⟨nb,k * 12+2,none⟩=some (.slice a2 n2 k2)∧V.cell? ⟨nb,k * 12+3,none⟩=some (.slice a3 n3 k3)∧V.cell? ⟨nb,k * 12+4,none⟩=some (.slice a4 n4 k4)∧V.cell? ⟨nb,k * 12+5,none⟩=some (.slice a5 n5 k5)∧V.cell? ⟨nb,k * 12+6,none⟩=some (.int .i64 x6)∧V.cell? ⟨nb,k * 12+7,none⟩=some (.int .i64 x7)∧V.cell? ⟨nb,k * 12+8,none⟩=some (.int .i64 x8)∧V.cell? ⟨nb,k * 12+9,none⟩=some (.int .i64 x9)∧V.cell? ⟨nb,k * 12+10,none⟩=some (.int .i64 x10)∧V.cell? ⟨nb,k * 12+11,none⟩=some (.slice a11 n11 k11)):=fun V hV=>⟨(cellsAt hV _).trans c0,(cellsAt hV _).trans c1,(cellsAt hV _).trans c2,(cellsAt hV _).trans c3,(cellsAt hV _).trans c4,(cellsAt hV _).trans c5,(cellsAt hV _).trans c6,(cellsAt hV _).trans c7,(cellsAt hV _).trans c8,(cellsAt hV _).trans c9,(cellsAt hV _).trans c10,(cellsAt hV _).trans c11⟩
 have HZ:Hid (∀ V:World,V.heap[nb]?=some (.cells R 51 (0,0))→V.frozen? ⟨nb,k * 12,none⟩=false∧V.frozen? ⟨nb,k * 12+1,none⟩=false∧V.frozen? ⟨nb,k * 12+2,none⟩=false∧V.frozen? ⟨nb,k * 12+3,none⟩=false∧V.frozen? ⟨nb,k * 12+4,none⟩=false∧V.frozen? ⟨nb,k * 12+5,none⟩=false∧V.frozen? ⟨nb,k * 12+6,none⟩=false∧V.frozen? ⟨nb,k * 12+7,none⟩=false∧V.frozen? ⟨nb,k * 12+8,none⟩=false∧V.frozen? ⟨nb,k * 12+9,none⟩=false∧V.frozen? ⟨nb,k * 12+10,none⟩=false∧V.frozen? ⟨nb,k * 12+11,none⟩=false):=fun V hV=>⟨frozen_of hV _,frozen_of hV _,frozen_of hV _,frozen_of hV _,frozen_of hV _,frozen_of hV _,frozen_of hV _,frozen_of hV _,frozen_of hV _,frozen_of hV _,frozen_of hV _,frozen_of hV _⟩
 have hjm:(j:Int) < (m:Int):=by omega
 have hkn:(k:Int) < (n:Int):=by omega
 have hj0:(0:Int)≤(j:Int):=by omega
 have hk0:(0:Int)≤(k:Int):=by omega
 have hjt:((j:Int)).toNat=j:=by omega
 have hkt:((k:Int)).toNat=k:=by omega
 obtain ⟨Wa,hWa⟩:∃ Wa,Wa=World.drew (w.alloc (.cells #[.int .i64 (k:Int),.string tx] 65)):=⟨_,rfl⟩
 have hba:Below w.heap.size w Wa:=by rw [hWa];exact drew_below ((Below.refl _ _).alloc (Nat.le_refl _) _)
 have hla:Wa.heap[w.heap.size]?=some (.cells #[.int .i64 (k:Int),.string tx] 65 (0,0)):=by rw [hWa,drew_heap];exact heap_alloc_new w _
 have HSA:Hid (w.heap.size < Wa.heap.size):=(Array.getElem?_eq_some_iff.1 hla).1
 have HBA:Hid (Below w.heap.size w Wa):=hba
 have HLA:Hid (Wa.heap[w.heap.size]?=some (.cells #[.int .i64 (k:Int),.string tx] 65 (0,0))):=hla
 have s1:Wa.cell? ⟨w.heap.size,1,none⟩=some (.string tx):=cellsAt hla 1
 clear hFS hng hG hF hRD hHR hLS hba hla c0 c1 c2 c3 c4 c5 c6 c7 c8 c9 c10 c11 hrow g0 hgl hbl hk hj
 go_enter Tryz.func102,Tryz.ntmps102
 go_wp2_with fail
 go_region_held3 (fun w'=>w'.cell? ⟨g,1,none⟩=some (.slice (some ⟨lb,0,none⟩) m cu)∧w'.cell? ⟨g,3,none⟩=some (.int .i64 (j:Int))∧w'.cell? ⟨lb,j * 2,none⟩=some (.int .i64 (k:Int))∧w'.cell? ⟨lb,j * 2+1,none⟩=some (.string tx)) (go_keep) (fail)
 go_wp2_with fail
 rw [← hWa]
 clear hWa g1 g3 l0 l1 hjm hj0 hjt
 refine (HRD.out Wa HBA.out).mono ?_
 rintro e w1 ⟨hb1,pf,pw,p2,q2,r2,p3,q3,r3,p4,q4,r4,p5,q5,r5,rfl,HG1⟩
 have HB1:Hid (Below w.heap.size w w1):=HBA.out.trans (hb1.mono HBA.out.size)
 have HL1:Hid (w1.heap[w.heap.size]?=some (.cells #[.int .i64 (k:Int),.string tx] 65 (0,0))):=(hb1.block _ HSA.out).trans HLA.out
 clear hb1 HRD s1
 obtain ⟨W2,hW2⟩:∃ W2,W2=w1.alloc (.cells #[.string pf,.bool pw,.slice p2 q2 r2,.slice p3 q3 r3,.slice p4 q4 r4,.slice p5 q5 r5] 67):=⟨_,rfl⟩
 have hb2:Below w1.heap.size w1 W2:=by rw [hW2];exact (Below.refl _ _).alloc (Nat.le_refl _) _
 have hp2:W2.heap[w1.heap.size]?=some (.cells #[.string pf,.bool pw,.slice p2 q2 r2,.slice p3 q3 r3,.slice p4 q4 r4,.slice p5 q5 r5] 67 (0,0)):=by rw [hW2];exact heap_alloc_new w1 _
 have HG2:Hid (G W2 [.string pf,.bool pw,.slice p2 q2 r2,.slice p3 q3 r3,.slice p4 q4 r4,.slice p5 q5 r5]):=HG.out _ _ _ HG1.out hb2
 have HB2:Hid (Below w.heap.size w W2):=HB1.out.trans (hb2.mono HB1.out.size)
 have HL2:Hid (W2.heap[w.heap.size]?=some (.cells #[.int .i64 (k:Int),.string tx] 65 (0,0))):=(hb2.block _ (Array.getElem?_eq_some_iff.1 HL1.out).1).trans HL1.out
 have HP2:Hid (W2.heap[w1.heap.size]?=some (.cells #[.string pf,.bool pw,.slice p2 q2 r2,.slice p3 q3 r3,.slice p4 q4 r4,.slice p5 q5 r5] 67 (0,0))):=hp2
 have g0:=(HX.out W2 HB2.out).1
 have s0:W2.cell? ⟨w.heap.size,0,none⟩=some (.int .i64 (k:Int)):=cellsAt HL2.out 0
 obtain ⟨c0,c1,c2,c3,c4,c5,c6,c7,c8,c9,c10,c11⟩:=HC.out W2 (HX.out W2 HB2.out).2
 obtain ⟨q0_,q1_,q2_,q3_,q4_,q5_⟩:=cells6 hp2
 clear hb2 hp2 HG1 HB1
 go_upto_region 3 with fail
 rw [← hW2]
 clear hW2 HL1
 have HQ6:Hid (∀ V:World,V.heap[w1.heap.size]?=some (.cells #[.string pf,.bool pw,.slice p2 q2 r2,.slice p3 q3 r3,.slice p4 q4 r4,.slice p5 q5 r5] 67 (0,0))→V.cell? ⟨w1.heap.size,0,none⟩=some (.string pf)∧V.cell? ⟨w1.heap.size,1,none⟩=some (.bool pw)∧V.cell? ⟨w1.heap.size,2,none⟩=some (.slice p2 q2 r2)∧V.cell? ⟨w1.heap.size,3,none⟩=some (.slice p3 q3 r3)∧V.cell? ⟨w1.heap.size,4,none⟩=some (.slice p4 q4 r4)∧V.cell? ⟨w1.heap.size,5,none⟩=some (.slice p5 q5 r5)):=fun V hV=>cells6 hV
 have HC3:Hid (∀ V:World,V.heap[nb]?=some (.cells R 51 (0,0))→∀ A:Prop,A→V.cell? ⟨nb,k * 12,none⟩=some (.string x0)∧V.cell? ⟨nb,k * 12+1,none⟩=some (.string x1)∧V.cell? ⟨nb,k * 12+2,none⟩=some (.slice a2 n2 k2)∧V.cell? ⟨nb,k * 12+3,none⟩=some (.slice a3 n3 k3)∧V.cell? ⟨nb,k * 12+4,none⟩=some (.slice a4 n4 k4)∧V.cell? ⟨nb,k * 12+5,none⟩=some (.slice a5 n5 k5)∧V.cell? ⟨nb,k * 12+6,none⟩=some (.int .i64 x6)∧V.cell? ⟨nb,k * 12+7,none⟩=some (.int .i64 x7)∧V.cell? ⟨nb,k * 12+8,none⟩=some (.int .i64 x8)∧V.cell? ⟨nb,k * 12+9,none⟩=some (.int .i64 x9)∧V.cell? ⟨nb,k * 12+10,none⟩=some (.int .i64 x10)∧V.cell? ⟨nb,k * 12+11,none⟩=some (.slice a11 n11 k11)∧A):=fun V hV A hA=>by
  obtain ⟨e0_,e1_,e2_,e3_,e4_,e5_,e6_,e7_,e8_,e9_,e10_,e11_⟩:=HC.out V hV
  exact ⟨e0_,e1_,e2_,e3_,e4_,e5_,e6_,e7_,e8_,e9_,e10_,e11_,hA⟩
 have ne1:W2.heap.size≠g:=fun e=>by have:=HB2.out.size;have:=World.block_lt_of_cell? W2 ⟨g,0,none⟩ g0;simp at this;omega
 have ne2:W2.heap.size≠w.heap.size:=fun e=>by have:=(Array.getElem?_eq_some_iff.1 HL2.out).1;omega
 have ne3:W2.heap.size≠nb:=fun e=>by have:=World.block_lt_of_cell? W2 ⟨nb,k * 12,none⟩ c0;simp at this;omega
 have ne4:W2.heap.size≠w1.heap.size:=fun e=>by have:=(Array.getElem?_eq_some_iff.1 HP2.out).1;omega
 go_region_held3 (fun w'=>w'.cell? ⟨g,0,none⟩=some (.slice (some ⟨nb,0,none⟩) n n)∧w'.cell? ⟨w.heap.size,0,none⟩=some (.int .i64 (k:Int))∧w'.cell? ⟨nb,k * 12,none⟩=some (.string x0)∧w'.cell? ⟨nb,k * 12+1,none⟩=some (.string x1)∧w'.cell? ⟨nb,k * 12+2,none⟩=some (.slice a2 n2 k2)∧w'.cell? ⟨nb,k * 12+3,none⟩=some (.slice a3 n3 k3)∧w'.cell? ⟨nb,k * 12+4,none⟩=some (.slice a4 n4 k4)∧w'.cell? ⟨nb,k * 12+5,none⟩=some (.slice a5 n5 k5)∧w'.cell? ⟨nb,k * 12+6,none⟩=some (.int .i64 x6)∧w'.cell? ⟨nb,k * 12+7,none⟩=some (.int .i64 x7)∧w'.cell? ⟨nb,k * 12+8,none⟩=some (.int .i64 x8)∧w'.cell? ⟨nb,k * 12+9,none⟩=some (.int .i64 x9)∧w'.cell? ⟨nb,k * 12+10,none⟩=some (.int .i64 x10)∧w'.cell? ⟨nb,k * 12+11,none⟩=some (.slice a11 n11 k11)∧w'.cell? ⟨w1.heap.size,0,none⟩=some (.string pf)∧w'.cell? ⟨w1.heap.size,1,none⟩=some (.bool pw)∧w'.cell? ⟨w1.heap.size,2,none⟩=some (.slice p2 q2 r2)∧w'.cell? ⟨w1.heap.size,3,none⟩=some (.slice p3 q3 r3)∧w'.cell? ⟨w1.heap.size,4,none⟩=some (.slice p4 q4 r4)∧w'.cell? ⟨w1.heap.size,5,none⟩=some (.slice p5 q5 r5)) (first | go_keep | (obtain ⟨i0_,i1_,i2_,i3_,i4_,i5_,i6_,i7_,i8_,i9_,i10_,i11_,i12_,i13_,i14_,i15_,i16_,i17_,i18_,i19_⟩:=hS;simp only [World.cell?_setCell_far,World.cell?_drew,ne_eq,ne1,ne2,ne3,ne4,not_false_eq_true,i0_,i1_,i2_,i3_,i4_,i5_,i6_,i7_,i8_,i9_,i10_,i11_,i12_,i13_,i14_,i15_,i16_,i17_,i18_,i19_,and_self])) (first | (go_at_call 32;refine Calls.mono (HHR.out _ _ _ _ _ _ _ _ _ _ _ _ _ _ _ (by first | exact drew_below HB2.out | exact drew_below (HB2.out.alloc HB2.out.size _)) (HG.out _ _ _ HG2.out (by first | exact drew_below (Below.refl _ _) | exact drew_below ((Below.refl _ _).alloc (Nat.le_refl _) _)))) ?_;rintro e w3 ⟨hb3,u0,u1,b2,m2,e2,b3,m3,e3,b4,m4,e4,b5,m5,e5,u6,u7,u8,u9,u10,b11,m11,e11,rfl,HF3⟩;first
  | (have HB3:Hid (Below W2.heap.size W2 w3):=(Below.refl W2.heap.size W2).drew.trans hb3
     have hS:w3.cell? ⟨g,0,none⟩=some (.slice (some ⟨nb,0,none⟩) n n)∧w3.cell? ⟨w.heap.size,0,none⟩=some (.int .i64 (k:Int))∧w3.cell? ⟨nb,k * 12,none⟩=some (.string x0)∧w3.cell? ⟨nb,k * 12+1,none⟩=some (.string x1)∧w3.cell? ⟨nb,k * 12+2,none⟩=some (.slice a2 n2 k2)∧w3.cell? ⟨nb,k * 12+3,none⟩=some (.slice a3 n3 k3)∧w3.cell? ⟨nb,k * 12+4,none⟩=some (.slice a4 n4 k4)∧w3.cell? ⟨nb,k * 12+5,none⟩=some (.slice a5 n5 k5)∧w3.cell? ⟨nb,k * 12+6,none⟩=some (.int .i64 x6)∧w3.cell? ⟨nb,k * 12+7,none⟩=some (.int .i64 x7)∧w3.cell? ⟨nb,k * 12+8,none⟩=some (.int .i64 x8)∧w3.cell? ⟨nb,k * 12+9,none⟩=some (.int .i64 x9)∧w3.cell? ⟨nb,k * 12+10,none⟩=some (.int .i64 x10)∧w3.cell? ⟨nb,k * 12+11,none⟩=some (.slice a11 n11 k11)∧w3.cell? ⟨w1.heap.size,0,none⟩=some (.string pf)∧w3.cell? ⟨w1.heap.size,1,none⟩=some (.bool pw)∧w3.cell? ⟨w1.heap.size,2,none⟩=some (.slice p2 q2 r2)∧w3.cell? ⟨w1.heap.size,3,none⟩=some (.slice p3 q3 r3)∧w3.cell? ⟨w1.heap.size,4,none⟩=some (.slice p4 q4 r4)∧w3.cell? ⟨w1.heap.size,5,none⟩=some (.slice p5 q5 r5):=⟨(HX.out w3 (HB2.out.trans (HB3.out.mono HB2.out.size))).1,cellsAt ((HB3.out.block _ (Array.getElem?_eq_some_iff.1 HL2.out).1).trans HL2.out) 0,HC3.out w3 (HX.out w3 (HB2.out.trans (HB3.out.mono HB2.out.size))).2 _ (HQ6.out w3 ((HB3.out.block _ (Array.getElem?_eq_some_iff.1 HP2.out).1).trans HP2.out))⟩
     clear hb3)
  | (have HB3:Hid (Below W2.heap.size W2 w3):=(drew_below ((Below.refl W2.heap.size W2).alloc (Nat.le_refl _) _)).trans (hb3.mono (by simp))
     have hz3:w3.heap[W2.heap.size]?=some (.cells #[.string ⟨#[]⟩,.string ⟨#[]⟩,.slice none 0 0,.slice none 0 0,.slice none 0 0,.slice none 0 0,.int .i64 0,.int .i64 0,.int .i64 0,.int .i64 0,.int .i64 0,.slice none 0 0] 51 (0,0)):=(hb3.block _ (by simp)).trans (heap_alloc_new W2 _)
     have hS:w3.cell? ⟨g,0,none⟩=some (.slice (some ⟨nb,0,none⟩) n n)∧w3.cell? ⟨w.heap.size,0,none⟩=some (.int .i64 (k:Int))∧w3.cell? ⟨nb,k * 12,none⟩=some (.string x0)∧w3.cell? ⟨nb,k * 12+1,none⟩=some (.string x1)∧w3.cell? ⟨nb,k * 12+2,none⟩=some (.slice a2 n2 k2)∧w3.cell? ⟨nb,k * 12+3,none⟩=some (.slice a3 n3 k3)∧w3.cell? ⟨nb,k * 12+4,none⟩=some (.slice a4 n4 k4)∧w3.cell? ⟨nb,k * 12+5,none⟩=some (.slice a5 n5 k5)∧w3.cell? ⟨nb,k * 12+6,none⟩=some (.int .i64 x6)∧w3.cell? ⟨nb,k * 12+7,none⟩=some (.int .i64 x7)∧w3.cell? ⟨nb,k * 12+8,none⟩=some (.int .i64 x8)∧w3.cell? ⟨nb,k * 12+9,none⟩=some (.int .i64 x9)∧w3.cell? ⟨nb,k * 12+10,none⟩=some (.int .i64 x10)∧w3.cell? ⟨nb,k * 12+11,none⟩=some (.slice a11 n11 k11)∧w3.cell? ⟨w1.heap.size,0,none⟩=some (.string pf)∧w3.cell? ⟨w1.heap.size,1,none⟩=some (.bool pw)∧w3.cell? ⟨w1.heap.size,2,none⟩=some (.slice p2 q2 r2)∧w3.cell? ⟨w1.heap.size,3,none⟩=some (.slice p3 q3 r3)∧w3.cell? ⟨w1.heap.size,4,none⟩=some (.slice p4 q4 r4)∧w3.cell? ⟨w1.heap.size,5,none⟩=some (.slice p5 q5 r5):=⟨(HX.out w3 (HB2.out.trans (HB3.out.mono HB2.out.size))).1,cellsAt ((HB3.out.block _ (Array.getElem?_eq_some_iff.1 HL2.out).1).trans HL2.out) 0,HC3.out w3 (HX.out w3 (HB2.out.trans (HB3.out.mono HB2.out.size))).2 _ (HQ6.out w3 ((HB3.out.block _ (Array.getElem?_eq_some_iff.1 HP2.out).1).trans HP2.out))⟩
     obtain ⟨f0,f1,f2,f3,f4,f5,f6,f7,f8,f9,f10,f11⟩:=cells12 hz3
     obtain ⟨h0,h1,h2,h3,h4,h5,h6,h7,h8,h9,h10,h11⟩:=frz12 hz3
     clear hb3)))
 all_goals
  first
  | (obtain ⟨V,hV⟩:∃ V,V=w3.alloc (.cells #[.string u0,.string u1,.slice b2 m2 e2,.slice b3 m3 e3,.slice b4 m4 e4,.slice b5 m5 e5,.int .i64 u6,.int .i64 u7,.int .i64 u8,.int .i64 u9,.int .i64 u10,.slice b11 m11 e11] 51):=⟨_,rfl⟩
     rw [← hV]
     have hmq:V.heap[w3.heap.size]?=some (.cells #[.string u0,.string u1,.slice b2 m2 e2,.slice b3 m3 e3,.slice b4 m4 e4,.slice b5 m5 e5,.int .i64 u6,.int .i64 u7,.int .i64 u8,.int .i64 u9,.int .i64 u10,.slice b11 m11 e11] 51 (0,0)):=by rw [hV];exact heap_alloc_new w3 _
     have HBV:Hid (Below W2.heap.size W2 V):=by rw [hV];exact HB3.out.alloc HB3.out.size _
     have HFV:Hid (F V [.string u0,.string u1,.slice b2 m2 e2,.slice b3 m3 e3,.slice b4 m4 e4,.slice b5 m5 e5,.int .i64 u6,.int .i64 u7,.int .i64 u8,.int .i64 u9,.int .i64 u10,.slice b11 m11 e11]):=by rw [hV];exact HF.out _ _ _ HF3.out ((Below.refl _ _).alloc (Nat.le_refl _) _)
     have hmb:w.heap.size≤w3.heap.size:=Nat.le_trans HB2.out.size HB3.out.size
     clear hV HF3 HB3 hS
     generalize w3.heap.size=mb at hmq hmb ⊢)
  | (obtain ⟨V,hV⟩:∃ V,V=((((((((((((w3.setCell ⟨W2.heap.size,0,none⟩ (.string u0)).setCell ⟨W2.heap.size,1,none⟩ (.string u1)).setCell ⟨W2.heap.size,2,none⟩ (.slice b2 m2 e2)).setCell ⟨W2.heap.size,3,none⟩ (.slice b3 m3 e3)).setCell ⟨W2.heap.size,4,none⟩ (.slice b4 m4 e4)).setCell ⟨W2.heap.size,5,none⟩ (.slice b5 m5 e5)).setCell ⟨W2.heap.size,6,none⟩ (.int .i64 u6)).setCell ⟨W2.heap.size,7,none⟩ (.int .i64 u7)).setCell ⟨W2.heap.size,8,none⟩ (.int .i64 u8)).setCell ⟨W2.heap.size,9,none⟩ (.int .i64 u9)).setCell ⟨W2.heap.size,10,none⟩ (.int .i64 u10)).setCell ⟨W2.heap.size,11,none⟩ (.slice b11 m11 e11)):=⟨_,rfl⟩
     rw [← hV]
     have hV2:V=setAll W2.heap.size [.string u0,.string u1,.slice b2 m2 e2,.slice b3 m3 e3,.slice b4 m4 e4,.slice b5 m5 e5,.int .i64 u6,.int .i64 u7,.int .i64 u8,.int .i64 u9,.int .i64 u10,.slice b11 m11 e11] 0 w3:=by rw [hV];simp only [setAll,Nat.zero_add,Nat.reduceAdd]
     clear hV f0 f1 f2 f3 f4 f5 f6 f7 f8 f9 f10 f11 h0 h1 h2 h3 h4 h5 h6 h7 h8 h9 h10 h11
     have hmq:V.heap[W2.heap.size]?=some (.cells #[.string u0,.string u1,.slice b2 m2 e2,.slice b3 m3 e3,.slice b4 m4 e4,.slice b5 m5 e5,.int .i64 u6,.int .i64 u7,.int .i64 u8,.int .i64 u9,.int .i64 u10,.slice b11 m11 e11] 51 (0,0)):=by rw [hV2];exact setAll12 hz3 _ _ _ _ _ _ _ _ _ _ _ _
     have HBV:Hid (Below W2.heap.size W2 V):=by rw [hV2];exact setAll_below (Nat.le_refl _) _ _ HB3.out
     have HFV:Hid (F V [.string u0,.string u1,.slice b2 m2 e2,.slice b3 m3 e3,.slice b4 m4 e4,.slice b5 m5 e5,.int .i64 u6,.int .i64 u7,.int .i64 u8,.int .i64 u9,.int .i64 u10,.slice b11 m11 e11]):=by rw [hV2];exact HFS.out _ _ _ _ _ HF3.out hz3
     have hmb:w.heap.size≤W2.heap.size:=HB2.out.size
     clear hV2 HF3 HB3 hS hz3
     generalize hmbe:W2.heap.size=mb at hmq hmb ⊢
     clear hmbe)
  have HBW:Hid (Below w.heap.size w V):=HB2.out.trans (HBV.out.mono HB2.out.size)
  have hlv:V.heap[w.heap.size]?=some (.cells #[.int .i64 (k:Int),.string tx] 65 (0,0)):=(HBV.out.block _ (Array.getElem?_eq_some_iff.1 HL2.out).1).trans HL2.out
  clear g0 s0 c0  c1  c2  c3  c4  c5  c6  c7  c8  c9  c10  c11  q0_ q1_ q2_ q3_ q4_ q5_
  have g0:=(HX.out V HBW.out).1
  have s0:V.cell? ⟨w.heap.size,0,none⟩=some (.int .i64 (k:Int)):=cellsAt hlv 0
  obtain ⟨c0,c1,c2,c3,c4,c5,c6,c7,c8,c9,c10,c11⟩:=HC.out V (HX.out V HBW.out).2
  obtain ⟨z0,z1,z2,z3,z4,z5,z6,z7,z8,z9,z10,z11⟩:=HZ.out V (HX.out V HBW.out).2
  obtain ⟨y0,y1,y2,y3,y4,y5,y6,y7,y8,y9,y10,y11⟩:=cells12 hmq
  have nE1:nb≠g:=fun e=>by
   have h1:=(HX.out V HBW.out).1
   rw [← e,cellsAt (HX.out V HBW.out).2 0] at h1
   exact HNG.out h1
  have nE2:nb≠w.heap.size:=fun e=>by have:=HNL.out;omega
  have nE3:nb≠mb:=fun e=>by have:=HNL.out;omega
  have HC5:=HLS.out V _ _ _ _ _ _ _ _ _ _ _ _ _ _ _ _ _ _ _ _ _ _ HBW.out HFV.out
  clear HBW HBV HFV hmq hlv hmb ne1 ne2 ne3 ne4
  go_wp2_with fail
  go_region_held3 (fun w'=>w'.cell? ⟨g,0,none⟩=some (.slice (some ⟨nb,0,none⟩) n n)∧w'.cell? ⟨w.heap.size,0,none⟩=some (.int .i64 (k:Int))∧w'.cell? ⟨mb,0,none⟩=some (.string u0)∧w'.cell? ⟨mb,1,none⟩=some (.string u1)∧w'.cell? ⟨mb,2,none⟩=some (.slice b2 m2 e2)∧w'.cell? ⟨mb,3,none⟩=some (.slice b3 m3 e3)∧w'.cell? ⟨mb,4,none⟩=some (.slice b4 m4 e4)∧w'.cell? ⟨mb,5,none⟩=some (.slice b5 m5 e5)∧w'.cell? ⟨mb,6,none⟩=some (.int .i64 u6)∧w'.cell? ⟨mb,7,none⟩=some (.int .i64 u7)∧w'.cell? ⟨mb,8,none⟩=some (.int .i64 u8)∧w'.cell? ⟨mb,9,none⟩=some (.int .i64 u9)∧w'.cell? ⟨mb,10,none⟩=some (.int .i64 u10)∧w'.cell? ⟨mb,11,none⟩=some (.slice b11 m11 e11)) (simp only [World.cell?_setCell_far,World.cell?_drew,ne_eq,nE1,nE2,nE3,not_false_eq_true,g0,s0,y0,y1,y2,y3,y4,y5,y6,y7,y8,y9,y10,y11,and_self]) (fail)
  go_wp2_with fail
  simp only [setAll,Nat.add_assoc,Nat.reduceAdd] at HC5
  refine HC5.mono ?_
  rintro e w6 ⟨rfl,hR6⟩
  have HR6:Hid (Rs w6):=hR6
  clear hR6 HC5 g0 s0 c0 z0 y0 c1 z1 y1 c2 z2 y2 c3 z3 y3 c4 z4 y4 c5 z5 y5 c6 z6 y6 c7 z7 y7 c8 z8 y8 c9 z9 y9 c10 z10 y10 c11 z11 y11
  go_wp2_with fail
  go_ret
  exact ⟨rfl,HR6.out⟩
end Go.Proofs.YtffdoiokmiklgaaGreatDoor
