import Derived.Test.YtffdoiokmiklgaaGreatDoortr46
import Derived.Test.YtffdoiokmiklgaaGreatDoortr39
import Derived.Test.YtffdoiokmiklgaaGreatDoortr38
import Derived.Test.YtffdoiokmiklgaaGreatDoortr40
import Derived.Test.YtffdoiokmiklgaaGreatDoortr43
import Derived.Test.YtffdoiokmiklgaaGreatDoortr16
import Derived.Test.YtffdoiokmiklgaaGreatDoortr42
import Derived.Lib.QuietBelow
import Derived.Deep.RegionHeld2
import Derived.StillTactics
namespace Go.Proofs.YtffdoiokmiklgaaGreatDoor
open Go.RowKit
theorem PkOwn.isW {base:Nat} {w:World} {p:Pk} {vm vs vg vw:Value} (h:PkOwn base w p vm vs vg vw) (hk:p.Wok):PkIs w p vm vs vg vw:=
 ⟨own_names h.ms (fun m hm=>by have:=(hk.ms.2 m hm).1;unfold maxLen;omega),Sv.own_names h.sv (fun m hm=>by obtain ⟨h1,h2,h3,h4,_⟩:=hk.sv.2 m hm;refine ⟨?_,?_,?_,?_⟩<;>(unfold maxLen;omega)),Gw.own_names h.gw (fun m hm=>by have:=(hk.gw.2 m hm).1;show _≤_;unfold maxLen;omega),Wh.own_names h.wh (fun m hm=>by have:=(hk.wh.2 m hm).1;show _≤_;unfold maxLen;omega),by have:=hk.frm;unfold maxLen;omega,roomy_own h.ms⟩
theorem nfl_cut (L:List Nx) (k:Nat) (hk:k < L.length):nfl L=nfl (L.take k)++(L.getD k nx0).cs++nfl (L.drop (k+1)):=by
 have h:L=L.take k++([L.getD k nx0]++L.drop (k+1)):=by
  rw [List.getD,List.getElem?_eq_getElem hk,Option.getD_some,List.singleton_append,List.getElem_cons_drop,List.take_append_drop]
 have h2:=congrArg nfl h
 rw [nfl_app,nfl_app,nfl_one,← List.append_assoc] at h2
 exact h2
theorem nfl_set (L:List Nx) (k:Nat) (hk:k < L.length) (y:Nx):nfl (L.set k y)=nfl (L.take k)++y.cs++nfl (L.drop (k+1)):=by
 rw [List.set_eq_take_append_cons_drop,if_pos hk,show L.take k++y :: L.drop (k+1)=L.take k++([y]++L.drop (k+1)) from rfl,nfl_app,nfl_app,nfl_one,List.append_assoc]
theorem NdOwn.row {B b:Nat} {w w':World} {n:Nd} {vm vr vs vg vw:Value} {cs:Array Value} (h:NdOwn B w n vm vr vs vg vw) (hb:w.heap[b]?=some (.cells cs 51 (0,0))) (hk:∀ q,q≠b→w'.heap[q]?=w.heap[q]?):NdOwn B w' n vm vr vs vg vw:=by
 have hq:∀ (q:Nat) (c:Array Value) (T:TypeId) (f:Nat × Nat),T≠51→w.heap[q]?=some (.cells c T f)→w'.heap[q]?=some (.cells c T f):=fun q c T f hT e=>(hk q (fun e2=>by subst e2;rw [hb] at e;simp at e;exact hT e.2.1.symm)).trans e
 exact ⟨row_ty h.ms (fun q c f e=>hq q c _ f (by decide) e),row_ty h.rs (fun q c f e=>hq q c _ f (by decide) e),row_ty h.sv (fun q c f e=>hq q c _ f (by decide) e),row_ty h.gw (fun q c f e=>hq q c _ f (by decide) e),row_ty h.wh (fun q c f e=>hq q c _ f (by decide) e)⟩
def IsNx (C:Nat) (n:Nd) (V:World) (xs:List Value):Prop:=∃ y:Nx,xs=y.cs∧y.n=n∧NdOwn C V y.n y.vm y.vr y.vs y.vg y.vw∧NdOk y.n
def IsPx (p:Pk) (V:World) (xs:List Value):Prop:=∃ vm vs vg vw,xs=[.string p.frm,.bool p.whole,vm,vs,vg,vw]∧PkIs V p vm vs vg vw
theorem NsOwn.turn {C nb k:Nat} {w V:World} {L:List Nx} {y:Nx} (h:NsOwn C w nb L) (hb:Below w.heap.size w V) (hC:C≤w.heap.size) (hk:k < L.length) (ho:NdOwn C V y.n y.vm y.vr y.vs y.vg y.vw) (hok:NdOk y.n):NsOwn C (World.drew (setAll nb y.cs (k * 12) V)) nb (L.set k y):=by
 have hv:=h.below hb hC
 have hoth:∀ q,q≠nb→(World.drew (setAll nb y.cs (k * 12) V)).heap[q]?=V.heap[q]?:=fun q hq=>by rw [drew_heap];exact setAll_other hq _ _ _
 refine ⟨h.le,?_,fun x hx=>?_,fun x hx=>?_⟩
 ·have hr:=hv.row
  rw [nfl_cut L k hk] at hr
  have h2:=setAll_mid (b:=nb) y.cs (nfl (L.take k)) (L.getD k nx0).cs (nfl (L.drop (k+1))) hr (by rw [ncs_len,ncs_len])
  rw [nfl_len,List.length_take,Nat.min_eq_left (by omega)] at h2
  rw [drew_heap,nfl_set L k hk]
  exact h2
 ·rcases List.mem_or_eq_of_mem_set hx with h1 | rfl
  ·exact (hv.own x h1).row hv.row hoth
  ·exact ho.row hv.row hoth
 ·rcases List.mem_or_eq_of_mem_set hx with h1 | rfl
  ·exact h.ok x h1
  ·exact hok
theorem Plr.row {C g nb:Nat} {w w':World} {un ul:Value} {ls:List Lt.Ltr} {v:Ev} {cs:Array Value} (h:Plr C w g un ul ls v) (hb:w.heap[nb]?=some (.cells cs 51 (0,0))) (hk:∀ q,q≠nb→w'.heap[q]?=w.heap[q]?):Plr C w' g un ul ls v:=by
 have hq:∀ (q:Nat) (c:Array Value) (T:TypeId) (f:Nat × Nat),T≠51→w.heap[q]?=some (.cells c T f)→w'.heap[q]?=some (.cells c T f):=fun q c T f hT e=>(hk q (fun e2=>by subst e2;rw [hb] at e;simp at e;exact hT e.2.1.symm)).trans e
 exact ⟨hq _ _ _ _ (by decide) h.hg,h.le,row_ty h.ls (fun q c f e=>hq q c _ f (by decide) e)⟩
set_option maxHeartbeats 6400000 in
set_option maxRecDepth 100000 in
theorem come_any (C g nb j k:Nat) (ul:Value) (ls:List Lt.Ltr) (v:Ev) (L:List Nx) (p:Pk) (w:World) (h:Plr C w g (.slice (some ⟨nb,0,none⟩) L.length L.length) ul ls v) (hN:NsOwn C w nb L) (hC:C≤w.heap.size) (h20:ls.length≤20) (hv:v.which=(j:Int)) (hj:j < ls.length) (to:Int) (tx:ByteArray) (hl:ls.getD j Lt.dm=⟨to,tx⟩) (hto:to=(k:Int)) (hk:k < L.length)
 (hrd:rdR tx.data.toList=some p) (hsz:tx.data.toList.length≤16777216) (he:(L.getD k nx0).n.e=0) (hh:hrE (L.getD k nx0).n p=0) (hV:Rv w.heap.size w) (hHr:∀ W vm vr vs vg vw zm zs zg zw,NdIs W (L.getD k nx0).n vm vr vs vg vw→PkIs W p zm zs zg zw→Calls Tryz.prog 32 #[.agg (ndA (L.getD k nx0).n vm vr vs vg vw),.agg #[.string p.frm,.bool p.whole,zm,zs,zg,zw]] W fun e w'=>OpSays (L.getD k nx0).n.e (hrE (L.getD k nx0).n p) (hrN (L.getD k nx0).n p) W e w') :
 Calls Tryz.prog 102 #[.pointer (some ⟨g,0,none⟩)] w fun e w'=>e=.returned (.int .i64 0)∧Below C w w'∧∃ y a kk c,y.n=hrN (L.getD k nx0).n p∧NsOwn C w' nb (L.set k y)∧Plr C w' g (.slice (some ⟨nb,0,none⟩) L.length L.length) (.slice a kk c) (ls.eraseIdx j) v:=by
 have hg0:w.cell? ⟨g,0,none⟩=some (.slice (some ⟨nb,0,none⟩) L.length L.length):=cellsAt h.hg 0
 have hg1:w.cell? ⟨g,1,none⟩=some ul:=cellsAt h.hg 1
 have hg3:w.cell? ⟨g,3,none⟩=some (.int .i64 (j:Int)):=by rw [← hv];exact cellsAt h.hg 3
 obtain ⟨hpB,hpe⟩:=rdR_some.1 hrd
 have hwok:=pk_wok hpe
 obtain ⟨lb,cu,hul⟩:∃ lb cu,ul=.slice (some ⟨lb,0,none⟩) ls.length cu:=by
  rcases h.ls.2 with ⟨_,h0⟩ | ⟨b',c,cur,rfl,_⟩
  ·omega
  ·exact ⟨b',c,rfl⟩
 have hls:=h.ls
 rw [hul] at hls hg1
 have hlc:∀ i,i < 2→w.cell? ⟨lb,j * 2+i,none⟩=[Value.int .i64 (k:Int),.string tx][i]?:=fun i hi=>by
  rw [World.ownsRow.cellAt hls _ (by have:=Lt.fl_len ls;omega)]
  have h2:=Lt.fl_get ls j hj i hi
  rw [h2,hl,hto]
  rfl
 have hc:=fun i hi=>nfl_get L k hk i hi
 have ho:=hN.own _ (nx_mem hk)
 have hok:=hN.ok _ (nx_mem hk)
 generalize hx:L.getD k nx0=x at *
 obtain ⟨⟨nm,ct,ms,rs,sv,gw,⟨px,py,pz,ph,pq⟩,wh⟩,vm,vr,vs,vg,vw⟩:=x
 obtain ⟨a2,c2,h2⟩:=row_form ho.ms
 obtain ⟨a3,c3,h3⟩:=row_form ho.rs
 obtain ⟨a4,c4,h4⟩:=row_form ho.sv
 obtain ⟨a5,c5,h5⟩:=row_form ho.gw
 obtain ⟨a11,c11,h11⟩:=row_form ho.wh
 simp only at h2 h3 h4 h5 h11
 subst h2 h3 h4 h5 h11
 refine come_at g nb L.length k lb ls.length cu j tx (nfl L).toArray nm ct a2 a3 a4 a5 a11 _ c2 _ c3 _ c4 _ c5 _ c11 px py pz ph pq w (IsNx C (hrN ⟨nm,ct,ms,rs,sv,gw,⟨px,py,pz,ph,pq⟩,wh⟩ p)) (IsPx p) _ hk hj hg0 hg1 hg3 (hlc 0 (by omega)) (hlc 1 (by omega)) hN.row
  (List.getElem?_toArray.trans (hc 0 (by omega))) (List.getElem?_toArray.trans (hc 1 (by omega))) (List.getElem?_toArray.trans (hc 2 (by omega))) (List.getElem?_toArray.trans (hc 3 (by omega))) (List.getElem?_toArray.trans (hc 4 (by omega))) (List.getElem?_toArray.trans (hc 5 (by omega))) (List.getElem?_toArray.trans (hc 6 (by omega))) (List.getElem?_toArray.trans (hc 7 (by omega))) (List.getElem?_toArray.trans (hc 8 (by omega))) (List.getElem?_toArray.trans (hc 9 (by omega))) (List.getElem?_toArray.trans (hc 10 (by omega))) (List.getElem?_toArray.trans (hc 11 (by omega)))
  ?_ ?_ ?_ ?_ ?_ ?_ ?_
 ·rintro V V' xs ⟨vm,vs,vg,vw,rfl,hp⟩ hb
  exact ⟨vm,vs,vg,vw,rfl,hp.below hb⟩
 ·rintro V V' xs ⟨y,rfl,hy,ho2,hk2⟩ hb
  exact ⟨y,rfl,hy,ho2.below hb,hk2⟩
 ·rintro V xs b cs Ls ⟨y,rfl,hy,ho2,hk2⟩ hb
  exact ⟨y,rfl,hy,ho2.row hb (fun q hq=>setAll_other hq _ _ _),hk2⟩
 ·intro e
  have h0:=nfl_get L 0 (by omega) 0 (by omega)
  simp only [List.getElem?_toArray] at e
  rw [Nat.zero_mul,Nat.zero_add,e] at h0
  simp [Nx.cs] at h0
 ·intro W hW
  refine (pread_b (l:=tx.data.toList) (hV.after hW) hsz).mono ?_
  rintro e w' ⟨hb,⟨p',wm,ws,wg,ww,ho',rfl,hpo⟩ | ⟨ho',_⟩⟩
  ·rw [hrd] at ho'
   cases ho'
   obtain ⟨b2,d2,e2⟩:=row_form hpo.ms
   obtain ⟨b3,d3,e3⟩:=row_form hpo.sv
   obtain ⟨b4,d4,e4⟩:=row_form hpo.gw
   obtain ⟨b5,d5,e5⟩:=row_form hpo.wh
   subst e2 e3 e4 e5
   exact ⟨hb,p.frm,p.whole,b2,_,d2,b3,_,d3,b4,_,d4,b5,_,d5,rfl,_,_,_,_,rfl,hpo.isW hwok⟩
  ·rw [hrd] at ho';cases ho'
 ·rintro W pf pw p2 q2 r2 p3 q3 r3 p4 q4 r4 p5 q5 r5 hW ⟨wm,ws,wg,ww,hxs,hp⟩
  simp only [List.cons.injEq,Value.string.injEq,Value.bool.injEq,and_true] at hxs
  obtain ⟨rfl,rfl,rfl,rfl,rfl,rfl⟩:=hxs
  have hI:=(ho.is hok).below hW
  refine (hHr W _ _ _ _ _ _ _ _ _ hI hp).mono ?_
  rintro e w' ⟨hb,⟨hne,_⟩ | ⟨_,hne,_⟩ | ⟨_,_,um,ur,us,ug,uw,rfl,ho',hk'⟩⟩
  ·exact absurd he hne
  ·exact absurd hh hne
  ·have hCW:C≤W.heap.size:=Nat.le_trans hC hW.size
   have ho2:=ho'.mono hCW
   clear ho'
   generalize hrN ⟨nm,ct,ms,rs,sv,gw,⟨px,py,pz,ph,pq⟩,wh⟩ p=n' at *
   obtain ⟨b2,d2,e2⟩:=row_form ho2.ms
   obtain ⟨b3,d3,e3⟩:=row_form ho2.rs
   obtain ⟨b4,d4,e4⟩:=row_form ho2.sv
   obtain ⟨b5,d5,e5⟩:=row_form ho2.gw
   obtain ⟨b11,d11,e11⟩:=row_form ho2.wh
   subst e2 e3 e4 e5 e11
   exact ⟨hb,n'.name,n'.centre,b2,_,d2,b3,_,d3,b4,_,d4,b5,_,d5,n'.p.x,n'.p.y,n'.p.z,n'.p.h,n'.p.s,b11,_,d11,rfl,⟨n',_,_,_,_,_⟩,rfl,rfl,ho2,hk'⟩
 ·rintro V u0 u1 b2 m2 e2 b3 m3 e3 b4 m4 e4 b5 m5 e5 u6 u7 u8 u9 u10 b11 m11 e11 hVb ⟨y,hys,hy,ho2,hk2⟩
  rw [hys]
  have hNt:=hN.turn hVb hC hk ho2 hk2
  have hoth:∀ q,q≠nb→(World.drew (setAll nb y.cs (k * 12) V)).heap[q]?=V.heap[q]?:=fun q hq=>by rw [drew_heap];exact setAll_other hq _ _ _
  have hP:=(h.below hVb).row (hN.below hVb hC).row hoth
  refine (lose_any C g j _ ul ls v _ hP h20 hv hj).mono ?_
  rintro e w' ⟨rfl,hm,a,kk,c,hp⟩
  refine ⟨rfl,?_,y,a,kk,c,hy,hNt.mv hm,hp⟩
  exact (drew_below (setAll_below hN.le _ _ (hVb.mono hC))).trans hm.below
set_option maxHeartbeats 12800000 in
set_option maxRecDepth 100000 in
theorem become_at (g nb n j:Nat) (R:Array Value) (v0 v1 v2 v3 v4 v5 v6 v7 v8 v9 v10 v11:Value) (u0 u1:ByteArray) (b2 b3 b4 b5 b11:Option Addr) (m2 e2 m3 e3 m4 e4 m5 e5 m11 e11:Nat) (u6 u7 u8 u9 u10:Int) (w:World) (hj:j < n) (g0:w.cell? ⟨g,0,none⟩=some (.slice (some ⟨nb,0,none⟩) n n)) (g3:w.cell? ⟨g,3,none⟩=some (.int .i64 (j:Int))) (hrow:w.heap[nb]?=some (.cells R 51 (0,0))) (hng:nb≠g) (c0:R[j * 12]?=some v0) (c1:R[j * 12+1]?=some v1) (c2:R[j * 12+2]?=some v2) (c3:R[j * 12+3]?=some v3) (c4:R[j * 12+4]?=some v4) (c5:R[j * 12+5]?=some v5) (c6:R[j * 12+6]?=some v6) (c7:R[j * 12+7]?=some v7) (c8:R[j * 12+8]?=some v8) (c9:R[j * 12+9]?=some v9) (c10:R[j * 12+10]?=some v10) (c11:R[j * 12+11]?=some v11) :
 Calls Tryz.prog 106 #[.pointer (some ⟨g,0,none⟩),.agg #[.string u0,.string u1,.slice b2 m2 e2,.slice b3 m3 e3,.slice b4 m4 e4,.slice b5 m5 e5,.int .i64 u6,.int .i64 u7,.int .i64 u8,.int .i64 u9,.int .i64 u10,.slice b11 m11 e11],.int .i64 0] w fun e w'=>e=.returned (.int .i64 0)∧w'=World.drew (setAll nb [.string u0,.string u1,.slice b2 m2 e2,.slice b3 m3 e3,.slice b4 m4 e4,.slice b5 m5 e5,.int .i64 u6,.int .i64 u7,.int .i64 u8,.int .i64 u9,.int .i64 u10,.slice b11 m11 e11] (j * 12) (w.alloc (.cells #[.string u0,.string u1,.slice b2 m2 e2,.slice b3 m3 e3,.slice b4 m4 e4,.slice b5 m5 e5,.int .i64 u6,.int .i64 u7,.int .i64 u8,.int .i64 u9,.int .i64 u10,.slice b11 m11 e11] 51))):=by
 have hgl:g < w.heap.size:=World.block_lt_of_cell? w _ g0
 have hbl:nb < w.heap.size:=(Array.getElem?_eq_some_iff.1 hrow).1
 obtain ⟨V,hV⟩:∃ V,V=w.alloc (.cells #[.string u0,.string u1,.slice b2 m2 e2,.slice b3 m3 e3,.slice b4 m4 e4,.slice b5 m5 e5,.int .i64 u6,.int .i64 u7,.int .i64 u8,.int .i64 u9,.int .i64 u10,.slice b11 m11 e11] 51):=⟨_,rfl⟩
 have hbV:Below w.heap.size w V:=by rw [hV];exact (Below.refl _ _).alloc (Nat.le_refl _) _
 have hmq:V.heap[w.heap.size]?=some (.cells #[.string u0,.string u1,.slice b2 m2 e2,.slice b3 m3 e3,.slice b4 m4 e4,.slice b5 m5 e5,.int .i64 u6,.int .i64 u7,.int .i64 u8,.int .i64 u9,.int .i64 u10,.slice b11 m11 e11] 51 (0,0)):=by rw [hV];exact heap_alloc_new w _
 have hrV:V.heap[nb]?=some (.cells R 51 (0,0)):=(hbV.block nb hbl).trans hrow
 have a0:V.cell? ⟨g,0,none⟩=some (.slice (some ⟨nb,0,none⟩) n n):=(hbV.cell (p:=⟨g,0,none⟩) hgl).trans g0
 have a3:V.cell? ⟨g,3,none⟩=some (.int .i64 (j:Int)):=(hbV.cell (p:=⟨g,3,none⟩) hgl).trans g3
 have d0:V.cell? ⟨nb,j * 12,none⟩=some v0:=(cellsAt hrV _).trans c0
 have z0:V.frozen? ⟨nb,j * 12,none⟩=false:=frozen_of hrV _
 have d1:V.cell? ⟨nb,j * 12+1,none⟩=some v1:=(cellsAt hrV _).trans c1
 have z1:V.frozen? ⟨nb,j * 12+1,none⟩=false:=frozen_of hrV _
 have d2:V.cell? ⟨nb,j * 12+2,none⟩=some v2:=(cellsAt hrV _).trans c2
 have z2:V.frozen? ⟨nb,j * 12+2,none⟩=false:=frozen_of hrV _
 have d3:V.cell? ⟨nb,j * 12+3,none⟩=some v3:=(cellsAt hrV _).trans c3
 have z3:V.frozen? ⟨nb,j * 12+3,none⟩=false:=frozen_of hrV _
 have d4:V.cell? ⟨nb,j * 12+4,none⟩=some v4:=(cellsAt hrV _).trans c4
 have z4:V.frozen? ⟨nb,j * 12+4,none⟩=false:=frozen_of hrV _
 have d5:V.cell? ⟨nb,j * 12+5,none⟩=some v5:=(cellsAt hrV _).trans c5
 have z5:V.frozen? ⟨nb,j * 12+5,none⟩=false:=frozen_of hrV _
 have d6:V.cell? ⟨nb,j * 12+6,none⟩=some v6:=(cellsAt hrV _).trans c6
 have z6:V.frozen? ⟨nb,j * 12+6,none⟩=false:=frozen_of hrV _
 have d7:V.cell? ⟨nb,j * 12+7,none⟩=some v7:=(cellsAt hrV _).trans c7
 have z7:V.frozen? ⟨nb,j * 12+7,none⟩=false:=frozen_of hrV _
 have d8:V.cell? ⟨nb,j * 12+8,none⟩=some v8:=(cellsAt hrV _).trans c8
 have z8:V.frozen? ⟨nb,j * 12+8,none⟩=false:=frozen_of hrV _
 have d9:V.cell? ⟨nb,j * 12+9,none⟩=some v9:=(cellsAt hrV _).trans c9
 have z9:V.frozen? ⟨nb,j * 12+9,none⟩=false:=frozen_of hrV _
 have d10:V.cell? ⟨nb,j * 12+10,none⟩=some v10:=(cellsAt hrV _).trans c10
 have z10:V.frozen? ⟨nb,j * 12+10,none⟩=false:=frozen_of hrV _
 have d11:V.cell? ⟨nb,j * 12+11,none⟩=some v11:=(cellsAt hrV _).trans c11
 have z11:V.frozen? ⟨nb,j * 12+11,none⟩=false:=frozen_of hrV _
 obtain ⟨y0,y1,y2,y3,y4,y5,y6,y7,y8,y9,y10,y11⟩:=cells12 hmq
 have nE2:nb≠w.heap.size:=by omega
 have hjn:(j:Int) < (n:Int):=by omega
 have hj0:(0:Int)≤(j:Int):=by omega
 have hjt:((j:Int)).toNat=j:=by omega
 obtain ⟨W5,hW5⟩:∃ W5,W5=World.drew (setAll nb [.string u0,.string u1,.slice b2 m2 e2,.slice b3 m3 e3,.slice b4 m4 e4,.slice b5 m5 e5,.int .i64 u6,.int .i64 u7,.int .i64 u8,.int .i64 u9,.int .i64 u10,.slice b11 m11 e11] (j * 12) V):=⟨_,rfl⟩
 rw [← hV,← hW5]
 clear hbV hmq hrV g0 g3 hrow hgl hbl hj c0 c1 c2 c3 c4 c5 c6 c7 c8 c9 c10 c11
 simp only [setAll,Nat.add_assoc,Nat.reduceAdd] at hW5
 go_enter Tryz.func106,Tryz.ntmps106
 go_upto_region 1 with fail
 rw [← hV]
 clear hV
 go_wp2_with fail
 go_region_held3 (fun w'=>w'.cell? ⟨g,0,none⟩=some (.slice (some ⟨nb,0,none⟩) n n)∧w'.cell? ⟨g,3,none⟩=some (.int .i64 (j:Int))∧w'.cell? ⟨w.heap.size,0,none⟩=some (.string u0)∧w'.cell? ⟨w.heap.size,1,none⟩=some (.string u1)∧w'.cell? ⟨w.heap.size,2,none⟩=some (.slice b2 m2 e2)∧w'.cell? ⟨w.heap.size,3,none⟩=some (.slice b3 m3 e3)∧w'.cell? ⟨w.heap.size,4,none⟩=some (.slice b4 m4 e4)∧w'.cell? ⟨w.heap.size,5,none⟩=some (.slice b5 m5 e5)∧w'.cell? ⟨w.heap.size,6,none⟩=some (.int .i64 u6)∧w'.cell? ⟨w.heap.size,7,none⟩=some (.int .i64 u7)∧w'.cell? ⟨w.heap.size,8,none⟩=some (.int .i64 u8)∧w'.cell? ⟨w.heap.size,9,none⟩=some (.int .i64 u9)∧w'.cell? ⟨w.heap.size,10,none⟩=some (.int .i64 u10)∧w'.cell? ⟨w.heap.size,11,none⟩=some (.slice b11 m11 e11)) (simp only [World.cell?_setCell_far,World.cell?_drew,ne_eq,hng,nE2,not_false_eq_true,a0,a3,y0,y1,y2,y3,y4,y5,y6,y7,y8,y9,y10,y11,and_self]) (fail)
 go_wp2_with fail
 rw [← hW5]
 go_ret
 exact ⟨rfl,rfl⟩
theorem become_any (C g nb j:Nat) (ul:Value) (ls:List Lt.Ltr) (v:Ev) (L:List Nx) (y:Nx) (w:World) (h:Plr C w g (.slice (some ⟨nb,0,none⟩) L.length L.length) ul ls v) (hN:NsOwn C w nb L) (hC:C≤w.heap.size) (hv:v.which=(j:Int)) (hj:j < L.length) (ho:NdOwn C w y.n y.vm y.vr y.vs y.vg y.vw) (hk:NdOk y.n) :
 Calls Tryz.prog 106 #[.pointer (some ⟨g,0,none⟩),.agg (ndA y.n y.vm y.vr y.vs y.vg y.vw),.int .i64 0] w fun e w'=>e=.returned (.int .i64 0)∧Below C w w'∧NsOwn C w' nb (L.set j y)∧Plr C w' g (.slice (some ⟨nb,0,none⟩) L.length L.length) ul ls v∧∀ q,q≠nb→q < w.heap.size→w'.heap[q]?=w.heap[q]?:=by
 have hg0:w.cell? ⟨g,0,none⟩=some (.slice (some ⟨nb,0,none⟩) L.length L.length):=cellsAt h.hg 0
 have hg3:w.cell? ⟨g,3,none⟩=some (.int .i64 (j:Int)):=by rw [← hv];exact cellsAt h.hg 3
 have hng:nb≠g:=fun e=>by
  have h1:=hN.row
  rw [e,h.hg] at h1
  simp at h1
 have hc:=fun i hi=>nfl_get L j hj i hi
 have hcs:∀ i,i < 12→∃ u,(nfl L).toArray[j * 12+i]?=some u:=fun i hi=>by
  refine ⟨(L.getD j nx0).cs[i]'(by rw [ncs_len];exact hi),?_⟩
  rw [List.getElem?_toArray,hc i hi,List.getElem?_eq_getElem]
 obtain ⟨v0,c0⟩:=hcs 0 (by omega)
 obtain ⟨v1,c1⟩:=hcs 1 (by omega)
 obtain ⟨v2,c2⟩:=hcs 2 (by omega)
 obtain ⟨v3,c3⟩:=hcs 3 (by omega)
 obtain ⟨v4,c4⟩:=hcs 4 (by omega)
 obtain ⟨v5,c5⟩:=hcs 5 (by omega)
 obtain ⟨v6,c6⟩:=hcs 6 (by omega)
 obtain ⟨v7,c7⟩:=hcs 7 (by omega)
 obtain ⟨v8,c8⟩:=hcs 8 (by omega)
 obtain ⟨v9,c9⟩:=hcs 9 (by omega)
 obtain ⟨v10,c10⟩:=hcs 10 (by omega)
 obtain ⟨v11,c11⟩:=hcs 11 (by omega)
 have hb:Below w.heap.size w (w.alloc (.cells (ndA y.n y.vm y.vr y.vs y.vg y.vw) 51)):=(Below.refl _ _).alloc (Nat.le_refl _) _
 have hoth:∀ q,q≠nb→(World.drew (setAll nb y.cs (j * 12) (w.alloc (.cells (ndA y.n y.vm y.vr y.vs y.vg y.vw) 51)))).heap[q]?=(w.alloc (.cells (ndA y.n y.vm y.vr y.vs y.vg y.vw) 51)).heap[q]?:=fun q hq=>by rw [drew_heap];exact setAll_other hq _ _ _
 have HF:Below C w (World.drew (setAll nb y.cs (j * 12) (w.alloc (.cells (ndA y.n y.vm y.vr y.vs y.vg y.vw) 51))))∧NsOwn C (World.drew (setAll nb y.cs (j * 12) (w.alloc (.cells (ndA y.n y.vm y.vr y.vs y.vg y.vw) 51)))) nb (L.set j y)∧Plr C (World.drew (setAll nb y.cs (j * 12) (w.alloc (.cells (ndA y.n y.vm y.vr y.vs y.vg y.vw) 51)))) g (.slice (some ⟨nb,0,none⟩) L.length L.length) ul ls v∧∀ q,q≠nb→q < w.heap.size→(World.drew (setAll nb y.cs (j * 12) (w.alloc (.cells (ndA y.n y.vm y.vr y.vs y.vg y.vw) 51)))).heap[q]?=w.heap[q]? :=
  ⟨drew_below (setAll_below hN.le _ _ (hb.mono hC)),hN.turn hb hC hj (ho.below hb) hk,(h.below hb).row (hN.below hb hC).row hoth,fun q hq hl=>(hoth q hq).trans (hb.block q hl)⟩
 obtain ⟨⟨nm,ct,ms,rs,sv,gw,⟨px,py,pz,ph,pq⟩,wh⟩,vm,vr,vs,vg,vw⟩:=y
 obtain ⟨a2,x2,h2⟩:=row_form ho.ms
 obtain ⟨a3,x3,h3⟩:=row_form ho.rs
 obtain ⟨a4,x4,h4⟩:=row_form ho.sv
 obtain ⟨a5,x5,h5⟩:=row_form ho.gw
 obtain ⟨a11,x11,h11⟩:=row_form ho.wh
 simp only at h2 h3 h4 h5 h11
 subst h2 h3 h4 h5 h11
 refine (become_at g nb L.length j (nfl L).toArray v0 v1 v2 v3 v4 v5 v6 v7 v8 v9 v10 v11 _ _ _ _ _ _ _ _ _ _ _ _ _ _ _ _ _ _ _ _ _ _ w hj hg0 hg3 hN.row hng c0 c1 c2 c3 c4 c5 c6 c7 c8 c9 c10 c11).mono ?_
 rintro e w' ⟨rfl,rfl⟩
 exact ⟨rfl,HF⟩
def evA (v:Ev):Array Value:=#[.int .i64 v.kind,.int .i64 v.which,.int .i64 v.other,.int .i64 v.n,.string v.name,.int .i64 v.p.x,.int .i64 v.p.y,.int .i64 v.p.z,.int .i64 v.p.h,.int .i64 v.p.s,.string v.s.node,.string v.s.idn,.string v.s.name,.string v.s.tag,.int .i64 v.s.addr,.int .i64 v.s.port,.bool v.s.passing,.int .i64 v.s.version,.bool v.s.gone]
def NtHas (C:Nat) (w:World) (t:Nt) (un ul:Value):Prop:=∃ nb L,un=.slice (some ⟨nb,0,none⟩) L.length L.length∧L.map (·.n)=t.ns∧NsOwn C w nb L∧Lt.Own C w ul t.ls
theorem NsOwn.nrow {C nb:Nat} {w:World} {L:List Nx} (h:NsOwn C w nb L):NRow w nb 0 (L.map (·.n)):=fun j hj=>by
 have hjL:j < L.length:=by simpa using hj
 have hn:(L.getD j nx0).n=(L.map (·.n)).getD j ndZ:=by
  rw [List.getD,List.getD,List.getElem?_map,List.getElem?_eq_getElem hjL];rfl
 have ho:=h.own _ (nx_mem hjL)
 have hk:=h.ok _ (nx_mem hjL)
 have hg:=fun i hi=>h.cell hjL i hi
 rw [← hn]
 exact ⟨_,_,_,_,_,ho.is hk,fun i hi=>by rw [hg i hi,Nx.cs,Array.getElem?_toList]⟩
theorem NtHas.is {C:Nat} {w:World} {t:Nt} {un ul:Value} (h:NtHas C w t un ul) (hk:∀ l∈t.ls,l.ok):NtIs w t un ul:=by
 obtain ⟨nb,L,rfl,hm,hN,hl⟩:=h
 have hr:=hN.nrow
 rw [hm] at hr
 refine ⟨⟨some ⟨nb,0,none⟩,L.length,by rw [← hm,List.length_map],.inr ⟨nb,0,rfl,(Array.getElem?_eq_some_iff.1 hN.row).1,hr⟩⟩,Lt.own_names hl hk⟩
theorem NsOwn.keep {C nb:Nat} {w w':World} {L:List Nx} (h:NsOwn C w nb L) (hk:∀ b,C≤b→b < w.heap.size→w'.heap[b]?=w.heap[b]?):NsOwn C w' nb L:=⟨h.le,(hk nb h.le (Array.getElem?_eq_some_iff.1 h.row).1).trans h.row,fun x hx=>(h.own x hx).keep hk,h.ok⟩
theorem NsOwn.mono {A C nb:Nat} {w:World} {L:List Nx} (h:NsOwn C w nb L) (hA:A≤C):NsOwn A w nb L:=⟨Nat.le_trans hA h.le,h.row,fun x hx=>(h.own x hx).mono hA,h.ok⟩
theorem exec_load_row {P:Program} {a:Act} {o:Oper} {W:World} (ty:TypeId) (x:Operand) (ho:o.op=.load ty x) (g:Nat) (hx:a.eval x=.pointer (some ⟨g,0,none⟩)) (T:TypeId) (cs:Array Value) (fr:Nat × Nat) (d:TypeDesc) (hg:W.heap[g]?=some (.cells cs T fr)) (hu:P.underlying ty=some d) (hd:(match d with | .struct _ | .array _ _=>true | _=>false)=true) (hi:(P.info? ty).map (·.size)=some cs.size):(execOp a.eval o).run P W=.ok (.value (.agg cs)) W:=by
 unfold execOp
 simp only [ho,hx,Instr.loadAt,Instr.sureAddr,Sem.run_bind,Sem.run_pure,Result.andThen_ok,run_loadVar_row W g T ty cs fr d hg hu hd hi]
def StepSays (w:World) (t:Nt) (e:Ending) (w':World):Prop:=Below w.heap.size w w'∧∃ a k c b l d,e=.returned (.tuple #[.agg #[.slice a k c,.slice b l d],.int .i64 0])∧NtHas w.heap.size w' t (.slice a k c) (.slice b l d)
set_option maxHeartbeats 12800000 in
set_option maxRecDepth 100000 in
theorem step_of (t t':Nt) (vn vl:Value) (v:Ev) (w:World) (hV:Rv w.heap.size w) (h:NtIs w t vn vl) (hs:t.Short) (he:t.e=0)
 (hP:∀ W C g nb ul L,Below w.heap.size w W→w.heap.size≤C→C≤W.heap.size→NsOwn C W nb L→L.map (·.n)=t.ns→Plr C W g (.slice (some ⟨nb,0,none⟩) L.length L.length) ul t.ls v→Calls Tryz.prog 35 #[.pointer (some ⟨g,0,none⟩)] W fun e w'=>e=.returned (.int .i64 0)∧Below C W w'∧∃ a k c L',L'.length=L.length∧L'.map (·.n)=t'.ns∧NsOwn C w' nb L'∧Plr C w' g (.slice (some ⟨nb,0,none⟩) L.length L.length) (.slice a k c) t'.ls v) :
 Calls Tryz.prog 16 #[.agg #[vn,vl],.agg (evA v)] w (StepSays w t'):=by
 have HCK:Hid (∀ W,Below w.heap.size w W→Calls Tryz.prog 11 #[.agg #[vn,vl]] W fun e w'=>e=.returned (.int .i64 0)∧Below W.heap.size W w'):=fun W hW=>by
  have hc:=netCheck_any t vn vl W (hV.after hW) (h.below hW) hs
  rw [he] at hc;exact hc
 have hz:=Nt.e_zero he
 have hnok:=h.ns.ok
 have HCP:Hid (∀ W,Below w.heap.size w W→Calls Tryz.prog 18 #[.agg #[vn,vl]] W fun e w'=>∃ nb n a l c,e=.returned (.agg #[.slice (some ⟨nb,0,none⟩) n n,.slice a l c])∧Below W.heap.size W w'∧Hid (∃ L,n=L.length∧L.map (·.n)=t.ns∧NsOwn W.heap.size w' nb L∧Lt.Own W.heap.size w' (.slice a l c) t.ls)):=fun W hW=>by
  refine (copied_any t vn vl W (h.below hW) hz.1 hz.2.1 (fun n hn=>Nd.e_len (hz.2.2.1 n hn))).mono ?_
  rintro e w' ⟨un,a,l,c,L,rfl,ho,hb⟩
  have hun:=ho.un
  subst hun
  have hLn:t.ns.length=L.length:=by rw [← ho.ns,List.length_map]
  exact ⟨_,_,_,_,_,rfl,hb,L,hLn,ho.ns,⟨by omega,ho.row,fun x hx=>(ho.own x hx).mono (by omega),fun x hx=>hnok _ (by rw [← ho.ns];exact List.mem_map_of_mem hx)⟩,Lt.Own.mono ho.ls (by omega)⟩
 have HP:Hid (∀ W C g nb ul L,Below w.heap.size w W→w.heap.size≤C→C≤W.heap.size→NsOwn C W nb L→L.map (·.n)=t.ns→Plr C W g (.slice (some ⟨nb,0,none⟩) L.length L.length) ul t.ls v→Calls Tryz.prog 35 #[.pointer (some ⟨g,0,none⟩)] W fun e w'=>e=.returned (.int .i64 0)∧Below C W w'∧∃ a k c L',L'.length=L.length∧L'.map (·.n)=t'.ns∧NsOwn C w' nb L'∧Plr C w' g (.slice (some ⟨nb,0,none⟩) L.length L.length) (.slice a k c) t'.ls v):=hP
 obtain ⟨⟨pn,cn,hvn,_⟩,⟨pl,cl,hvl,_,_⟩⟩:=h
 subst hvn hvl
 clear hP hV hs hz hnok he
 generalize t.ns.length=n at *
 generalize t.ls.length=m at *
 obtain ⟨k0,k1,k2,k3,nm,⟨p0,p1,p2,p3,p4⟩,⟨s0,s1,s2,s3,s4,s5,s6,s7,s8⟩⟩:=v
 simp only [evA]
 obtain ⟨W0,hW0⟩:∃ W0,W0=((w.alloc (.cells #[.slice pn n cn,.slice pl m cl] 25)).alloc (.cells #[.int .i64 k0,.int .i64 k1,.int .i64 k2,.int .i64 k3,.string nm,.int .i64 p0,.int .i64 p1,.int .i64 p2,.int .i64 p3,.int .i64 p4,.string s0,.string s1,.string s2,.string s3,.int .i64 s4,.int .i64 s5,.bool s6,.int .i64 s7,.bool s8] 44)).alloc (.cells #[.slice none 0 0,.slice none 0 0] 25):=⟨_,rfl⟩
 have hb0:Below w.heap.size w W0:=by rw [hW0];exact (((Below.refl _ _).alloc (Nat.le_refl _) _).alloc (by simp) _).alloc (by simp;omega) _
 have hs0:W0.heap.size=w.heap.size+3:=by rw [hW0];simp
 have hn0:W0.heap[w.heap.size]?=some (.cells #[.slice pn n cn,.slice pl m cl] 25 (0,0)):=by rw [hW0];exact ((Lib.alloc_old _ _ _ (by simp;omega)).trans (Lib.alloc_old _ _ _ (by simp))).trans (heap_alloc_new w _)
 have he0:W0.heap[w.heap.size+1]?=some (.cells #[.int .i64 k0,.int .i64 k1,.int .i64 k2,.int .i64 k3,.string nm,.int .i64 p0,.int .i64 p1,.int .i64 p2,.int .i64 p3,.int .i64 p4,.string s0,.string s1,.string s2,.string s3,.int .i64 s4,.int .i64 s5,.bool s6,.int .i64 s7,.bool s8] 44 (0,0)):=by
  rw [hW0]
  have:=heap_alloc_new (w.alloc (.cells #[.slice pn n cn,.slice pl m cl] 25)) (.cells #[.int .i64 k0,.int .i64 k1,.int .i64 k2,.int .i64 k3,.string nm,.int .i64 p0,.int .i64 p1,.int .i64 p2,.int .i64 p3,.int .i64 p4,.string s0,.string s1,.string s2,.string s3,.int .i64 s4,.int .i64 s5,.bool s6,.int .i64 s7,.bool s8] 44)
  refine (Lib.alloc_old _ _ _ (by simp)).trans ?_
  simpa using this
 have hr0:W0.heap[w.heap.size+2]?=some (.cells #[.slice none 0 0,.slice none 0 0] 25 (0,0)):=by
  rw [hW0]
  have:=heap_alloc_new ((w.alloc (.cells #[.slice pn n cn,.slice pl m cl] 25)).alloc (.cells #[.int .i64 k0,.int .i64 k1,.int .i64 k2,.int .i64 k3,.string nm,.int .i64 p0,.int .i64 p1,.int .i64 p2,.int .i64 p3,.int .i64 p4,.string s0,.string s1,.string s2,.string s3,.int .i64 s4,.int .i64 s5,.bool s6,.int .i64 s7,.bool s8] 44)) (.cells #[.slice none 0 0,.slice none 0 0] 25)
  simpa using this
 have HB0:Hid (Below w.heap.size w W0):=hb0
 have HX:Hid (∀ W,Below W0.heap.size W0 W→W.heap[w.heap.size]?=some (.cells #[.slice pn n cn,.slice pl m cl] 25 (0,0))∧W.heap[w.heap.size+1]?=some (.cells #[.int .i64 k0,.int .i64 k1,.int .i64 k2,.int .i64 k3,.string nm,.int .i64 p0,.int .i64 p1,.int .i64 p2,.int .i64 p3,.int .i64 p4,.string s0,.string s1,.string s2,.string s3,.int .i64 s4,.int .i64 s5,.bool s6,.int .i64 s7,.bool s8] 44 (0,0))∧W.heap[w.heap.size+2]?=some (.cells #[.slice none 0 0,.slice none 0 0] 25 (0,0))):=fun W hW=>⟨(hW.block _ (by omega)).trans hn0,(hW.block _ (by omega)).trans he0,(hW.block _ (by omega)).trans hr0⟩
 have HSC:Hid (∀ W:World,W.heap[w.heap.size]?=some (.cells #[.slice pn n cn,.slice pl m cl] 25 (0,0))→W.heap[w.heap.size+1]?=some (.cells #[.int .i64 k0,.int .i64 k1,.int .i64 k2,.int .i64 k3,.string nm,.int .i64 p0,.int .i64 p1,.int .i64 p2,.int .i64 p3,.int .i64 p4,.string s0,.string s1,.string s2,.string s3,.int .i64 s4,.int .i64 s5,.bool s6,.int .i64 s7,.bool s8] 44 (0,0))→W.cell? ⟨w.heap.size,0,none⟩=some (.slice pn n cn)∧W.cell? ⟨w.heap.size,1,none⟩=some (.slice pl m cl)∧W.cell? ⟨w.heap.size+1,0,none⟩=some (.int .i64 k0)∧W.cell? ⟨w.heap.size+1,1,none⟩=some (.int .i64 k1)∧W.cell? ⟨w.heap.size+1,2,none⟩=some (.int .i64 k2)∧W.cell? ⟨w.heap.size+1,3,none⟩=some (.int .i64 k3)∧W.cell? ⟨w.heap.size+1,4,none⟩=some (.string nm)∧W.cell? ⟨w.heap.size+1,5,none⟩=some (.int .i64 p0)∧W.cell? ⟨w.heap.size+1,6,none⟩=some (.int .i64 p1)∧W.cell? ⟨w.heap.size+1,7,none⟩=some (.int .i64 p2)∧W.cell? ⟨w.heap.size+1,8,none⟩=some (.int .i64 p3)∧W.cell? ⟨w.heap.size+1,9,none⟩=some (.int .i64 p4)∧W.cell? ⟨w.heap.size+1,10,none⟩=some (.string s0)∧W.cell? ⟨w.heap.size+1,11,none⟩=some (.string s1)∧W.cell? ⟨w.heap.size+1,12,none⟩=some (.string s2)∧W.cell? ⟨w.heap.size+1,13,none⟩=some (.string s3)∧W.cell? ⟨w.heap.size+1,14,none⟩=some (.int .i64 s4)∧W.cell? ⟨w.heap.size+1,15,none⟩=some (.int .i64 s5)∧W.cell? ⟨w.heap.size+1,16,none⟩=some (.bool s6)∧W.cell? ⟨w.heap.size+1,17,none⟩=some (.int .i64 s7)∧W.cell? ⟨w.heap.size+1,18,none⟩=some (.bool s8)):=fun W h1 h2=>⟨cellsAt h1 0,cellsAt h1 1,cellsAt h2 0,cellsAt h2 1,cellsAt h2 2,cellsAt h2 3,cellsAt h2 4,cellsAt h2 5,cellsAt h2 6,cellsAt h2 7,cellsAt h2 8,cellsAt h2 9,cellsAt h2 10,cellsAt h2 11,cellsAt h2 12,cellsAt h2 13,cellsAt h2 14,cellsAt h2 15,cellsAt h2 16,cellsAt h2 17,cellsAt h2 18⟩
 have n0:W0.cell? ⟨w.heap.size,0,none⟩=some (.slice pn n cn):=cellsAt hn0 0
 have n1:W0.cell? ⟨w.heap.size,1,none⟩=some (.slice pl m cl):=cellsAt hn0 1
 have HS0:Hid (W0.heap.size=w.heap.size+3):=hs0
 clear hb0 hs0 hn0 he0 hr0
 go_enter Tryz.func16,Tryz.ntmps16
 go_upto_region 1 with fail
 rw [← hW0]
 clear hW0
 go_wp2_with fail
 refine (HCK.out W0 HB0.out).mono ?_
 rintro e w1 ⟨rfl,hb1⟩
 have HB01:Hid (Below W0.heap.size W0 w1):=hb1
 have HB1:Hid (Below w.heap.size w w1):=HB0.out.trans (hb1.mono HB0.out.size)
 clear hb1 n0 n1 HCK
 go_wp2_with fail
 refine wp_region_held_drew (S:=fun W=>W.heap[w.heap.size]?=some (.cells #[.slice pn n cn,.slice pl m cl] 25 (0,0))∧W.heap[w.heap.size+1]?=some (.cells #[.int .i64 k0,.int .i64 k1,.int .i64 k2,.int .i64 k3,.string nm,.int .i64 p0,.int .i64 p1,.int .i64 p2,.int .i64 p3,.int .i64 p4,.string s0,.string s1,.string s2,.string s3,.int .i64 s4,.int .i64 s5,.bool s6,.int .i64 s7,.bool s8] 44 (0,0))) (by kernel_rfl) ⟨(HX.out w1 HB01.out).1,(HX.out w1 HB01.out).2.1⟩ (fun hHeld=>?_)
 refine wpAnyH_take (i:=0) (v:=.agg #[.slice pn n cn,.slice pl m cl]) rfl (by kernel_rfl) (by kernel_rfl) (by kernel_rfl) (fun _ _ _ h=>h) (Or.inl ⟨by rfl,?hy⟩) (by assumption) ?_
 case hy=>
  intro W hSw
  have i0:W.cell? ⟨w.heap.size,0,none⟩=some (.slice pn n cn):=cellsAt hSw.1 0
  have i1:W.cell? ⟨w.heap.size,1,none⟩=some (.slice pl m cl):=cellsAt hSw.1 1
  clear hSw hHeld
  go_simp
  try with_reducible rfl
 refine wpAnyH_take (i:=2) (v:=.agg #[.int .i64 k0,.int .i64 k1,.int .i64 k2,.int .i64 k3,.string nm,.int .i64 p0,.int .i64 p1,.int .i64 p2,.int .i64 p3,.int .i64 p4,.string s0,.string s1,.string s2,.string s3,.int .i64 s4,.int .i64 s5,.bool s6,.int .i64 s7,.bool s8]) rfl (by kernel_rfl) (by kernel_rfl) (by kernel_rfl) (fun _ _ _ h=>h) (Or.inl ⟨by rfl,?hy⟩) (by assumption) ?_
 case hy=>exact fun W hSw=>exec_load_row 44 (.tmp 3) rfl (w.heap.size+1) rfl 44 #[.int .i64 k0,.int .i64 k1,.int .i64 k2,.int .i64 k3,.string nm,.int .i64 p0,.int .i64 p1,.int .i64 p2,.int .i64 p3,.int .i64 p4,.string s0,.string s1,.string s2,.string s3,.int .i64 s4,.int .i64 s5,.bool s6,.int .i64 s7,.bool s8] (0,0) _ hSw.2 Tryz.underlying44 rfl (by kernel_rfl)
 refine wpAnyH_ready (rs:=[1]) (by kernel_rfl) (by simp) ?_
 refine AllReadyH.cons rfl (fun K hK=>?_) AllReadyH.nil
 have HK:Hid _:=hK
 clear hK
 go_simp
 refine Calls.mono (HCP.out _ (drew_below HB1.out)) ?_
 rintro e w2 ⟨nb,nn,a,l,c,rfl,hb2,HN2⟩
 have HB02:Hid (Below W0.heap.size W0 w2):=(drew_below HB01.out).trans (hb2.mono HB01.out.size)
 clear hb2
 refine HK.out _ _ ⟨(HX.out w2 HB02.out).1,(HX.out w2 HB02.out).2.1⟩ (fun hHeld=>?_)
 clear HK K
 refine wpAnyH_take (i:=3) (v:=.agg #[.slice (some ⟨nb,0,none⟩) nn nn,.slice a l c,.int .i64 k0,.int .i64 k1,.int .i64 k2,.int .i64 k3,.string nm,.int .i64 p0,.int .i64 p1,.int .i64 p2,.int .i64 p3,.int .i64 p4,.string s0,.string s1,.string s2,.string s3,.int .i64 s4,.int .i64 s5,.bool s6,.int .i64 s7,.bool s8]) rfl (by kernel_rfl) (by kernel_rfl) (by kernel_rfl) (fun _ _ _ h=>h) (Or.inl ⟨by rfl,?hy⟩) (by assumption) ?_
 case hy=>(intro W hSw;clear hSw hHeld;go_simp;try with_reducible rfl)
 refine wpAnyH_ready (rs:=[4]) (by kernel_rfl) (by simp) ?_
 refine AllReadyH.cons rfl (fun K hK=>?_) AllReadyH.nil
 have HK:Hid _:=hK
 clear hK
 go_simp
 refine HK.out _ _ ⟨((Below.refl w2.heap.size w2).alloc (Nat.le_refl _) _).block _ (Array.getElem?_eq_some_iff.1 (HX.out w2 HB02.out).1).1 |>.trans (HX.out w2 HB02.out).1,((Below.refl w2.heap.size w2).alloc (Nat.le_refl _) _).block _ (Array.getElem?_eq_some_iff.1 (HX.out w2 HB02.out).2.1).1 |>.trans (HX.out w2 HB02.out).2.1⟩ (fun hHeld=>?_)
 clear HK K
 refine wpAnyH_take (i:=5) (v:=.pointer (some ⟨w2.heap.size,0,none⟩)) rfl (by kernel_rfl) (by kernel_rfl) (by kernel_rfl) (fun _ _ _ h=>h) (Or.inl ⟨by rfl,?hy⟩) (by assumption) ?_
 case hy=>(intro W hSw;clear hSw hHeld;go_simp;try with_reducible rfl)
 refine wpAnyH_done (by kernel_rfl) ?_ _
 clear hHeld
 go_wp2_with fail
 obtain ⟨L,hnn,hmap,hN,hL⟩:=HN2.out
 subst hnn
 obtain ⟨W3,hW3⟩:∃ W3,W3=w2.alloc (.cells #[.slice (some ⟨nb,0,none⟩) L.length L.length,.slice a l c,.int .i64 k0,.int .i64 k1,.int .i64 k2,.int .i64 k3,.string nm,.int .i64 p0,.int .i64 p1,.int .i64 p2,.int .i64 p3,.int .i64 p4,.string s0,.string s1,.string s2,.string s3,.int .i64 s4,.int .i64 s5,.bool s6,.int .i64 s7,.bool s8] 75):=⟨_,rfl⟩
 have hb3:Below w2.heap.size w2 W3:=by rw [hW3];exact (Below.refl _ _).alloc (Nat.le_refl _) _
 have hC2:W0.heap.size≤w1.drew.heap.size:=HB01.out.size
 have hC3:W0.heap.size≤w2.heap.size:=HB02.out.size
 have HB03:Hid (Below W0.heap.size W0 W3):=HB02.out.trans (hb3.mono hC3)
 have hg3:W3.heap[w2.heap.size]?=some (.cells #[.slice (some ⟨nb,0,none⟩) L.length L.length,.slice a l c,.int .i64 k0,.int .i64 k1,.int .i64 k2,.int .i64 k3,.string nm,.int .i64 p0,.int .i64 p1,.int .i64 p2,.int .i64 p3,.int .i64 p4,.string s0,.string s1,.string s2,.string s3,.int .i64 s4,.int .i64 s5,.bool s6,.int .i64 s7,.bool s8] 75 (0,0)):=by rw [hW3];exact heap_alloc_new w2 _
 have HPL:=HP.out W3 W0.heap.size w2.heap.size nb (.slice a l c) L (HB0.out.trans (HB03.out.mono HB0.out.size)) HB0.out.size HB03.out.size ((hN.below hb3 (by have:=hN.le;have:=(Array.getElem?_eq_some_iff.1 hN.row).1;omega)).mono hC2) hmap ⟨hg3,hC3,(Lt.Own.mono hL hC2).below hb3⟩
 clear hb3 hg3 hN hL hmap HN2 HP hC2
 rw [← hW3]
 clear hW3
 refine HPL.mono ?_
 rintro e w4 ⟨rfl,hb4,a4,k4,c4,L4,hlen4,hmap4,hN4,hP4⟩
 have hr4:w4.heap[w.heap.size+2]?=some (.cells #[.slice none 0 0,.slice none 0 0] 25 (0,0)):=(hb4.block _ (by have:=HS0.out;omega)).trans (HX.out W3 HB03.out).2.2
 have x0:w4.cell? ⟨w2.heap.size,0,none⟩=some (.slice (some ⟨nb,0,none⟩) L.length L.length):=cellsAt hP4.hg 0
 have x1:w4.cell? ⟨w2.heap.size,1,none⟩=some (.slice a4 k4 c4):=cellsAt hP4.hg 1
 obtain ⟨W5,hW5⟩:∃ W5,W5=setAll (w.heap.size+2) [.slice (some ⟨nb,0,none⟩) L.length L.length,.slice a4 k4 c4] 0 w4:=⟨_,rfl⟩
 have hk5:W5.heap[w.heap.size+2]?=some (.cells #[.slice (some ⟨nb,0,none⟩) L.length L.length,.slice a4 k4 c4] 25 (0,0)):=by rw [hW5];exact setAll_block [.slice (some ⟨nb,0,none⟩) L.length L.length,.slice a4 k4 c4] [] [.slice none 0 0,.slice none 0 0] hr4 rfl
 have hoth:∀ q,q≠w.heap.size+2→W5.heap[q]?=w4.heap[q]?:=fun q hq=>by rw [hW5];exact setAll_other hq _ _ _
 have hkk:∀ b,W0.heap.size≤b→b < w4.heap.size→W5.heap[b]?=w4.heap[b]?:=fun b hb _=>hoth b (by have:=HS0.out;omega)
 have HRES:Hid (StepSays w t' (.returned (.tuple #[.agg #[.slice (some ⟨nb,0,none⟩) L.length L.length,.slice a4 k4 c4],.int .i64 0])) W5):=by
  refine ⟨by rw [hW5];exact setAll_below (by omega) _ _ ((HB0.out.trans (HB03.out.mono HB0.out.size)).trans (hb4.mono HB0.out.size)),_,_,_,_,_,_,rfl,nb,L4,by rw [hlen4],hmap4,(hN4.keep hkk).mono HB0.out.size,Lt.Own.mono (row_keep hkk hP4.ls) HB0.out.size⟩
 have g0:w4.cell? ⟨w.heap.size+2,0,none⟩=some (.slice none 0 0):=cellsAt hr4 0
 have g1:w4.cell? ⟨w.heap.size+2,1,none⟩=some (.slice none 0 0):=cellsAt hr4 1
 have f0:w4.frozen? ⟨w.heap.size+2,0,none⟩=false:=frozen_of hr4 0
 have f1:w4.frozen? ⟨w.heap.size+2,1,none⟩=false:=frozen_of hr4 1
 have q0:W5.cell? ⟨w.heap.size+2,0,none⟩=some (.slice (some ⟨nb,0,none⟩) L.length L.length):=cellsAt hk5 0
 have q1:W5.cell? ⟨w.heap.size+2,1,none⟩=some (.slice a4 k4 c4):=cellsAt hk5 1
 clear hr4 hk5 hoth hkk hP4 hN4 hmap4 hb4 hlen4 HPL HX HSC HB03 HB02 HB01 HB1 HB0 HS0 hC3 HCP
 generalize L.length=nl at *
 go_wp2_with fail
 simp only [setAll,Nat.zero_add] at hW5
 rw [← hW5]
 clear hW5 g0 g1 f0 f1 x0 x1
 exact bodyPost_ret (v:=.tuple #[.agg #[.slice (some ⟨nb,0,none⟩) nl nl,.slice a4 k4 c4],.int .i64 0]) (by simp [results,Tryz.results16,go_sem,q0,q1]) rfl HRES.out
set_option maxHeartbeats 6400000 in
set_option maxRecDepth 100000 in
theorem there1 (g n:Nat) (a:Option Addr) (cap:Nat) (x y:Int) (w:World) (h0:w.cell? ⟨g,0,none⟩=some (.slice a n cap)) (h2:w.cell? ⟨g,2,none⟩=some (.int .i64 1)) (h3:w.cell? ⟨g,3,none⟩=some (.int .i64 x)) (h4:w.cell? ⟨g,4,none⟩=some (.int .i64 y)) (hn:n≤6) (hx:within x 0 ((n:Int) - 1)=true) (hy:within y 0 ((n:Int) - 1)=true) :
 Calls Tryz.prog 69 #[.pointer (some ⟨g,0,none⟩)] w fun e w'=>e=.returned (.bool true)∧Below w.heap.size w w':=by
 have hgl:g < w.heap.size:=World.block_lt_of_cell? w _ h0
 have H1:Hid (Calls Tryz.prog 84 #[.pointer (some ⟨g,0,none⟩),.int .i64 x] w fun e w'=>e=.returned (.bool true)∧Below w.heap.size w w'):=by
  have:=isNode_any g n a cap x w h0 hn
  rw [hx] at this;exact this
 have H2:Hid (∀ W:World,Below w.heap.size w W→Calls Tryz.prog 84 #[.pointer (some ⟨g,0,none⟩),.int .i64 y] W fun e w'=>e=.returned (.bool true)∧Below W.heap.size W w'):=fun W hW=>by
  have:=isNode_any g n a cap y W ((hW.cell (p:=⟨g,0,none⟩) hgl).trans h0) hn
  rw [hy] at this;exact this
 clear hx hy hn
 go_enter Tryz.func69,Tryz.ntmps69
 go_wp2_with fail
 refine H1.out.mono ?_
 rintro e w1 ⟨rfl,hb1⟩
 have HB1:Hid (Below w.heap.size w w1):=hb1
 have g4:w1.cell? ⟨g,4,none⟩=some (.int .i64 y):=(hb1.cell (p:=⟨g,4,none⟩) hgl).trans h4
 clear hb1 hgl
 go_wp2_with fail
 refine (H2.out w1 HB1.out).mono ?_
 rintro e w2 ⟨rfl,hb2⟩
 have HB2:Hid (Below w.heap.size w w2):=HB1.out.trans (hb2.mono HB1.out.size)
 clear hb2
 go_wp2_with fail
 go_ret
 exact ⟨rfl,HB2.out⟩
set_option maxHeartbeats 6400000 in
set_option maxRecDepth 100000 in
theorem there2 (g n:Nat) (a:Option Addr) (cap:Nat) (x y:Int) (w:World) (h0:w.cell? ⟨g,0,none⟩=some (.slice a n cap)) (h2:w.cell? ⟨g,2,none⟩=some (.int .i64 2)) (h3:w.cell? ⟨g,3,none⟩=some (.int .i64 x)) (h4:w.cell? ⟨g,4,none⟩=some (.int .i64 y)) (hn:n≤6) (hx:within x 0 ((n:Int) - 1)=true) (hy:within y 0 ((n:Int) - 1)=true) :
 Calls Tryz.prog 69 #[.pointer (some ⟨g,0,none⟩)] w fun e w'=>e=.returned (.bool true)∧Below w.heap.size w w':=by
 have hgl:g < w.heap.size:=World.block_lt_of_cell? w _ h0
 have H1:Hid (Calls Tryz.prog 84 #[.pointer (some ⟨g,0,none⟩),.int .i64 x] w fun e w'=>e=.returned (.bool true)∧Below w.heap.size w w'):=by
  have:=isNode_any g n a cap x w h0 hn
  rw [hx] at this;exact this
 have H2:Hid (∀ W:World,Below w.heap.size w W→Calls Tryz.prog 84 #[.pointer (some ⟨g,0,none⟩),.int .i64 y] W fun e w'=>e=.returned (.bool true)∧Below W.heap.size W w'):=fun W hW=>by
  have:=isNode_any g n a cap y W ((hW.cell (p:=⟨g,0,none⟩) hgl).trans h0) hn
  rw [hy] at this;exact this
 clear hx hy hn
 go_enter Tryz.func69,Tryz.ntmps69
 go_wp2_with fail
 refine H1.out.mono ?_
 rintro e w1 ⟨rfl,hb1⟩
 have HB1:Hid (Below w.heap.size w w1):=hb1
 have g4:w1.cell? ⟨g,4,none⟩=some (.int .i64 y):=(hb1.cell (p:=⟨g,4,none⟩) hgl).trans h4
 clear hb1 hgl
 go_wp2_with fail
 refine (H2.out w1 HB1.out).mono ?_
 rintro e w2 ⟨rfl,hb2⟩
 have HB2:Hid (Below w.heap.size w w2):=HB1.out.trans (hb2.mono HB1.out.size)
 clear hb2
 go_wp2_with fail
 go_ret
 exact ⟨rfl,HB2.out⟩
set_option maxHeartbeats 6400000 in
set_option maxRecDepth 100000 in
theorem there3 (g m:Nat) (a:Option Addr) (cap:Nat) (x:Int) (w:World) (h1:w.cell? ⟨g,1,none⟩=some (.slice a m cap)) (h2:w.cell? ⟨g,2,none⟩=some (.int .i64 3)) (h3:w.cell? ⟨g,3,none⟩=some (.int .i64 x)) (hm:m≤20) (hx:within x 0 ((m:Int) - 1)=true) :
 Calls Tryz.prog 69 #[.pointer (some ⟨g,0,none⟩)] w fun e w'=>e=.returned (.bool true)∧Below w.heap.size w w':=by
 have hz:IntKind.i64.wrap ((m:Int) - 1)=(m:Int) - 1:=by rw [IntKind.wrap_i64];omega
 have HX:Hid (within x 0 ((m:Int) - 1)=true):=hx
 have HWI:Hid (∀ W:World,Calls Tryz.prog 76 #[.int .i64 x,.int .i64 0,.int .i64 ((m:Int) - 1)] W fun e w'=>e=.returned (.bool true)∧w'=W):=fun W=>by
  refine (within_any x 0 ((m:Int) - 1) W).mono ?_
  rintro e w' ⟨rfl,rfl⟩
  exact ⟨by rw [HX.out],rfl⟩
 clear hx
 go_enter Tryz.func69,Tryz.ntmps69
 go_wp2_with fail
 have F1:∀ d os,(Go.Sort.grow (redrawn w d) os).cell? ⟨g,1,none⟩=some (.slice a m cap):=cell_regrown h1
 have F3:∀ d os,(Go.Sort.grow (redrawn w d) os).cell? ⟨g,3,none⟩=some (.int .i64 x):=cell_regrown h3
 have C0:∀ d os,Calls Tryz.prog 76 #[.int .i64 x,.int .i64 0,.int .i64 ((m:Int) - 1)] (Go.Sort.grow (redrawn w d) os) fun e w''=>e=.returned (.bool true)∧∃ p:Regrown,w''=Go.Sort.grow (redrawn w p.d) p.os:=fun d os=>Calls.regrown_of ((HWI.out _).mono (fun e w' h=>⟨h.1,by rw [h.2];exact Below.refl _ _⟩))
 refine wp_region_quiet_below (by kernel_rfl) (by kernel_rfl) ?_
 repeat (quiet_step (exact C0 _ _))
 refine wpQuiet_nil ?_
 intro _ hw'
 obtain ⟨⟨dq,osq⟩,hw''⟩:=hw'
 subst hw''
 have HBQ:Hid (Below w.heap.size w (Go.Sort.grow (redrawn w dq) osq)):=below_regrown w dq osq
 clear C0 F1 F3
 go_wp2_with fail
 go_ret
 exact ⟨rfl,HBQ.out⟩
set_option maxHeartbeats 6400000 in
set_option maxRecDepth 100000 in
theorem there6 (g n:Nat) (a:Option Addr) (cap:Nat) (x:Int) (w:World) (h0:w.cell? ⟨g,0,none⟩=some (.slice a n cap)) (h2:w.cell? ⟨g,2,none⟩=some (.int .i64 6)) (h3:w.cell? ⟨g,3,none⟩=some (.int .i64 x)) (hn:n≤6) (hx:within x 0 ((n:Int) - 1)=true) :
 Calls Tryz.prog 69 #[.pointer (some ⟨g,0,none⟩)] w fun e w'=>e=.returned (.bool true)∧Below w.heap.size w w':=by
 have H1:Hid (Calls Tryz.prog 84 #[.pointer (some ⟨g,0,none⟩),.int .i64 x] w fun e w'=>e=.returned (.bool true)∧Below w.heap.size w w'):=by
  have:=isNode_any g n a cap x w h0 hn
  rw [hx] at this;exact this
 clear hx hn
 go_enter Tryz.func69,Tryz.ntmps69
 go_wp2_with fail
 refine H1.out.mono ?_
 rintro e w1 ⟨rfl,hb1⟩
 have HB1:Hid (Below w.heap.size w w1):=hb1
 clear hb1
 go_wp2_with fail
 go_ret
 exact ⟨rfl,HB1.out⟩
set_option maxHeartbeats 6400000 in
set_option maxRecDepth 100000 in
theorem there7 (g n:Nat) (a:Option Addr) (cap:Nat) (x:Int) (w:World) (h0:w.cell? ⟨g,0,none⟩=some (.slice a n cap)) (h2:w.cell? ⟨g,2,none⟩=some (.int .i64 7)) (h3:w.cell? ⟨g,3,none⟩=some (.int .i64 x)) (hn:n≤6) (hx:within x 0 ((n:Int) - 1)=true) :
 Calls Tryz.prog 69 #[.pointer (some ⟨g,0,none⟩)] w fun e w'=>e=.returned (.bool true)∧Below w.heap.size w w':=by
 have H1:Hid (Calls Tryz.prog 84 #[.pointer (some ⟨g,0,none⟩),.int .i64 x] w fun e w'=>e=.returned (.bool true)∧Below w.heap.size w w'):=by
  have:=isNode_any g n a cap x w h0 hn
  rw [hx] at this;exact this
 clear hx hn
 go_enter Tryz.func69,Tryz.ntmps69
 go_wp2_with fail
 refine H1.out.mono ?_
 rintro e w1 ⟨rfl,hb1⟩
 have HB1:Hid (Below w.heap.size w w1):=hb1
 clear hb1
 go_wp2_with fail
 go_ret
 exact ⟨rfl,HB1.out⟩
theorem getD_map_n {L:List Nx} {ns:List Nd} (hm:L.map (·.n)=ns) {j:Nat} (hj:j < L.length):(L.getD j nx0).n=ns.getD j ndZ:=by
 rw [← hm,List.getD,List.getD,List.getElem?_map,List.getElem?_eq_getElem hj];rfl
theorem within_nat {k n:Nat} (h:k < n):within (k:Int) 0 ((n:Int) - 1)=true:=by
 unfold within;simp;omega
theorem step_whole (t:Nt) (vn vl:Value) (v:Ev) (w:World) (j k:Nat) (hV:Rv w.heap.size w) (h:NtIs w t vn vl) (hs:t.Short) (he:t.e=0) (hk:v.kind=2) (hw:v.which=(j:Int)) (hj:j < t.ns.length) (ho:v.other=(k:Int)) (hkn:k < t.ns.length) (h20:t.ls.length < 20) (hWr:∀ W zm zs zg zw,Tab W.heap.size W→PkIs W (wholeP (t.ns.getD j ndZ)) zm zs zg zw→Calls Tryz.prog 221 #[.agg #[.string (wholeP (t.ns.getD j ndZ)).frm,.bool (wholeP (t.ns.getD j ndZ)).whole,zm,zs,zg,zw]] W fun e w'=>e=.returned (.tuple #[.string (wholeP (t.ns.getD j ndZ)).T,.int .i64 (wholeP (t.ns.getD j ndZ)).e])∧Below W.heap.size W w') :
 Calls Tryz.prog 16 #[.agg #[vn,vl],.agg (evA v)] w (StepSays w ⟨t.ns,t.ls++[⟨v.other,(wholeP (t.ns.getD j ndZ)).T⟩]⟩):=by
 refine step_of t _ vn vl v w hV h hs he (fun W C g nb ul L hW _ hC hN hmap hP=>?_)
 have hLn:L.length=t.ns.length:=by rw [← hmap,List.length_map]
 have hz:=Nt.e_zero he
 have hgl:g < W.heap.size:=(Array.getElem?_eq_some_iff.1 hP.hg).1
 have hx:=getD_map_n hmap (j:=j) (by omega)
 have hxe:(L.getD j nx0).n.e=0:=by
  rw [hx]
  exact hz.2.2.1 _ (by rw [List.getD,List.getElem?_eq_getElem hj];exact List.getElem_mem hj)
 have e2:W.cell? ⟨g,2,none⟩=some (.int .i64 2):=by rw [← hk];exact cellsAt hP.hg 2
 have e0:W.cell? ⟨g,0,none⟩=some (.slice (some ⟨nb,0,none⟩) L.length L.length):=cellsAt hP.hg 0
 have e3:W.cell? ⟨g,3,none⟩=some (.int .i64 (j:Int)):=by rw [← hw];exact cellsAt hP.hg 3
 have e4:W.cell? ⟨g,4,none⟩=some (.int .i64 (k:Int)):=by rw [← ho];exact cellsAt hP.hg 4
 refine play_of 101 #[.pointer (some ⟨g,0,none⟩)] #[] (enters_of Tryz.func101 (by kernel_rfl) rfl) g 2 0 _ W (by decide) rfl e2 (fun W2 hW2=>there2 g L.length _ _ (j:Int) (k:Int) W2 ((hW2.cell (p:=⟨g,0,none⟩) hgl).trans e0) ((hW2.cell (p:=⟨g,2,none⟩) hgl).trans e2) ((hW2.cell (p:=⟨g,3,none⟩) hgl).trans e3) ((hW2.cell (p:=⟨g,4,none⟩) hgl).trans e4) (by omega) (within_nat (by omega)) (within_nat (by omega))) (fun W2 hW2 _=>?_)
 have hV2:Rv W2.heap.size W2:=(hV.after hW).after hW2
 refine (tellAll_any C g nb j ul t.ls v L W2 (hP.below hW2) (hN.below hW2 hC) (Nat.le_trans hC hW2.size) h20 hw (by omega) hxe hV2 (by rw [hx];exact hWr)).mono ?_
 rintro e w' ⟨rfl,hm,a,kk,c,hp⟩
 rw [hx] at hp
 exact ⟨rfl,(hW2.mono hC).trans hm.below,a,kk,c,L,rfl,hmap,(hN.below hW2 hC).mv hm,hp⟩
theorem step_come (t:Nt) (vn vl:Value) (v:Ev) (w:World) (j k:Nat) (p:Pk) (hV:Rv w.heap.size w) (h:NtIs w t vn vl) (hs:t.Short) (he:t.e=0) (hk:v.kind=3) (hw:v.which=(j:Int)) (hj:j < t.ls.length) (to:Int) (tx:ByteArray) (hl:t.ls.getD j Lt.dm=⟨to,tx⟩) (hto:to=(k:Int)) (hkn:k < t.ns.length) (hrd:rdR tx.data.toList=some p) (hsz:tx.data.toList.length≤16777216) (hh:hrE (t.ns.getD k ndZ) p=0) (hHr:∀ W vm vr vs vg vw zm zs zg zw,NdIs W (t.ns.getD k ndZ) vm vr vs vg vw→PkIs W p zm zs zg zw→Calls Tryz.prog 32 #[.agg (ndA (t.ns.getD k ndZ) vm vr vs vg vw),.agg #[.string p.frm,.bool p.whole,zm,zs,zg,zw]] W fun e w'=>OpSays (t.ns.getD k ndZ).e (hrE (t.ns.getD k ndZ) p) (hrN (t.ns.getD k ndZ) p) W e w') :
 Calls Tryz.prog 16 #[.agg #[vn,vl],.agg (evA v)] w (StepSays w ⟨t.ns.set k (hrN (t.ns.getD k ndZ) p),t.ls.eraseIdx j⟩):=by
 refine step_of t _ vn vl v w hV h hs he (fun W C g nb ul L hW _ hC hN hmap hP=>?_)
 have hLn:L.length=t.ns.length:=by rw [← hmap,List.length_map]
 have hz:=Nt.e_zero he
 have hgl:g < W.heap.size:=(Array.getElem?_eq_some_iff.1 hP.hg).1
 have hx:=getD_map_n hmap (j:=k) (by omega)
 have hxe:(L.getD k nx0).n.e=0:=by
  rw [hx]
  exact hz.2.2.1 _ (by rw [List.getD,List.getElem?_eq_getElem hkn];exact List.getElem_mem hkn)
 have e2:W.cell? ⟨g,2,none⟩=some (.int .i64 3):=by rw [← hk];exact cellsAt hP.hg 2
 obtain ⟨a0,c0,hul⟩:=row_form hP.ls
 have e1:W.cell? ⟨g,1,none⟩=some (.slice a0 t.ls.length c0):=by rw [← hul];exact cellsAt hP.hg 1
 have e3:W.cell? ⟨g,3,none⟩=some (.int .i64 (j:Int)):=by rw [← hw];exact cellsAt hP.hg 3
 refine play_of 102 #[.pointer (some ⟨g,0,none⟩)] #[] (enters_of Tryz.func102 (by kernel_rfl) rfl) g 3 0 _ W (by decide) rfl e2 (fun W2 hW2=>there3 g t.ls.length _ _ (j:Int) W2 ((hW2.cell (p:=⟨g,1,none⟩) hgl).trans e1) ((hW2.cell (p:=⟨g,2,none⟩) hgl).trans e2) ((hW2.cell (p:=⟨g,3,none⟩) hgl).trans e3) hz.2.1 (within_nat hj)) (fun W2 hW2 _=>?_)
 have hV2:Rv W2.heap.size W2:=(hV.after hW).after hW2
 refine (come_any C g nb j k ul t.ls v L p W2 (hP.below hW2) (hN.below hW2 hC) (Nat.le_trans hC hW2.size) hz.2.1 hw hj to tx hl hto (by omega) hrd hsz hxe (by rw [hx];exact hh) hV2 (by rw [hx];exact hHr)).mono ?_
 rintro e w' ⟨rfl,hb,y,a,kk,c,hy,hN',hp⟩
 rw [hx] at hy
 exact ⟨rfl,(hW2.mono hC).trans hb,a,kk,c,L.set k y,List.length_set,by rw [List.map_set,hmap,hy],hN',hp⟩
set_option maxHeartbeats 12800000 in
set_option maxRecDepth 100000 in
theorem hapDoubt (C g nb pb j:Nat) (ul:Value) (ls:List Lt.Ltr) (v:Ev) (L:List Nx) (n':Nd) (w:World) (h:Plr C w g (.slice (some ⟨nb,0,none⟩) L.length L.length) ul ls v) (hN:NsOwn C w nb L) (hC:C≤w.heap.size) (hv:v.which=(j:Int)) (hj:j < L.length) (he:(L.getD j nx0).n.e=0) (hp:w.heap[pb]?=some (.cells #[.pointer (some ⟨g,0,none⟩)] 73 (0,0)))
 (hOp:∀ W vm vr vs vg vw,NdIs W (L.getD j nx0).n vm vr vs vg vw→Calls Tryz.prog 33 #[.agg (ndA (L.getD j nx0).n vm vr vs vg vw),.string v.name] W fun e w'=>OpSays (L.getD j nx0).n.e 0 n' W e w') :
 Calls Tryz.prog 105 #[.pointer (some ⟨pb,0,none⟩)] w fun e w'=>e=.returned (.int .i64 0)∧Below C w w'∧∃ y,y.n=n'∧NsOwn C w' nb (L.set j y)∧Plr C w' g (.slice (some ⟨nb,0,none⟩) L.length L.length) ul ls v:=by
 have hpl:pb < w.heap.size:=(Array.getElem?_eq_some_iff.1 hp).1
 have hgl:g < w.heap.size:=(Array.getElem?_eq_some_iff.1 h.hg).1
 have hnp:pb≠nb:=fun e=>by
  have h1:=hN.row
  rw [← e,hp] at h1
  simp at h1
 have hS0:∀ W,Below w.heap.size w W→W.cell? ⟨pb,0,none⟩=some (.pointer (some ⟨g,0,none⟩))∧W.cell? ⟨g,6,none⟩=some (.string v.name):=fun W hW=>⟨(hW.cell (p:=⟨pb,0,none⟩) hpl).trans (cellsAt hp 0),(hW.cell (p:=⟨g,6,none⟩) hgl).trans (cellsAt h.hg 6)⟩
 have HWHO:Hid (Calls Tryz.prog 107 #[.pointer (some ⟨g,0,none⟩)] w.drew fun e w'=>e=.returned (.agg (ndA (L.getD j nx0).n (L.getD j nx0).vm (L.getD j nx0).vr (L.getD j nx0).vs (L.getD j nx0).vg (L.getD j nx0).vw))∧Below w.heap.size w w'):=
  (who_own C g nb j L.length L.length L w.drew (hN.below (drew_below (Below.refl _ _)) hC) hj rfl (cellsAt h.hg 0) (by rw [← hv];exact cellsAt h.hg 3)).mono (fun e w' hh=>⟨hh.1,(drew_below (Below.refl w.heap.size w)).trans hh.2⟩)
 have HOP:Hid (∀ W,Below w.heap.size w W→Calls Tryz.prog 33 #[.agg (ndA (L.getD j nx0).n (L.getD j nx0).vm (L.getD j nx0).vr (L.getD j nx0).vs (L.getD j nx0).vg (L.getD j nx0).vw),.string v.name] W fun e w'=>Below W.heap.size W w'∧∃ y:Nx,e=.returned (.tuple #[.agg (ndA y.n y.vm y.vr y.vs y.vg y.vw),.int .i64 0])∧Hid (y.n=n'∧NdOwn C w' y.n y.vm y.vr y.vs y.vg y.vw∧NdOk y.n)):=fun W hW=>by
  refine (hOp W _ _ _ _ _ (((hN.own _ (nx_mem hj)).is (hN.ok _ (nx_mem hj))).below hW)).mono ?_
  rintro e w' ⟨hb,⟨hne,_⟩ | ⟨_,hne,_⟩ | ⟨_,_,um,ur,us,ug,uw,rfl,ho,hk⟩⟩
  ·exact absurd he hne
  ·exact absurd rfl hne
  ·exact ⟨hb,⟨n',um,ur,us,ug,uw⟩,rfl,rfl,ho.mono (Nat.le_trans hC hW.size),hk⟩
 have HBE:Hid (∀ W (y:Nx),Below w.heap.size w W→NdOwn C W y.n y.vm y.vr y.vs y.vg y.vw→NdOk y.n→Calls Tryz.prog 106 #[.pointer (some ⟨g,0,none⟩),.agg (ndA y.n y.vm y.vr y.vs y.vg y.vw),.int .i64 0] W fun e w'=>e=.returned (.int .i64 0)∧w'.cell? ⟨pb,0,none⟩=some (.pointer (some ⟨g,0,none⟩))∧w'.cell? ⟨g,6,none⟩=some (.string v.name)∧Hid (Below C w w'∧NsOwn C w' nb (L.set j y)∧Plr C w' g (.slice (some ⟨nb,0,none⟩) L.length L.length) ul ls v)):=fun W y hW ho hk=>by
  refine (become_any C g nb j ul ls v L y W (h.below hW) (hN.below hW hC) (Nat.le_trans hC hW.size) hv hj ho hk).mono ?_
  rintro e w' ⟨rfl,hb,h1,h2,h3⟩
  have hpW:W.heap[pb]?=some (.cells #[.pointer (some ⟨g,0,none⟩)] 73 (0,0)):=(hW.block pb hpl).trans hp
  exact ⟨rfl,cellsAt ((h3 pb hnp (Nat.lt_of_lt_of_le hpl hW.size)).trans hpW) 0,cellsAt h2.hg 6,(hW.mono hC).trans hb,h1,h2⟩
 have HS:Hid (∀ W,Below w.heap.size w W→W.cell? ⟨pb,0,none⟩=some (.pointer (some ⟨g,0,none⟩))∧W.cell? ⟨g,6,none⟩=some (.string v.name)):=hS0
 obtain ⟨s0,s6⟩:=hS0 w (Below.refl _ _)
 clear h hN hv he hp hOp hS0
 generalize (L.getD j nx0)=x at *
 generalize v.name=nm at *
 go_enter Tryz.func105,Tryz.ntmps105
 go_wp2_with fail
 refine wp_region_held_drew (S:=fun W=>W.cell? ⟨pb,0,none⟩=some (.pointer (some ⟨g,0,none⟩))∧W.cell? ⟨g,6,none⟩=some (.string nm)) (by kernel_rfl) ⟨s0,s6⟩ (fun hHeld=>?_)
 refine wpAnyH_take (i:=0) (v:=.pointer (some ⟨g,0,none⟩)) rfl (by kernel_rfl) (by kernel_rfl) (by kernel_rfl) (fun _ _ _ h=>h) (Or.inl ⟨by rfl,?hy⟩) (by assumption) ?_
 case hy=>
  intro W hSw
  obtain ⟨i0,i6⟩:=hSw
  go_simp
  try with_reducible rfl
 refine wpAnyH_take (i:=1) (v:=.pointer (some ⟨g,0,none⟩)) rfl (by kernel_rfl) (by kernel_rfl) (by kernel_rfl) (fun _ _ _ h=>h) (Or.inl ⟨by rfl,?hy⟩) (by assumption) ?_
 case hy=>
  intro W hSw
  obtain ⟨i0,i6⟩:=hSw
  go_simp
  try with_reducible rfl
 refine wpAnyH_take (i:=3) (v:=.pointer (some ⟨g,0,none⟩)) rfl (by kernel_rfl) (by kernel_rfl) (by kernel_rfl) (fun _ _ _ h=>h) (Or.inl ⟨by rfl,?hy⟩) (by assumption) ?_
 case hy=>
  intro W hSw
  obtain ⟨i0,i6⟩:=hSw
  go_simp
  try with_reducible rfl
 refine wpAnyH_take (i:=4) (v:=.pointer (some ⟨g,0,none⟩)) rfl (by kernel_rfl) (by kernel_rfl) (by kernel_rfl) (fun _ _ _ h=>h) (Or.inl ⟨by rfl,?hy⟩) (by assumption) ?_
 case hy=>
  intro W hSw
  obtain ⟨i0,i6⟩:=hSw
  go_simp
  try with_reducible rfl
 refine wpAnyH_take (i:=5) (v:=.pointer (some ⟨g,2,none⟩)) rfl (by kernel_rfl) (by kernel_rfl) (by kernel_rfl) (fun _ _ _ h=>h) (Or.inl ⟨by rfl,?hy⟩) (by assumption) ?_
 case hy=>
  intro W hSw
  obtain ⟨i0,i6⟩:=hSw
  go_simp
  try with_reducible rfl
 refine wpAnyH_take (i:=6) (v:=.pointer (some ⟨g,6,none⟩)) rfl (by kernel_rfl) (by kernel_rfl) (by kernel_rfl) (fun _ _ _ h=>h) (Or.inl ⟨by rfl,?hy⟩) (by assumption) ?_
 case hy=>
  intro W hSw
  obtain ⟨i0,i6⟩:=hSw
  go_simp
  try with_reducible rfl
 refine wpAnyH_take (i:=7) (v:=.string nm) rfl (by kernel_rfl) (by kernel_rfl) (by kernel_rfl) (fun _ _ _ h=>h) (Or.inl ⟨by rfl,?hy⟩) (by assumption) ?_
 case hy=>
  intro W hSw
  obtain ⟨i0,i6⟩:=hSw
  go_simp
  try with_reducible rfl
 refine wpAnyH_ready (rs:=[2]) (by kernel_rfl) (by simp) ?_
 refine AllReadyH.cons rfl (fun K hK=>?_) AllReadyH.nil
 have HK:Hid _:=hK
 clear hK
 go_simp
 refine HWHO.out.mono ?_
 rintro e w1 ⟨rfl,hb1⟩
 have HB1:Hid (Below w.heap.size w w1):=hb1
 clear hb1 HWHO
 refine HK.out _ _ (HS.out w1 HB1.out) (fun hHeld=>?_)
 clear HK K
 refine wpAnyH_ready (rs:=[8]) (by kernel_rfl) (by simp) ?_
 refine AllReadyH.cons rfl (fun K hK=>?_) AllReadyH.nil
 have HK:Hid _:=hK
 clear hK
 go_simp
 refine (HOP.out w1 HB1.out).mono ?_
 rintro e w2 ⟨hb2,y,rfl,HY⟩
 have HB2:Hid (Below w.heap.size w w2):=HB1.out.trans (hb2.mono HB1.out.size)
 clear hb2 HOP HB1
 refine HK.out _ _ (HS.out w2 HB2.out) (fun hHeld=>?_)
 clear HK K
 refine wpAnyH_take (i:=9) (v:=.agg (ndA y.n y.vm y.vr y.vs y.vg y.vw)) rfl (by kernel_rfl) (by kernel_rfl) (by kernel_rfl) (fun _ _ _ h=>h) (Or.inl ⟨by rfl,?hy⟩) (by assumption) ?_
 case hy=>(intro W hSw;go_simp;try with_reducible rfl)
 refine wpAnyH_take (i:=10) (v:=.int .i64 0) rfl (by kernel_rfl) (by kernel_rfl) (by kernel_rfl) (fun _ _ _ h=>h) (Or.inl ⟨by rfl,?hy⟩) (by assumption) ?_
 case hy=>(intro W hSw;go_simp;try with_reducible rfl)
 refine wpAnyH_ready (rs:=[11]) (by kernel_rfl) (by simp) ?_
 refine AllReadyH.cons rfl (fun K hK=>?_) AllReadyH.nil
 have HK:Hid _:=hK
 clear hK
 go_simp
 refine (HBE.out w2 y HB2.out HY.out.2.1 HY.out.2.2).mono ?_
 rintro e w3 ⟨rfl,t0,t6,HR⟩
 have HR2:Hid (Below C w w3∧∃ y,y.n=n'∧NsOwn C w3 nb (L.set j y)∧Plr C w3 g (.slice (some ⟨nb,0,none⟩) L.length L.length) ul ls v):=⟨HR.out.1,y,HY.out.1,HR.out.2⟩
 clear HR HBE HY
 refine HK.out _ _ ⟨t0,t6⟩ (fun hHeld=>?_)
 clear HK K
 refine wpAnyH_take (i:=12) (v:=.int .i64 0) rfl (by kernel_rfl) (by kernel_rfl) (by kernel_rfl) (fun _ _ _ h=>h) (Or.inl ⟨by rfl,?hy⟩) (by assumption) ?_
 case hy=>(intro W hSw;go_simp;try with_reducible rfl)
 refine wpAnyH_done (by kernel_rfl) ?_ _
 clear hHeld
 go_wp2_with fail
 go_ret
 exact ⟨rfl,HR2.out⟩
theorem step_doubt (t:Nt) (vn vl:Value) (v:Ev) (w:World) (j:Nat) (n':Nd) (hV:Rv w.heap.size w) (h:NtIs w t vn vl) (hs:t.Short) (he:t.e=0) (hk:v.kind=6) (hw:v.which=(j:Int)) (hj:j < t.ns.length)
 (hOp:∀ W vm vr vs vg vw,NdIs W (t.ns.getD j ndZ) vm vr vs vg vw→Calls Tryz.prog 33 #[.agg (ndA (t.ns.getD j ndZ) vm vr vs vg vw),.string v.name] W fun e w'=>OpSays (t.ns.getD j ndZ).e 0 n' W e w') :
 Calls Tryz.prog 16 #[.agg #[vn,vl],.agg (evA v)] w (StepSays w ⟨t.ns.set j n',t.ls⟩):=by
 refine step_of t _ vn vl v w hV h hs he (fun W C g nb ul L hW _ hC hN hmap hP=>?_)
 have hLn:L.length=t.ns.length:=by rw [← hmap,List.length_map]
 have hz:=Nt.e_zero he
 have hgl:g < W.heap.size:=(Array.getElem?_eq_some_iff.1 hP.hg).1
 have hx:=getD_map_n hmap (j:=j) (by omega)
 have hxe:(L.getD j nx0).n.e=0:=by
  rw [hx]
  exact hz.2.2.1 _ (by rw [List.getD,List.getElem?_eq_getElem hj];exact List.getElem_mem hj)
 have e2:W.cell? ⟨g,2,none⟩=some (.int .i64 6):=by rw [← hk];exact cellsAt hP.hg 2
 have e0:W.cell? ⟨g,0,none⟩=some (.slice (some ⟨nb,0,none⟩) L.length L.length):=cellsAt hP.hg 0
 have e3:W.cell? ⟨g,3,none⟩=some (.int .i64 (j:Int)):=by rw [← hw];exact cellsAt hP.hg 3
 obtain ⟨au,cu,hul⟩:=row_form hP.ls
 refine play_of 105 #[] #[.pointer (some ⟨W.heap.size,0,none⟩)] (enters_of Tryz.func105 (by kernel_rfl) rfl) g 6 0 _ W (by decide) rfl e2 (fun W2 hW2=>there6 g L.length _ _ (j:Int) W2 ((hW2.cell (p:=⟨g,0,none⟩) hgl).trans e0) ((hW2.cell (p:=⟨g,2,none⟩) hgl).trans e2) ((hW2.cell (p:=⟨g,3,none⟩) hgl).trans e3) (by omega) (within_nat (by omega))) (fun W2 hW2 hbx=>?_)
 refine (hapDoubt C g nb W.heap.size j ul t.ls v L n' W2 (hP.below hW2) (hN.below hW2 hC) (Nat.le_trans hC hW2.size) hw (by omega) hxe hbx (by rw [hx];exact hOp)).mono ?_
 rintro e w' ⟨rfl,hb,y,hy,hN',hp⟩
 subst hul
 exact ⟨rfl,(hW2.mono hC).trans hb,au,_,cu,L.set j y,List.length_set,by rw [List.map_set,hmap,hy],hN',hp⟩
set_option maxHeartbeats 12800000 in
set_option maxRecDepth 100000 in
theorem hapBury (C g nb pb j:Nat) (ul:Value) (ls:List Lt.Ltr) (v:Ev) (L:List Nx) (n':Nd) (w:World) (h:Plr C w g (.slice (some ⟨nb,0,none⟩) L.length L.length) ul ls v) (hN:NsOwn C w nb L) (hC:C≤w.heap.size) (hv:v.which=(j:Int)) (hj:j < L.length) (he:(L.getD j nx0).n.e=0) (hp:w.heap[pb]?=some (.cells #[.pointer (some ⟨g,0,none⟩)] 73 (0,0)))
 (hOp:∀ W vm vr vs vg vw,NdIs W (L.getD j nx0).n vm vr vs vg vw→Calls Tryz.prog 109 #[.agg (ndA (L.getD j nx0).n vm vr vs vg vw),.string v.name] W fun e w'=>OpSays (L.getD j nx0).n.e 0 n' W e w') :
 Calls Tryz.prog 108 #[.pointer (some ⟨pb,0,none⟩)] w fun e w'=>e=.returned (.int .i64 0)∧Below C w w'∧∃ y,y.n=n'∧NsOwn C w' nb (L.set j y)∧Plr C w' g (.slice (some ⟨nb,0,none⟩) L.length L.length) ul ls v:=by
 have hpl:pb < w.heap.size:=(Array.getElem?_eq_some_iff.1 hp).1
 have hgl:g < w.heap.size:=(Array.getElem?_eq_some_iff.1 h.hg).1
 have hnp:pb≠nb:=fun e=>by
  have h1:=hN.row
  rw [← e,hp] at h1
  simp at h1
 have hS0:∀ W,Below w.heap.size w W→W.cell? ⟨pb,0,none⟩=some (.pointer (some ⟨g,0,none⟩))∧W.cell? ⟨g,6,none⟩=some (.string v.name):=fun W hW=>⟨(hW.cell (p:=⟨pb,0,none⟩) hpl).trans (cellsAt hp 0),(hW.cell (p:=⟨g,6,none⟩) hgl).trans (cellsAt h.hg 6)⟩
 have HWHO:Hid (Calls Tryz.prog 107 #[.pointer (some ⟨g,0,none⟩)] w.drew fun e w'=>e=.returned (.agg (ndA (L.getD j nx0).n (L.getD j nx0).vm (L.getD j nx0).vr (L.getD j nx0).vs (L.getD j nx0).vg (L.getD j nx0).vw))∧Below w.heap.size w w'):=
  (who_own C g nb j L.length L.length L w.drew (hN.below (drew_below (Below.refl _ _)) hC) hj rfl (cellsAt h.hg 0) (by rw [← hv];exact cellsAt h.hg 3)).mono (fun e w' hh=>⟨hh.1,(drew_below (Below.refl w.heap.size w)).trans hh.2⟩)
 have HOP:Hid (∀ W,Below w.heap.size w W→Calls Tryz.prog 109 #[.agg (ndA (L.getD j nx0).n (L.getD j nx0).vm (L.getD j nx0).vr (L.getD j nx0).vs (L.getD j nx0).vg (L.getD j nx0).vw),.string v.name] W fun e w'=>Below W.heap.size W w'∧∃ y:Nx,e=.returned (.tuple #[.agg (ndA y.n y.vm y.vr y.vs y.vg y.vw),.int .i64 0])∧Hid (y.n=n'∧NdOwn C w' y.n y.vm y.vr y.vs y.vg y.vw∧NdOk y.n)):=fun W hW=>by
  refine (hOp W _ _ _ _ _ (((hN.own _ (nx_mem hj)).is (hN.ok _ (nx_mem hj))).below hW)).mono ?_
  rintro e w' ⟨hb,⟨hne,_⟩ | ⟨_,hne,_⟩ | ⟨_,_,um,ur,us,ug,uw,rfl,ho,hk⟩⟩
  ·exact absurd he hne
  ·exact absurd rfl hne
  ·exact ⟨hb,⟨n',um,ur,us,ug,uw⟩,rfl,rfl,ho.mono (Nat.le_trans hC hW.size),hk⟩
 have HBE:Hid (∀ W (y:Nx),Below w.heap.size w W→NdOwn C W y.n y.vm y.vr y.vs y.vg y.vw→NdOk y.n→Calls Tryz.prog 106 #[.pointer (some ⟨g,0,none⟩),.agg (ndA y.n y.vm y.vr y.vs y.vg y.vw),.int .i64 0] W fun e w'=>e=.returned (.int .i64 0)∧w'.cell? ⟨pb,0,none⟩=some (.pointer (some ⟨g,0,none⟩))∧w'.cell? ⟨g,6,none⟩=some (.string v.name)∧Hid (Below C w w'∧NsOwn C w' nb (L.set j y)∧Plr C w' g (.slice (some ⟨nb,0,none⟩) L.length L.length) ul ls v)):=fun W y hW ho hk=>by
  refine (become_any C g nb j ul ls v L y W (h.below hW) (hN.below hW hC) (Nat.le_trans hC hW.size) hv hj ho hk).mono ?_
  rintro e w' ⟨rfl,hb,h1,h2,h3⟩
  have hpW:W.heap[pb]?=some (.cells #[.pointer (some ⟨g,0,none⟩)] 73 (0,0)):=(hW.block pb hpl).trans hp
  exact ⟨rfl,cellsAt ((h3 pb hnp (Nat.lt_of_lt_of_le hpl hW.size)).trans hpW) 0,cellsAt h2.hg 6,(hW.mono hC).trans hb,h1,h2⟩
 have HS:Hid (∀ W,Below w.heap.size w W→W.cell? ⟨pb,0,none⟩=some (.pointer (some ⟨g,0,none⟩))∧W.cell? ⟨g,6,none⟩=some (.string v.name)):=hS0
 obtain ⟨s0,s6⟩:=hS0 w (Below.refl _ _)
 clear h hN hv he hp hOp hS0
 generalize (L.getD j nx0)=x at *
 generalize v.name=nm at *
 go_enter Tryz.func108,Tryz.ntmps108
 go_wp2_with fail
 refine wp_region_held_drew (S:=fun W=>W.cell? ⟨pb,0,none⟩=some (.pointer (some ⟨g,0,none⟩))∧W.cell? ⟨g,6,none⟩=some (.string nm)) (by kernel_rfl) ⟨s0,s6⟩ (fun hHeld=>?_)
 refine wpAnyH_take (i:=0) (v:=.pointer (some ⟨g,0,none⟩)) rfl (by kernel_rfl) (by kernel_rfl) (by kernel_rfl) (fun _ _ _ h=>h) (Or.inl ⟨by rfl,?hy⟩) (by assumption) ?_
 case hy=>
  intro W hSw
  obtain ⟨i0,i6⟩:=hSw
  go_simp
  try with_reducible rfl
 refine wpAnyH_take (i:=1) (v:=.pointer (some ⟨g,0,none⟩)) rfl (by kernel_rfl) (by kernel_rfl) (by kernel_rfl) (fun _ _ _ h=>h) (Or.inl ⟨by rfl,?hy⟩) (by assumption) ?_
 case hy=>
  intro W hSw
  obtain ⟨i0,i6⟩:=hSw
  go_simp
  try with_reducible rfl
 refine wpAnyH_take (i:=3) (v:=.pointer (some ⟨g,0,none⟩)) rfl (by kernel_rfl) (by kernel_rfl) (by kernel_rfl) (fun _ _ _ h=>h) (Or.inl ⟨by rfl,?hy⟩) (by assumption) ?_
 case hy=>
  intro W hSw
  obtain ⟨i0,i6⟩:=hSw
  go_simp
  try with_reducible rfl
 refine wpAnyH_take (i:=4) (v:=.pointer (some ⟨g,0,none⟩)) rfl (by kernel_rfl) (by kernel_rfl) (by kernel_rfl) (fun _ _ _ h=>h) (Or.inl ⟨by rfl,?hy⟩) (by assumption) ?_
 case hy=>
  intro W hSw
  obtain ⟨i0,i6⟩:=hSw
  go_simp
  try with_reducible rfl
 refine wpAnyH_take (i:=5) (v:=.pointer (some ⟨g,2,none⟩)) rfl (by kernel_rfl) (by kernel_rfl) (by kernel_rfl) (fun _ _ _ h=>h) (Or.inl ⟨by rfl,?hy⟩) (by assumption) ?_
 case hy=>
  intro W hSw
  obtain ⟨i0,i6⟩:=hSw
  go_simp
  try with_reducible rfl
 refine wpAnyH_take (i:=6) (v:=.pointer (some ⟨g,6,none⟩)) rfl (by kernel_rfl) (by kernel_rfl) (by kernel_rfl) (fun _ _ _ h=>h) (Or.inl ⟨by rfl,?hy⟩) (by assumption) ?_
 case hy=>
  intro W hSw
  obtain ⟨i0,i6⟩:=hSw
  go_simp
  try with_reducible rfl
 refine wpAnyH_take (i:=7) (v:=.string nm) rfl (by kernel_rfl) (by kernel_rfl) (by kernel_rfl) (fun _ _ _ h=>h) (Or.inl ⟨by rfl,?hy⟩) (by assumption) ?_
 case hy=>
  intro W hSw
  obtain ⟨i0,i6⟩:=hSw
  go_simp
  try with_reducible rfl
 refine wpAnyH_ready (rs:=[2]) (by kernel_rfl) (by simp) ?_
 refine AllReadyH.cons rfl (fun K hK=>?_) AllReadyH.nil
 have HK:Hid _:=hK
 clear hK
 go_simp
 refine HWHO.out.mono ?_
 rintro e w1 ⟨rfl,hb1⟩
 have HB1:Hid (Below w.heap.size w w1):=hb1
 clear hb1 HWHO
 refine HK.out _ _ (HS.out w1 HB1.out) (fun hHeld=>?_)
 clear HK K
 refine wpAnyH_ready (rs:=[8]) (by kernel_rfl) (by simp) ?_
 refine AllReadyH.cons rfl (fun K hK=>?_) AllReadyH.nil
 have HK:Hid _:=hK
 clear hK
 go_simp
 refine (HOP.out w1 HB1.out).mono ?_
 rintro e w2 ⟨hb2,y,rfl,HY⟩
 have HB2:Hid (Below w.heap.size w w2):=HB1.out.trans (hb2.mono HB1.out.size)
 clear hb2 HOP HB1
 refine HK.out _ _ (HS.out w2 HB2.out) (fun hHeld=>?_)
 clear HK K
 refine wpAnyH_take (i:=9) (v:=.agg (ndA y.n y.vm y.vr y.vs y.vg y.vw)) rfl (by kernel_rfl) (by kernel_rfl) (by kernel_rfl) (fun _ _ _ h=>h) (Or.inl ⟨by rfl,?hy⟩) (by assumption) ?_
 case hy=>(intro W hSw;go_simp;try with_reducible rfl)
 refine wpAnyH_take (i:=10) (v:=.int .i64 0) rfl (by kernel_rfl) (by kernel_rfl) (by kernel_rfl) (fun _ _ _ h=>h) (Or.inl ⟨by rfl,?hy⟩) (by assumption) ?_
 case hy=>(intro W hSw;go_simp;try with_reducible rfl)
 refine wpAnyH_ready (rs:=[11]) (by kernel_rfl) (by simp) ?_
 refine AllReadyH.cons rfl (fun K hK=>?_) AllReadyH.nil
 have HK:Hid _:=hK
 clear hK
 go_simp
 refine (HBE.out w2 y HB2.out HY.out.2.1 HY.out.2.2).mono ?_
 rintro e w3 ⟨rfl,t0,t6,HR⟩
 have HR2:Hid (Below C w w3∧∃ y,y.n=n'∧NsOwn C w3 nb (L.set j y)∧Plr C w3 g (.slice (some ⟨nb,0,none⟩) L.length L.length) ul ls v):=⟨HR.out.1,y,HY.out.1,HR.out.2⟩
 clear HR HBE HY
 refine HK.out _ _ ⟨t0,t6⟩ (fun hHeld=>?_)
 clear HK K
 refine wpAnyH_take (i:=12) (v:=.int .i64 0) rfl (by kernel_rfl) (by kernel_rfl) (by kernel_rfl) (fun _ _ _ h=>h) (Or.inl ⟨by rfl,?hy⟩) (by assumption) ?_
 case hy=>(intro W hSw;go_simp;try with_reducible rfl)
 refine wpAnyH_done (by kernel_rfl) ?_ _
 clear hHeld
 go_wp2_with fail
 go_ret
 exact ⟨rfl,HR2.out⟩
theorem step_bury (t:Nt) (vn vl:Value) (v:Ev) (w:World) (j:Nat) (n':Nd) (hV:Rv w.heap.size w) (h:NtIs w t vn vl) (hs:t.Short) (he:t.e=0) (hk:v.kind=7) (hw:v.which=(j:Int)) (hj:j < t.ns.length)
 (hOp:∀ W vm vr vs vg vw,NdIs W (t.ns.getD j ndZ) vm vr vs vg vw→Calls Tryz.prog 109 #[.agg (ndA (t.ns.getD j ndZ) vm vr vs vg vw),.string v.name] W fun e w'=>OpSays (t.ns.getD j ndZ).e 0 n' W e w') :
 Calls Tryz.prog 16 #[.agg #[vn,vl],.agg (evA v)] w (StepSays w ⟨t.ns.set j n',t.ls⟩):=by
 refine step_of t _ vn vl v w hV h hs he (fun W C g nb ul L hW _ hC hN hmap hP=>?_)
 have hLn:L.length=t.ns.length:=by rw [← hmap,List.length_map]
 have hz:=Nt.e_zero he
 have hgl:g < W.heap.size:=(Array.getElem?_eq_some_iff.1 hP.hg).1
 have hx:=getD_map_n hmap (j:=j) (by omega)
 have hxe:(L.getD j nx0).n.e=0:=by
  rw [hx]
  exact hz.2.2.1 _ (by rw [List.getD,List.getElem?_eq_getElem hj];exact List.getElem_mem hj)
 have e2:W.cell? ⟨g,2,none⟩=some (.int .i64 7):=by rw [← hk];exact cellsAt hP.hg 2
 have e0:W.cell? ⟨g,0,none⟩=some (.slice (some ⟨nb,0,none⟩) L.length L.length):=cellsAt hP.hg 0
 have e3:W.cell? ⟨g,3,none⟩=some (.int .i64 (j:Int)):=by rw [← hw];exact cellsAt hP.hg 3
 obtain ⟨au,cu,hul⟩:=row_form hP.ls
 refine play_of 108 #[] #[.pointer (some ⟨W.heap.size,0,none⟩)] (enters_of Tryz.func108 (by kernel_rfl) rfl) g 7 0 _ W (by decide) rfl e2 (fun W2 hW2=>there7 g L.length _ _ (j:Int) W2 ((hW2.cell (p:=⟨g,0,none⟩) hgl).trans e0) ((hW2.cell (p:=⟨g,2,none⟩) hgl).trans e2) ((hW2.cell (p:=⟨g,3,none⟩) hgl).trans e3) (by omega) (within_nat (by omega))) (fun W2 hW2 hbx=>?_)
 refine (hapBury C g nb W.heap.size j ul t.ls v L n' W2 (hP.below hW2) (hN.below hW2 hC) (Nat.le_trans hC hW2.size) hw (by omega) hxe hbx (by rw [hx];exact hOp)).mono ?_
 rintro e w' ⟨rfl,hb,y,hy,hN',hp⟩
 subst hul
 exact ⟨rfl,(hW2.mono hC).trans hb,au,_,cu,L.set j y,List.length_set,by rw [List.map_set,hmap,hy],hN',hp⟩
end Go.Proofs.YtffdoiokmiklgaaGreatDoor
