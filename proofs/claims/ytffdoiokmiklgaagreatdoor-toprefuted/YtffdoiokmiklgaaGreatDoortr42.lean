import Derived.Test.YtffdoiokmiklgaaGreatDoortr38
import Derived.Test.YtffdoiokmiklgaaGreatDoortr15
import Derived.Test.YtffdoiokmiklgaaGreatDoortr40
import Derived.Test.YtffdoiokmiklgaaGreatDoortr25
import Derived.Test.YtffdoiokmiklgaaGreatDoortr16
import Derived.Test.YtffdoiokmiklgaaGreatDoortr41
import Derived.Laws.OwnMore
namespace Go.Proofs.YtffdoiokmiklgaaGreatDoor
open Go.RowKit Go.WideMaps Go.Maps
def nnames (ns:List Nd):List ByteArray:=ns.map (·.name)
theorem nnames_get (ns:List Nd) (k:Nat):(nnames ns).getD k ByteArray.empty=(ns.getD k ndZ).name:=by
 by_cases h:k < ns.length
 ·simp [nnames,List.getD,List.getElem?_eq_getElem h]
 ·simp [nnames,List.getD,List.getElem?_eq_none (by omega:ns.length≤k),ndZ];rfl
theorem ncnt_lt {D:DataW Unit} {ns:List Nd} (h:Cnt D (nnames ns) ns.length) (hd:¬ ApartN ns):Maps.size D < ns.length:=by
 rw [h.size]
 apply Dm_size_lt
 apply Classical.byContradiction
 intro hx
 apply hd
 intro i j hij hj e
 exact hx ⟨i,j,hij,hj,by rw [nnames_get,nnames_get];exact e⟩
theorem ncnt_eq {D:DataW Unit} {ns:List Nd} (h:Cnt D (nnames ns) ns.length) (hd:ApartN ns):Maps.size D=ns.length:=by
 rw [h.size]
 exact Dm_size_eq _ _ (fun i j hij hj=>by rw [nnames_get,nnames_get];exact hd i j hij hj)
set_option maxHeartbeats 12800000 in
set_option maxRecDepth 100000 in
theorem checkNodes_any (ns:List Nd) (g:Nat) (v:Value) (w:World) (hv:NSl w v ns) (hg:w.cell? ⟨g,0,none⟩=some v) (hn6:ns.length≤6) :
 Calls Tryz.prog 58 #[.pointer (some ⟨g,0,none⟩)] w fun e w'=>e=.returned (.int .i64 (chkN ns))∧Below w.heap.size w w':=by
 have hgl:g < w.heap.size:=World.block_lt_of_cell? w _ hg
 obtain ⟨pa,ca,rfl,ha⟩:=hv
 have HA:Hid (ns=[]∨∃ b off,pa=some ⟨b,off,none⟩∧b < w.heap.size∧NRow w b off ns):=ha
 clear ha
 generalize hN:ns.length=n at *
 have HN:Hid (ns.length=n):=hN
 clear hN
 have hmm:=run_makeMapHint
 go_enter Tryz.func58,Tryz.ntmps58
 go_wp2
 go_loopw [20] (fun i wr=>∃ k:Nat,k≤n∧i=.int .i64 k∧Hid (∀ j,j < k→(ns.getD j ndZ).e=0)∧Hid (∃ D,wr.ownsMap Tryz.prog 9 (plainElem (H:=Unit) Tryz.prog 3) w.heap.size k D∧Cnt D (nnames ns) k)∧Hid (Below w.heap.size w wr)) (fun i _=>n - (intOf i).toNat)
 case atStart=>exact ⟨0,Nat.zero_le _,rfl,fun j hj=>by omega,⟨_,World.ownsMap_made _ _ _ _,cnt_zero _⟩,(Below.refl _ _).alloc (Nat.le_refl _) _⟩
 case round=>
  obtain ⟨k,hk,rfl,HZ,HD,HB⟩:=hrel
  obtain ⟨D,HO,HC⟩:=HD.out
  have HO:Hid (wr.ownsMap Tryz.prog 9 (plainElem (H:=Unit) Tryz.prog 3) w.heap.size k D):=HO
  have HC:Hid (Cnt D (nnames ns) k):=HC
  clear HD
  have hgr:wr.cell? ⟨g,0,none⟩=some (.slice pa n ca):=(HB.out.cell (p:=⟨g,0,none⟩) hgl).trans hg
  by_cases hlt:k < n
  ·obtain ⟨b,off,hp,hl,hr⟩:∃ b off,pa=some ⟨b,off,none⟩∧b < w.heap.size∧NRow w b off ns:=by
    rcases HA.out with h | h
    ·have:=HN.out;rw [h] at this;simp at this;omega
    ·exact h
   subst hp
   obtain ⟨vm,vr,vs,vg,vw,hnd,c0,c1,c2,c3,c4,c5,c6,c7,c8,c9,c10,c11⟩:=(hr.below HB.out hl).at (by rw [HN.out];exact hlt)
   have HX:Hid ((ns.getD k ndZ).e≠0→chkN ns=(ns.getD k ndZ).e):=fun h=>chkN_e (by rw [HN.out];exact hlt) HZ.out h
   have HZ2:Hid ((ns.getD k ndZ).e=0→∀ j,j < k+1→(ns.getD j ndZ).e=0):=fun h j hj=>by
    by_cases e:j=k
    ·subst e;exact h
    ·exact HZ.out j (by omega)
   have HG:Hid (∀ (c:Int),D.atKey (kS (ns.getD k ndZ).name) (.lit (.int .i64 0))=.lit (.int .i64 c)→0≤c∧c≤k∧Cnt (D.put (kS (ns.getD k ndZ).name) (.lit (.int .i64 (c+1)))) (nnames ns) (k+1)):=fun c hc=>by
    have h:=cnt_step HC.out (c:=c) (by rw [nnames_get];exact hc)
    rw [nnames_get] at h;exact h
   have hsz:=HB.out.size
   generalize (ns.getD k ndZ)=nk at *
   have hnm:=hnd.name
   have HCK:Hid (∀ W,Below wr.heap.size wr W→Calls Tryz.prog 60 #[.agg (ndA nk vm vr vs vg vw)] W fun e w'=>e=.returned (.int .i64 nk.e)∧Below W.heap.size W w'):=fun W hW=>ncheck_any nk vm vr vs vg vw W (hnd.below hW)
   obtain ⟨⟨am,cm,hvm,_,_⟩,⟨ar,cr,hvr,_,_⟩,⟨ax,cx,hvs,_,_⟩,⟨ag,cg,hvg,_,_⟩,⟨aw,cw,hvw,_,_⟩,_,_⟩:=hnd
   subst hvm hvr hvs hvg hvw
   generalize hne:nk.e=ne at *
   clear hne
   obtain ⟨nm,ct,ms,rs,sv,gw,⟨px,py,pz,ph,pq⟩,wh⟩:=nk
   simp only [ndA] at c0 c1 c2 c3 c4 c5 c6 c7 c8 c9 c10 c11 hnm HG HCK
   have hkey:keyOf Tryz.prog 9 (.string nm)=some (kS nm):=keyOf_string_mk Tryz.underlying9 hnm
   generalize ms.length=nms at *
   generalize rs.length=nrs at *
   generalize sv.length=nsv at *
   generalize gw.length=ngw at *
   generalize wh.length=nwh at *
   clear hr HZ
   have hkn:(k:Int) < n:=by omega
   obtain ⟨W1,hW1⟩:∃ W1,W1=wr.alloc (.cells #[.string nm,.string ct,.slice am nms cm,.slice ar nrs cr,.slice ax nsv cx,.slice ag ngw cg,.int .i64 px,.int .i64 py,.int .i64 pz,.int .i64 ph,.int .i64 pq,.slice aw nwh cw] 51):=⟨_,rfl⟩
   have hb1:Below wr.heap.size wr W1:=by rw [hW1];exact (Below.refl _ _).alloc (Nat.le_refl _) _
   have HX1:Hid (W1.heap[wr.heap.size]?=some (.cells #[.string nm,.string ct,.slice am nms cm,.slice ar nrs cr,.slice ax nsv cx,.slice ag ngw cg,.int .i64 px,.int .i64 py,.int .i64 pz,.int .i64 ph,.int .i64 pq,.slice aw nwh cw] 51 (0,0))):=by rw [hW1];exact heap_alloc_new wr _
   have HB1:Hid (Below wr.heap.size wr W1):=hb1
   clear hb1
   go_upto_region 5 with fail
   rw [← hW1]
   clear hW1 c0 c1 c2 c3 c4 c5 c6 c7 c8 c9 c10 c11
   obtain ⟨d0,d1,d2,d3,d4,d5,d6,d7,d8,d9,d10,d11⟩:=cells12 HX1.out
   go_wp2_with fail
   refine (HCK.out W1 HB1.out).mono ?_
   rintro e w1 ⟨rfl,hb1⟩
   have hb01:Below wr.heap.size wr w1:=HB1.out.trans (hb1.mono HB1.out.size)
   have HO1:Hid (w1.ownsMap Tryz.prog 9 (plainElem (H:=Unit) Tryz.prog 3) w.heap.size k D):=cmap_below HO.out hb01
   have HB1w:Hid (Below w.heap.size w w1):=HB.out.trans (hb01.mono hsz)
   have hm0:w1.cell? ⟨wr.heap.size,0,none⟩=some (.string nm):=cellsAt ((hb1.block _ (Array.getElem?_eq_some_iff.1 HX1.out).1).trans HX1.out) 0
   clear hb1 hb01 d0 d1 d2 d3 d4 d5 d6 d7 d8 d9 d10 d11 HB HO HCK HX1 HB1 hgr
   by_cases he:ne=0
   ·have he':(ne != 0)=false:=by simpa using he
    have HZ3:Hid (∀ j,j < k+1→(ns.getD j ndZ).e=0):=HZ2.out he
    clear HX HZ2 he
    obtain ⟨c,hrun,hat,_⟩:=HO1.out.lookup_int law9 Tryz.underlying131 Tryz.underlying3 (zero3' _) hkey
    obtain ⟨g0,g1,g2⟩:=HG.out c hat
    have HG2:Hid (Cnt (D.put (kS nm) (.lit (.int .i64 (c+1)))) (nnames ns) (k+1)):=g2
    clear g2 hat HG
    go_wp2_with (first
     | (at_mapUpdate;refine wpList_mapUpdate_own _ rfl _ _ _ 131 rfl 9 3 law9 Tryz.underlying131 _ w.heap.size k _ rfl HO1.out (by unfold maxLen;omega) _ _ _ rfl rfl hkey _ [] (plainElem_int Tryz.underlying3 (WalkArith.wf_i64 (by omega))) ?_)
     | fail)
    intro w2 hown2 hgrow2
    have R1:Hid (∃ D,w2.ownsMap Tryz.prog 9 (plainElem (H:=Unit) Tryz.prog 3) w.heap.size (k+1) D∧Cnt D (nnames ns) (k+1)):=⟨_,hown2,HG2.out⟩
    have R2:Hid (Below w.heap.size w w2):=HB1w.out.grown hgrow2 HB1w.out.size (fun j hj=>by cases hj;exact Nat.le_refl _)
    clear hown2 hgrow2 HO1 HB1w
    go_wp2_with fail
    go_roundw
    case rel=>exact ⟨k+1,by omega,by go_num,HZ3,R1,R2⟩
    case measure=>simp [intOf];omega
   ·have he':(ne != 0)=true:=by simpa using he
    have HR:Hid (chkN ns=ne):=HX.out he
    clear he HX HZ2
    go_wp2_with fail
    go_ret
    exact ⟨ret_int HR.out.symm,HB1w.out⟩
  ·have hkn:k=n:=by omega
   subst hkn
   have hsize:Hid (Maps.size D < k↔¬ ApartN ns):=by
    have h1:=HC.out
    rw [← HN.out] at h1 ⊢
    exact ⟨fun h hd=>by rw [ncnt_eq h1 hd] at h;omega,fun hd=>ncnt_lt h1 hd⟩
   have HE1:Hid (¬ ApartN ns→chkN ns=6):=fun hd=>chkN_twice (fun j hj=>HZ.out j (by rw [← HN.out];exact hj)) hd
   have HE2:Hid (ApartN ns→chkN ns=0):=fun hd=>chkN_ok (fun j hj=>HZ.out j (by rw [← HN.out];exact hj)) hd
   by_cases hd:ApartN ns
   ·have HE:Hid (chkN ns=0):=HE2.out hd
    have hs:decide (Maps.size D < k)=false:=decide_eq_false (fun h=>(hsize.out.1 h) hd)
    have hs2:¬ Maps.size D < k:=fun h=>(hsize.out.1 h) hd
    have hln:∀ q,(Builtin.len_ #[131] 3 #[.map (some w.heap.size)]).run Tryz.prog (wr.drewN q)=.ok (.int .i64 (Maps.size D)) (wr.drewN q):=fun q=>World.ownsMap.len (w:=wr.drewN q) HO.out Tryz.underlying131 3
    clear HE1 HE2 hd hsize HZ
    go_wp2_with fail
    go_quiet (fail)
    go_wp2_with fail
    go_ret
    exact ⟨ret_int HE.out.symm,below_drewN HB.out _⟩
   ·have HE:Hid (chkN ns=6):=HE1.out hd
    have hs:decide (Maps.size D < k)=true:=decide_eq_true (hsize.out.2 hd)
    have hs2:Maps.size D < k:=hsize.out.2 hd
    have hln:∀ q,(Builtin.len_ #[131] 3 #[.map (some w.heap.size)]).run Tryz.prog (wr.drewN q)=.ok (.int .i64 (Maps.size D)) (wr.drewN q):=fun q=>World.ownsMap.len (w:=wr.drewN q) HO.out Tryz.underlying131 3
    clear HE1 HE2 hd hsize HZ
    go_wp2_with fail
    go_quiet (fail)
    go_wp2_with fail
    go_ret
    exact ⟨ret_int HE.out.symm,below_drewN HB.out _⟩
set_option maxHeartbeats 3200000 in
set_option maxRecDepth 100000 in
theorem isNode_any (g n:Nat) (a:Option Addr) (cap:Nat) (x:Int) (w:World) (hg:w.cell? ⟨g,0,none⟩=some (.slice a n cap)) (hn:n≤6) :
 Calls Tryz.prog 84 #[.pointer (some ⟨g,0,none⟩),.int .i64 x] w fun e w'=>e=.returned (.bool (within x 0 ((n:Int) - 1)))∧Below w.heap.size w w':=by
 have h1:IntKind.i64.wrap ((n:Int) - 1)=(n:Int) - 1:=by rw [IntKind.wrap_i64];omega
 go_enter Tryz.func84,Tryz.ntmps84
 go_wp2_with (go_at_call 76;refine (within_any _ _ _ _).mono ?_;rintro e w' ⟨rfl,rfl⟩)
 go_ret
 exact ⟨rfl,Below.refl _ _⟩
set_option maxHeartbeats 12800000 in
set_option maxRecDepth 100000 in
theorem checkLetters_any (ls:List Lt.Ltr) (n g:Nat) (a:Option Addr) (cap:Nat) (v:Value) (w:World) (hV:Rv w.heap.size w) (hv:Lt.Sl w v ls) (hg:w.cell? ⟨g,0,none⟩=some (.slice a n cap)) (hg1:w.cell? ⟨g,1,none⟩=some v) (hn6:n≤6) (hl20:ls.length≤20) (hts:∀ l∈ls,l.text.size≤16777216) :
 Calls Tryz.prog 59 #[.pointer (some ⟨g,0,none⟩)] w fun e w'=>e=.returned (.int .i64 (fstE (ltE n) ls))∧Below w.heap.size w w':=by
 have hgl:g < w.heap.size:=World.block_lt_of_cell? w _ hg
 obtain ⟨pa,ca,rfl,_,ha⟩:=hv
 have HA:Hid (ls=[]∨∃ b off,pa=some ⟨b,off,none⟩∧b < w.heap.size∧Lt.Row w b off ls):=ha
 have HTS:Hid (∀ l∈ls,l.text.size≤16777216):=hts
 have HV:Hid (Rv w.heap.size w):=hV
 clear ha hts hV
 generalize hN:ls.length=m at *
 have HN:Hid (ls.length=m):=hN
 clear hN
 go_enter Tryz.func59,Tryz.ntmps59
 go_wp2_with fail
 go_loopw [13] (fun i wr=>∃ k:Nat,k≤m∧i=.int .i64 k∧Hid (∀ j,j < k→ltE n (ls.getD j Lt.dm)=0)∧Hid (Below w.heap.size w wr)) (fun i _=>m - (intOf i).toNat)
 case atStart=>exact ⟨0,Nat.zero_le _,rfl,fun j hj=>by omega,Below.refl _ _⟩
 case round=>
  obtain ⟨k,hk,rfl,HZ,HB⟩:=hrel
  have hsz:=HB.out.size
  by_cases hlt:k < m
  ·obtain ⟨b,off,hp,hl,hr⟩:∃ b off,pa=some ⟨b,off,none⟩∧b < w.heap.size∧Lt.Row w b off ls:=by
    rcases HA.out with h | h
    ·have:=HN.out;rw [h] at this;simp at this;omega
    ·exact h
   subst hp
   obtain ⟨c0,c1⟩:=(hr.later HB.out hl) k (by rw [HN.out];exact hlt)
   have HX:Hid (ltE n (ls.getD k Lt.dm)≠0→fstE (ltE n) ls=ltE n (ls.getD k Lt.dm)):=fun h=>fstE_at _ Lt.dm ls k (by rw [HN.out];exact hlt) HZ.out h
   have HZ2:Hid (ltE n (ls.getD k Lt.dm)=0→∀ j,j < k+1→ltE n (ls.getD j Lt.dm)=0):=fun h j hj=>by
    by_cases e:j=k
    ·subst e;exact h
    ·exact HZ.out j (by omega)
   have hkt:(ls.getD k Lt.dm).text.size≤16777216:=by
    have hk':k < ls.length:=by rw [HN.out];exact hlt
    apply HTS.out
    rw [List.getD,List.getElem?_eq_getElem hk']
    exact List.getElem_mem hk'
   generalize ls.getD k Lt.dm=lk at *
   obtain ⟨to,tx⟩:=lk
   simp only at c0 c1 hkt
   have HLE:Hid (ltE n ⟨to,tx⟩=if within to 0 ((n:Int) - 1)=true then (if (rdR tx.data.toList).isSome=true then 0 else 1) else 3):=rfl
   generalize ltE n ⟨to,tx⟩=le at *
   obtain ⟨W1,hW1⟩:∃ W1,W1=wr.alloc (.cells #[.int .i64 to,.string tx] 65):=⟨_,rfl⟩
   have hb1:Below wr.heap.size wr W1:=by rw [hW1];exact (Below.refl _ _).alloc (Nat.le_refl _) _
   have HB1:Hid (Below w.heap.size w W1):=HB.out.trans (hb1.mono hsz)
   have HX1:Hid (W1.heap[wr.heap.size]?=some (.cells #[.int .i64 to,.string tx] 65 (0,0))):=by rw [hW1];exact heap_alloc_new wr _
   have HIS:Hid (Calls Tryz.prog 84 #[.pointer (some ⟨g,0,none⟩),.int .i64 to] W1 fun e w'=>e=.returned (.bool (within to 0 ((n:Int) - 1)))∧Below W1.heap.size W1 w'):=isNode_any g n a cap to W1 ((HB1.out.cell (p:=⟨g,0,none⟩) hgl).trans hg) hn6
   have HRD:Hid (∀ W,Below W1.heap.size W1 W→Calls Tryz.prog 85 #[.string tx] W (ReadSays W (rdR tx.data.toList))):=fun W hW=>pread_b (l:=tx.data.toList) ((HV.out.after HB1.out).after hW) hkt
   have d0:W1.cell? ⟨wr.heap.size,0,none⟩=some (.int .i64 to):=cellsAt HX1.out 0
   have d1:W1.cell? ⟨wr.heap.size,1,none⟩=some (.string tx):=cellsAt HX1.out 1
   generalize within to 0 ((n:Int) - 1)=wi at *
   generalize rdR tx.data.toList=ro at *
   clear hr HZ hb1
   go_upto_region 4 with fail
   rw [← hW1]
   clear hW1 c0 c1
   go_wp2_with fail
   refine HIS.out.mono ?_
   rintro e w2 ⟨rfl,hb2⟩
   have HB2:Hid (Below W1.heap.size W1 w2):=hb2
   have d2:w2.cell? ⟨wr.heap.size,1,none⟩=some (.string tx):=(hb2.cell (p:=⟨wr.heap.size,1,none⟩) (Array.getElem?_eq_some_iff.1 HX1.out).1).trans d1
   clear hb2 HIS d0 d1
   cases wi with
   | false=>
     have hle:le=3:=HLE.out.trans (if_neg (by simp))
     subst hle
     have HE:Hid (fstE (ltE n) ls=3):=HX.out (by omega)
     clear HX HZ2 HLE
     go_wp2_with fail
     go_ret
     exact ⟨ret_int HE.out.symm,HB1.out.trans (HB2.out.mono HB1.out.size)⟩
   | true=>
     have HLE2:Hid (le=if ro.isSome=true then 0 else 1):=HLE.out.trans (if_pos rfl)
     clear HLE
     go_wp2_with fail
     refine (HRD.out w2 HB2.out).mono ?_
     rintro e w3 ⟨hb3,⟨q,ym,ys,yg,yw,hq,rfl,ho⟩ | ⟨hq,rfl⟩⟩
     ·have hle:le=0:=by rw [HLE2.out,hq];rfl
      subst hle
      obtain ⟨a2,l2,c2,rfl⟩:=slice_of_row ho.ms
      obtain ⟨a3,l3,c3,rfl⟩:=slice_of_row ho.sv
      obtain ⟨a4,l4,c4,rfl⟩:=slice_of_row ho.gw
      obtain ⟨a5,l5,c5,rfl⟩:=slice_of_row ho.wh
      have HZ3:Hid (∀ j,j < k+1→ltE n (ls.getD j Lt.dm)=0):=HZ2.out rfl
      have HB3:Hid (Below w.heap.size w w3):=HB1.out.trans ((HB2.out.trans (hb3.mono HB2.out.size)).mono HB1.out.size)
      have HS3:Hid (w.heap.size≤w3.heap.size):=HB3.out.size
      clear HX HZ2 HLE2 hb3 hq ho HRD
      go_wp2_with fail
      go_roundw
      case rel=>exact ⟨k+1,by omega,by go_num,HZ3,HB3.out.alloc HS3.out _⟩
      case measure=>simp [intOf];omega
     ·have hle:le=1:=by rw [HLE2.out,hq];rfl
      subst hle
      have HE:Hid (fstE (ltE n) ls=1):=HX.out (by omega)
      have HB3:Hid (Below w.heap.size w w3):=HB1.out.trans ((HB2.out.trans (hb3.mono HB2.out.size)).mono HB1.out.size)
      have HS3:Hid (w.heap.size≤w3.heap.size):=HB3.out.size
      clear HX HZ2 HLE2 hb3 hq HRD
      go_wp2_with fail
      go_ret
      exact ⟨ret_int HE.out.symm,HB3.out.alloc HS3.out _⟩
  ·have HE:Hid (fstE (ltE n) ls=0):=fstE_zero _ Lt.dm ls (fun j hj=>HZ.out j (by have:=HN.out;omega))
   have hd:decide ((k:Int) < (m:Int))=false:=by simp;omega
   clear HZ
   go_wp2_with fail
   go_ret
   exact ⟨ret_int HE.out.symm,HB.out⟩
end Go.Proofs.YtffdoiokmiklgaaGreatDoor
namespace Go.Proofs.YtffdoiokmiklgaaGreatDoor
open Go.RowKit
structure NtIs (w:World) (t:Nt) (vn vl:Value):Prop where
 ns:NSl w vn t.ns
 ls:Lt.Sl w vl t.ls
theorem NtIs.below {w w':World} {t:Nt} {vn vl:Value} (h:NtIs w t vn vl) (hb:Below w.heap.size w w'):NtIs w' t vn vl:=⟨h.ns.below hb,h.ls.below hb⟩
def Nt.Short (t:Nt):Prop:=t.ls.length≤20→∀ l∈t.ls,l.text.size≤16777216
theorem Nt.e_many {t:Nt} (h:6 < t.ns.length∨20 < t.ls.length):t.e=2:=if_pos h
theorem Nt.e_nodes {t:Nt} (h:¬ (6 < t.ns.length∨20 < t.ls.length)) (hn:chkN t.ns≠0):t.e=chkN t.ns:=by unfold Nt.e;rw [if_neg h,if_neg hn]
theorem Nt.e_letters {t:Nt} (h:¬ (6 < t.ns.length∨20 < t.ls.length)) (hn:chkN t.ns=0):t.e=fstE (ltE t.ns.length) t.ls:=by unfold Nt.e;rw [if_neg h,if_pos hn]
set_option maxHeartbeats 6400000 in
set_option maxRecDepth 100000 in
theorem pcheckN_any (t:Nt) (g:Nat) (vn vl:Value) (w:World) (hV:Rv w.heap.size w) (h:NtIs w t vn vl) (hs:t.Short) (hg:w.cell? ⟨g,0,none⟩=some vn) (hg1:w.cell? ⟨g,1,none⟩=some vl) :
 Calls Tryz.prog 27 #[.pointer (some ⟨g,0,none⟩)] w fun e w'=>e=.returned (.int .i64 t.e)∧Below w.heap.size w w':=by
 have hgl:g < w.heap.size:=World.block_lt_of_cell? w _ hg
 have HCN:Hid (t.ns.length≤6→Calls Tryz.prog 58 #[.pointer (some ⟨g,0,none⟩)] w fun e w'=>e=.returned (.int .i64 (chkN t.ns))∧Below w.heap.size w w'):=fun h6=>checkNodes_any t.ns g vn w h.ns hg h6
 have HCL:Hid (t.ns.length≤6→t.ls.length≤20→∀ W,Below w.heap.size w W→Calls Tryz.prog 59 #[.pointer (some ⟨g,0,none⟩)] W fun e w'=>e=.returned (.int .i64 (fstE (ltE t.ns.length) t.ls))∧Below W.heap.size W w'):=fun h6 h20 W hW=>by
  obtain ⟨a,cap,hvn,_⟩:=h.ns
  exact checkLetters_any t.ls t.ns.length g a cap vl W (hV.after hW) (h.ls.below hW) ((hW.cell (p:=⟨g,0,none⟩) hgl).trans (by rw [hg,hvn])) ((hW.cell (p:=⟨g,1,none⟩) hgl).trans hg1) h6 h20 (hs h20)
 have HE1:Hid ((6 < t.ns.length∨20 < t.ls.length)→t.e=2):=Nt.e_many
 have HE2:Hid (¬ (6 < t.ns.length∨20 < t.ls.length)→chkN t.ns≠0→t.e=chkN t.ns):=Nt.e_nodes
 have HE3:Hid (¬ (6 < t.ns.length∨20 < t.ls.length)→chkN t.ns=0→t.e=fstE (ltE t.ns.length) t.ls):=Nt.e_letters
 obtain ⟨⟨pn,cn,hvn,_⟩,⟨pl,cl,hvl,_,_⟩⟩:=h
 subst hvn hvl
 generalize t.e=te at *
 generalize chkN t.ns=ce at *
 generalize fstE (ltE t.ns.length) t.ls=le at *
 generalize t.ns.length=n at *
 generalize t.ls.length=m at *
 clear hs hV
 by_cases h6:6 < n
 ·have d1:decide ((6:Int) < (n:Int))=true:=by simp;omega
  have HE:Hid (te=2):=HE1.out (.inl h6)
  clear HE1 HE2 HE3 h6
  go_enter Tryz.func27,Tryz.ntmps27
  go_wp2_with fail
  go_ret
  exact ⟨ret_int HE.out.symm,Below.refl _ _⟩
 have d1:decide ((6:Int) < (n:Int))=false:=by simp;omega
 by_cases h20:20 < m
 ·have d2:decide ((20:Int) < (m:Int))=true:=by simp;omega
  have HE:Hid (te=2):=HE1.out (.inr h20)
  clear HE1 HE2 HE3 h6 h20
  go_enter Tryz.func27,Tryz.ntmps27
  go_wp2_with fail
  go_ret
  exact ⟨ret_int HE.out.symm,Below.refl _ _⟩
 have d2:decide ((20:Int) < (m:Int))=false:=by simp;omega
 have HN1:Hid (Calls Tryz.prog 58 #[.pointer (some ⟨g,0,none⟩)] w fun e w'=>e=.returned (.int .i64 ce)∧Below w.heap.size w w'):=HCN.out (by omega)
 have HL1:Hid (∀ W,Below w.heap.size w W→Calls Tryz.prog 59 #[.pointer (some ⟨g,0,none⟩)] W fun e w'=>e=.returned (.int .i64 le)∧Below W.heap.size W w'):=HCL.out (by omega) (by omega)
 have HE2':Hid (ce≠0→te=ce):=HE2.out (by omega)
 have HE3':Hid (ce=0→te=le):=HE3.out (by omega)
 clear HE1 HE2 HE3 h6 h20 HCN HCL
 go_enter Tryz.func27,Tryz.ntmps27
 go_wp2_with fail
 refine HN1.out.mono ?_
 rintro e w1 ⟨rfl,hb1⟩
 have HB1:Hid (Below w.heap.size w w1):=hb1
 clear hb1
 by_cases h0:ce=0
 ·have he:(ce != 0)=false:=by simpa using h0
  have HE:Hid (te=le):=HE3'.out h0
  clear h0 HE2' HE3'
  go_wp2_with fail
  refine (HL1.out w1 HB1.out).mono ?_
  rintro e w2 ⟨rfl,hb2⟩
  have HB2:Hid (Below w.heap.size w w2):=HB1.out.trans (hb2.mono HB1.out.size)
  clear hb2
  go_wp2_with fail
  go_ret
  exact ⟨ret_int HE.out.symm,HB2.out⟩
 ·have he:(ce != 0)=true:=by simpa using h0
  have HE:Hid (te=ce):=HE2'.out h0
  clear h0 HE2' HE3'
  go_wp2_with fail
  go_ret
  exact ⟨ret_int HE.out.symm,HB1.out⟩
set_option maxHeartbeats 6400000 in
set_option maxRecDepth 100000 in
theorem netCheck_any (t:Nt) (vn vl:Value) (w:World) (hV:Rv w.heap.size w) (h:NtIs w t vn vl) (hs:t.Short) :
 Calls Tryz.prog 11 #[.agg #[vn,vl]] w fun e w'=>e=.returned (.int .i64 t.e)∧Below w.heap.size w w':=by
 have HC:Hid (∀ W g,Below w.heap.size w W→W.cell? ⟨g,0,none⟩=some vn→W.cell? ⟨g,1,none⟩=some vl→Calls Tryz.prog 27 #[.pointer (some ⟨g,0,none⟩)] W fun e w'=>e=.returned (.int .i64 t.e)∧Below W.heap.size W w'):=fun W g hW h0 h1=>pcheckN_any t g vn vl W (hV.after hW) (h.below hW) hs h0 h1
 obtain ⟨⟨pn,cn,hvn,_⟩,⟨pl,cl,hvl,_,_⟩⟩:=h
 subst hvn hvl
 generalize t.e=te at *
 generalize t.ns.length=n at *
 generalize t.ls.length=m at *
 clear hs hV
 go_enter Tryz.func11,Tryz.ntmps11
 go_wp2_with fail
 refine (HC.out _ _ (((Below.refl _ _).alloc (Nat.le_refl _) _).alloc (by simp) _) (by simp) (by simp)).mono ?_
 rintro e w1 ⟨rfl,hb1⟩
 have HB1:Hid (Below w.heap.size w w1):=((((Below.refl w.heap.size w).alloc (Nat.le_refl _) _).alloc (by simp) _).trans (hb1.mono (by simp;omega)))
 clear hb1
 go_wp2_with fail
 go_ret
 exact ⟨rfl,HB1.out⟩
structure Nx where
 n:Nd
 vm:Value
 vr:Value
 vs:Value
 vg:Value
 vw:Value
def Nx.cs (x:Nx):List Value:=(ndA x.n x.vm x.vr x.vs x.vg x.vw).toList
def nx0:Nx:=⟨ndZ,.slice none 0 0,.slice none 0 0,.slice none 0 0,.slice none 0 0,.slice none 0 0⟩
def nfl (L:List Nx):List Value:=L.flatMap Nx.cs
theorem ncs_len (x:Nx):x.cs.length=12:=rfl
theorem nfl_len:∀ L:List Nx,(nfl L).length=L.length * 12
 | []=>rfl
 | x :: L=>by
   have:=nfl_len L
   unfold nfl at this ⊢
   rw [List.flatMap_cons,List.length_append,this,ncs_len,List.length_cons];omega
theorem nfl_app (a b:List Nx):nfl (a++b)=nfl a++nfl b:=by simp [nfl]
theorem nfl_one (x:Nx):nfl [x]=x.cs:=by simp [nfl]
theorem nfl_get (L:List Nx) (j:Nat) (hj:j < L.length) (t:Nat) (ht:t < 12):(nfl L)[j * 12+t]?=(L.getD j nx0).cs[t]?:=by
 induction L generalizing j with
 | nil=>simp at hj
 | cons m r ih=>
   have e:nfl (m :: r)=m.cs++nfl r:=by simp [nfl]
   rw [e]
   cases j with
   | zero=>rw [List.getElem?_append_left (by rw [ncs_len];omega)];simp
   | succ j=>
     rw [List.getElem?_append_right (by rw [ncs_len];omega),ncs_len,show (j+1) * 12+t - 12=j * 12+t by omega,ih j (by simpa using hj)]
     simp
theorem setAll_mid {b:Nat} {T:TypeId} {f:Nat × Nat}:∀ (L pre suf post:List Value) {w:World},w.heap[b]?=some (.cells (pre++suf++post).toArray T f)→suf.length=L.length→(setAll b L pre.length w).heap[b]?=some (.cells (pre++L++post).toArray T f)
 | [],pre,suf,post,w,h,hl=>by
   have:suf=[]:=List.eq_nil_of_length_eq_zero (by simpa using hl)
   subst this;exact h
 | x :: r,pre,[],post,w,h,hl=>absurd hl (by simp)
 | x :: r,pre,y :: s,post,w,h,hl=>by
   have h1:=Joins.block_setCell (i:=pre.length) h x
   rw [List.setIfInBounds_toArray,show (pre++y :: s++post).set pre.length x=(pre++[x])++s++post by simp] at h1
   have h2:=setAll_mid r (pre++[x]) s post h1 (by simpa using hl)
   rw [show (pre++[x]).length=pre.length+1 by simp,show (pre++[x])++r++post=pre++x :: r++post by simp] at h2
   exact h2
structure NtOwn (B:Nat) (w:World) (t:Nt) (un ul:Value) (nb:Nat) (L:List Nx):Prop where
 un:un=.slice (some ⟨nb,0,none⟩) t.ns.length t.ns.length
 le:B≤nb
 ns:L.map (·.n)=t.ns
 row:w.heap[nb]?=some (.cells (nfl L).toArray 51 (0,0))
 own:∀ x∈L,NdOwn (nb+1) w x.n x.vm x.vr x.vs x.vg x.vw
 ls:Lt.Own (nb+1) w ul t.ls
theorem NdOwn.keep {B:Nat} {w w':World} {n:Nd} {vm vr vs vg vw:Value} (h:NdOwn B w n vm vr vs vg vw) (hk:∀ b,B≤b→b < w.heap.size→w'.heap[b]?=w.heap[b]?):NdOwn B w' n vm vr vs vg vw:=⟨row_keep hk h.ms,row_keep hk h.rs,row_keep hk h.sv,row_keep hk h.gw,row_keep hk h.wh⟩
theorem row_mono {base base':Nat} {w:World} {T:TypeId} {k n:Nat} {v:Value} {cs:List Value} (h:w.ownsRow base T k v n cs) (hb:base'≤base):w.ownsRow base' T k v n cs:=by
 rcases h.2 with ⟨rfl,h0⟩ | ⟨g,c,cur,rfl,hbg,r⟩
 ·exact ⟨h.1,.inl ⟨rfl,h0⟩⟩
 ·exact ⟨h.1,.inr ⟨g,c,cur,rfl,Nat.le_trans hb hbg,r⟩⟩
theorem NdOwn.mono {A B:Nat} {w:World} {n:Nd} {vm vr vs vg vw:Value} (h:NdOwn B w n vm vr vs vg vw) (hb:A≤B):NdOwn A w n vm vr vs vg vw:=⟨h.ms.mono hb,row_mono h.rs hb,h.sv.mono hb,h.gw.mono hb,h.wh.mono hb⟩
def nzV:Value:=.agg #[.string ⟨#[]⟩,.string ⟨#[]⟩,.slice none 0 0,.slice none 0 0,.slice none 0 0,.slice none 0 0,.int .i64 0,.int .i64 0,.int .i64 0,.int .i64 0,.int .i64 0,.slice none 0 0]
theorem made_n0:madeCells nzV.cells (0 * 12)=(nfl (List.replicate 0 nx0)).toArray:=by kernel_rfl
theorem made_n1:madeCells nzV.cells (1 * 12)=(nfl (List.replicate 1 nx0)).toArray:=by kernel_rfl
theorem made_n2:madeCells nzV.cells (2 * 12)=(nfl (List.replicate 2 nx0)).toArray:=by kernel_rfl
theorem made_n3:madeCells nzV.cells (3 * 12)=(nfl (List.replicate 3 nx0)).toArray:=by kernel_rfl
theorem made_n4:madeCells nzV.cells (4 * 12)=(nfl (List.replicate 4 nx0)).toArray:=by kernel_rfl
theorem made_n5:madeCells nzV.cells (5 * 12)=(nfl (List.replicate 5 nx0)).toArray:=by kernel_rfl
theorem made_n6:madeCells nzV.cells (6 * 12)=(nfl (List.replicate 6 nx0)).toArray:=by kernel_rfl
theorem made_nodes (n:Nat) (h:n≤6):madeCells nzV.cells (n * 12)=(nfl (List.replicate n nx0)).toArray:=by
 have h7:n=0∨n=1∨n=2∨n=3∨n=4∨n=5∨n=6:=by omega
 rcases h7 with rfl | rfl | rfl | rfl | rfl | rfl | rfl
 ·exact made_n0
 ·exact made_n1
 ·exact made_n2
 ·exact made_n3
 ·exact made_n4
 ·exact made_n5
 ·exact made_n6
theorem Tryz.infoNd:(Tryz.prog.info? 51).map (fun i=>(i.zero,i.size,i.bytes))=some (some (.agg #[.string ⟨#[]⟩,.string ⟨#[]⟩,.slice none 0 0,.slice none 0 0,.slice none 0 0,.slice none 0 0,.int .i64 0,.int .i64 0,.int .i64 0,.int .i64 0,.int .i64 0,.slice none 0 0]),12,192):=by kernel_rfl
set_option maxHeartbeats 12800000 in
set_option maxRecDepth 100000 in
theorem copied_any (t:Nt) (vn vl:Value) (w:World) (h:NtIs w t vn vl) (hn6:t.ns.length≤6) (hl20:t.ls.length≤20) (hsm:∀ n∈t.ns,n.ms.length≤1000∧n.rs.length≤1000∧n.sv.length≤1000∧n.gw.length≤1000∧n.wh.length≤1000) :
 Calls Tryz.prog 18 #[.agg #[vn,vl]] w fun e w'=>∃ un a l c L,e=.returned (.agg #[un,.slice a l c])∧NtOwn w.heap.size w' t un (.slice a l c) (w.heap.size+2) L∧Below w.heap.size w w':=by
 obtain ⟨i0,hi0,hz0,hzs,hzb⟩:=info_parts Tryz.infoNd
 have HCL:Hid (∀ W,Below w.heap.size w W→Calls Tryz.prog 37 #[vl] W fun e w'=>∃ v',e=.returned v'∧Lt.Own W.heap.size w' v' t.ls∧Below W.heap.size W w'):=fun W hW=>Lt.clone_any t.ls vl W (h.ls.below hW) (by omega)
 have HSM:Hid (∀ n∈t.ns,n.ms.length≤1000∧n.rs.length≤1000∧n.sv.length≤1000∧n.gw.length≤1000∧n.wh.length≤1000):=hsm
 obtain ⟨⟨pn,cn,hvn,ha⟩,⟨pl,cl,hvl,_,_⟩⟩:=h
 subst hvn hvl
 obtain ⟨ns,ls⟩:=t
 simp only at *
 have HA:Hid (ns=[]∨∃ b off,pn=some ⟨b,off,none⟩∧b < w.heap.size∧NRow w b off ns):=ha
 clear ha hsm
 generalize hN:ns.length=n at *
 have HN:Hid (ns.length=n):=hN
 clear hN
 generalize ls.length=m at *
 obtain ⟨W0,hW0⟩:∃ W0,W0=(w.alloc (.cells #[.slice pn n cn,.slice pl m cl] 25)).alloc (.cells #[.slice none 0 0,.slice none 0 0] 25):=⟨_,rfl⟩
 have hb0:Below w.heap.size w W0:=by rw [hW0];exact ((Below.refl _ _).alloc (Nat.le_refl _) _).alloc (by simp) _
 have hs0:W0.heap.size=w.heap.size+2:=by rw [hW0];simp
 have k0:W0.heap[w.heap.size]?=some (.cells #[.slice pn n cn,.slice pl m cl] 25 (0,0)):=by
  rw [hW0];exact (Lib.alloc_old _ _ _ (by simp)).trans (heap_alloc_new w _)
 have k1:W0.heap[w.heap.size+1]?=some (.cells #[.slice none 0 0,.slice none 0 0] 25 (0,0)):=by
  rw [hW0]
  have:=heap_alloc_new (w.alloc (.cells #[.slice pn n cn,.slice pl m cl] 25)) (.cells #[.slice none 0 0,.slice none 0 0] 25)
  simpa using this
 obtain ⟨W1,hW1⟩:∃ W1,W1=W0.alloc (.cells (nfl (List.replicate n nx0)).toArray 51):=⟨_,rfl⟩
 have hmk:(Instr.makeSlice 22 (.int .i64 (n:Int)) (.int .i64 (n:Int))).run Tryz.prog W0=.ok (.slice (some ⟨w.heap.size+2,0,none⟩) n n) W1:=by
  have h:=run_makeSlice (P:=Tryz.prog) (w:=W0) 22 51 i0 _ Tryz.underlying22 hi0 hz0 .i64 .i64 (n:Int) (n:Int) (by omega) (Int.le_refl _) (by rw [hzs];omega) (by rw [hzb];omega) (by omega)
  have hm:=made_nodes n hn6
  unfold nzV at hm
  rw [hzs,Int.toNat_natCast,hm,hs0] at h
  rw [hW1]
  exact h
 have hb1:Below W0.heap.size W0 W1:=by rw [hW1];exact (Below.refl _ _).alloc (Nat.le_refl _) _
 have kn:W1.heap[w.heap.size+2]?=some (.cells (nfl (List.replicate n nx0)).toArray 51 (0,0)):=by rw [hW1,← hs0];exact heap_alloc_new W0 _
 have hs1:W1.heap.size=w.heap.size+3:=by rw [hW1];simp;omega
 have HBX:Hid (W1.heap[w.heap.size]?=some (.cells #[.slice pn n cn,.slice pl m cl] 25 (0,0))∧W1.heap[w.heap.size+1]?=some (.cells #[.slice none 0 0,.slice none 0 0] 25 (0,0))∧Below w.heap.size w W1):=⟨(hb1.block _ (by omega)).trans k0,(hb1.block _ (by omega)).trans k1,hb0.trans (hb1.mono (by omega))⟩
 have HKN:Hid (W1.heap[w.heap.size+2]?=some (.cells (nfl ([]++List.replicate (n - 0) nx0)).toArray 51 (0,0))):=kn
 have HS1:Hid (W1.heap.size=w.heap.size+3):=hs1
 have x0:W0.cell? ⟨w.heap.size,0,none⟩=some (.slice pn n cn):=cellsAt k0 0
 have x1:W1.cell? ⟨w.heap.size,0,none⟩=some (.slice pn n cn):=cellsAt HBX.out.1 0
 clear hb0 hb1 k0 k1 kn hW1 hs0 hs1 hi0 hz0 hzs hzb
 go_enter Tryz.func18,Tryz.ntmps18
 go_upto_region 1 with fail
 rw [← hW0]
 clear hW0
 go_wp2_with fail
 clear hmk x0 x1
 go_loopw [13] (fun i wr=>∃ (k:Nat) (L:List Nx),k≤n∧i=.int .i64 k∧Hid (L.map (·.n)=ns.take k∧L.length=k)∧Hid (wr.heap[w.heap.size+2]?=some (.cells (nfl (L++List.replicate (n - k) nx0)).toArray 51 (0,0)))∧Hid (∀ x∈L,NdOwn (w.heap.size+3) wr x.n x.vm x.vr x.vs x.vg x.vw)∧Hid (wr.heap[w.heap.size]?=some (.cells #[.slice pn n cn,.slice pl m cl] 25 (0,0))∧wr.heap[w.heap.size+1]?=some (.cells #[.slice none 0 0,.slice none 0 0] 25 (0,0))∧Below w.heap.size w wr)∧w.heap.size+3≤wr.heap.size) (fun i _=>n - (intOf i).toNat)
 case atStart=>exact ⟨0,[],Nat.zero_le _,rfl,⟨rfl,rfl⟩,HKN,(fun x hx=>by cases hx),HBX,by have:=HS1.out;omega⟩
 case round=>
  obtain ⟨k,L,hk,rfl,HL,HK,HO,HB,hsz⟩:=hrel
  by_cases hlt:k < n
  ·obtain ⟨b,off,hp,hl,hr⟩:∃ b off,pn=some ⟨b,off,none⟩∧b < w.heap.size∧NRow w b off ns:=by
    rcases HA.out with h | h
    ·have:=HN.out;rw [h] at this;simp at this;omega
    ·exact h
   subst hp
   obtain ⟨vm,vr,vs,vg,vw,hnd,c0,c1,c2,c3,c4,c5,c6,c7,c8,c9,c10,c11⟩:=(hr.below HB.out.2.2 hl).at (by rw [HN.out];exact hlt)
   have hkl:k < ns.length:=by rw [HN.out];exact hlt
   have HTK:Hid (ns.take (k+1)=ns.take k++[ns.getD k ndZ]):=by
    show _=_
    rw [List.take_add_one,List.getD,List.getElem?_eq_getElem hkl];rfl
   have hsm5:=HSM.out (ns.getD k ndZ) (by rw [List.getD,List.getElem?_eq_getElem hkl];exact List.getElem_mem hkl)
   generalize (ns.getD k ndZ)=nk at *
   have HFR:Hid (∀ W,Below wr.heap.size wr W→Calls Tryz.prog 36 #[.agg (ndA nk vm vr vs vg vw)] W fun e w'=>∃ um ur us ug uw,e=.returned (.agg (ndA nk um ur us ug uw))∧NdOwn W.heap.size w' nk um ur us ug uw∧Below W.heap.size W w'):=fun W hW=>fresh_any nk vm vr vs vg vw W (hnd.below hW) hsm5.1 hsm5.2.1 hsm5.2.2.1 hsm5.2.2.2.1 hsm5.2.2.2.2
   obtain ⟨⟨am,cm,hvm,_,_⟩,⟨ar,cr,hvr,_,_⟩,⟨ax,cx,hvs,_,_⟩,⟨ag,cg,hvg,_,_⟩,⟨aw,cw,hvw,_,_⟩,_,_⟩:=hnd
   subst hvm hvr hvs hvg hvw
   obtain ⟨nm,ct,ms,rs,sv,gw,⟨px,py,pz,ph,pq⟩,wh⟩:=nk
   simp only [ndA] at c0 c1 c2 c3 c4 c5 c6 c7 c8 c9 c10 c11 HFR
   clear hr hsm5 hkl
   have hkn:(k:Int) < n:=by omega
   obtain ⟨W2,hW2⟩:∃ W2,W2=wr.alloc (.cells #[.string nm,.string ct,.slice am ms.length cm,.slice ar rs.length cr,.slice ax sv.length cx,.slice ag gw.length cg,.int .i64 px,.int .i64 py,.int .i64 pz,.int .i64 ph,.int .i64 pq,.slice aw wh.length cw] 51):=⟨_,rfl⟩
   have hb2:Below wr.heap.size wr W2:=by rw [hW2];exact (Below.refl _ _).alloc (Nat.le_refl _) _
   have HX2:Hid (W2.heap[wr.heap.size]?=some (.cells #[.string nm,.string ct,.slice am ms.length cm,.slice ar rs.length cr,.slice ax sv.length cx,.slice ag gw.length cg,.int .i64 px,.int .i64 py,.int .i64 pz,.int .i64 ph,.int .i64 pq,.slice aw wh.length cw] 51 (0,0))):=by rw [hW2];exact heap_alloc_new wr _
   have HB2:Hid (Below wr.heap.size wr W2):=hb2
   clear hb2
   go_upto_region 5 with fail
   rw [← hW2]
   clear hW2 c0 c1 c2 c3 c4 c5 c6 c7 c8 c9 c10 c11
   obtain ⟨d0,d1,d2,d3,d4,d5,d6,d7,d8,d9,d10,d11⟩:=cells12 HX2.out
   go_wp2_with fail
   refine (HFR.out W2 HB2.out).mono ?_
   rintro e w3 ⟨um,ur,us,ug,uw,rfl,ho3,hb3⟩
   have hb03:Below wr.heap.size wr w3:=HB2.out.trans (hb3.mono HB2.out.size)
   have hk3:w3.heap[w.heap.size+2]?=some (.cells (nfl (L++List.replicate (n - k) nx0)).toArray 51 (0,0)):=(hb03.block _ (by omega)).trans HK.out
   have HLL:=HL.out.2
   have hnk:List.replicate (n - k) nx0=nx0 :: List.replicate (n - (k+1)) nx0:=by rw [show n - k=(n - (k+1))+1 by omega,List.replicate_succ]
   have hspl:nfl (L++List.replicate (n - k) nx0)=nfl L++nx0.cs++nfl (List.replicate (n - (k+1)) nx0):=by
    rw [nfl_app,hnk,show nfl (nx0 :: List.replicate (n - (k+1)) nx0)=nx0.cs++nfl (List.replicate (n - (k+1)) nx0) by simp [nfl],List.append_assoc]
   have hlen:(nfl L).length=k * 12:=by rw [nfl_len,HLL]
   rw [hspl] at hk3
   have hz:∀ i,i < 12→w3.cell? ⟨w.heap.size+2,k * 12+i,none⟩=nx0.cs[i]? ∧ w3.frozen? ⟨w.heap.size+2,k * 12+i,none⟩=false:=fun i hi=>by
    refine ⟨?_,by simp [World.frozen?,hk3]⟩
    rw [cellsAt hk3]
    rw [List.getElem?_toArray,List.append_assoc,List.getElem?_append_right (by omega),hlen,Nat.add_sub_cancel_left,List.getElem?_append_left (by rw [ncs_len];omega)]
   have e0:w3.cell? ⟨w.heap.size+2,k * 12,none⟩=some (.string ⟨#[]⟩):=(hz 0 (by omega)).1
   have z0:w3.frozen? ⟨w.heap.size+2,k * 12,none⟩=false:=(hz 0 (by omega)).2
   have e1:w3.cell? ⟨w.heap.size+2,k * 12+1,none⟩=some (.string ⟨#[]⟩):=(hz 1 (by omega)).1
   have z1:w3.frozen? ⟨w.heap.size+2,k * 12+1,none⟩=false:=(hz 1 (by omega)).2
   have e2:w3.cell? ⟨w.heap.size+2,k * 12+2,none⟩=some (.slice none 0 0):=(hz 2 (by omega)).1
   have z2:w3.frozen? ⟨w.heap.size+2,k * 12+2,none⟩=false:=(hz 2 (by omega)).2
   have e3:w3.cell? ⟨w.heap.size+2,k * 12+3,none⟩=some (.slice none 0 0):=(hz 3 (by omega)).1
   have z3:w3.frozen? ⟨w.heap.size+2,k * 12+3,none⟩=false:=(hz 3 (by omega)).2
   have e4:w3.cell? ⟨w.heap.size+2,k * 12+4,none⟩=some (.slice none 0 0):=(hz 4 (by omega)).1
   have z4:w3.frozen? ⟨w.heap.size+2,k * 12+4,none⟩=false:=(hz 4 (by omega)).2
   have e5:w3.cell? ⟨w.heap.size+2,k * 12+5,none⟩=some (.slice none 0 0):=(hz 5 (by omega)).1
   have z5:w3.frozen? ⟨w.heap.size+2,k * 12+5,none⟩=false:=(hz 5 (by omega)).2
   have e6:w3.cell? ⟨w.heap.size+2,k * 12+6,none⟩=some (.int .i64 0):=(hz 6 (by omega)).1
   have z6:w3.frozen? ⟨w.heap.size+2,k * 12+6,none⟩=false:=(hz 6 (by omega)).2
   have e7:w3.cell? ⟨w.heap.size+2,k * 12+7,none⟩=some (.int .i64 0):=(hz 7 (by omega)).1
   have z7:w3.frozen? ⟨w.heap.size+2,k * 12+7,none⟩=false:=(hz 7 (by omega)).2
   have e8:w3.cell? ⟨w.heap.size+2,k * 12+8,none⟩=some (.int .i64 0):=(hz 8 (by omega)).1
   have z8:w3.frozen? ⟨w.heap.size+2,k * 12+8,none⟩=false:=(hz 8 (by omega)).2
   have e9:w3.cell? ⟨w.heap.size+2,k * 12+9,none⟩=some (.int .i64 0):=(hz 9 (by omega)).1
   have z9:w3.frozen? ⟨w.heap.size+2,k * 12+9,none⟩=false:=(hz 9 (by omega)).2
   have e10:w3.cell? ⟨w.heap.size+2,k * 12+10,none⟩=some (.int .i64 0):=(hz 10 (by omega)).1
   have z10:w3.frozen? ⟨w.heap.size+2,k * 12+10,none⟩=false:=(hz 10 (by omega)).2
   have e11:w3.cell? ⟨w.heap.size+2,k * 12+11,none⟩=some (.slice none 0 0):=(hz 11 (by omega)).1
   have z11:w3.frozen? ⟨w.heap.size+2,k * 12+11,none⟩=false:=(hz 11 (by omega)).2
   obtain ⟨bm,em,hum,_⟩:=own_slice ho3.ms
   obtain ⟨br,er,hur,_⟩:=own_slice ho3.rs
   obtain ⟨bx,ex,hus,_⟩:=own_slice ho3.sv
   obtain ⟨bg,eg,hug,_⟩:=own_slice ho3.gw
   obtain ⟨bw,ew,huw,_⟩:=own_slice ho3.wh
   simp only at hum hur hus hug huw
   subst hum hur hus hug huw
   clear hz hspl hnk d0 d1 d2 d3 d4 d5 d6 d7 d8 d9 d10 d11
   obtain ⟨W4,hW4⟩:∃ W4,W4=setAll (w.heap.size+2) [.string nm,.string ct,.slice bm ms.length em,.slice br rs.length er,.slice bx sv.length ex,.slice bg gw.length eg,.int .i64 px,.int .i64 py,.int .i64 pz,.int .i64 ph,.int .i64 pq,.slice bw wh.length ew] (k * 12) w3:=⟨_,rfl⟩
   have HK4:Hid (W4.heap[w.heap.size+2]?=some (.cells (nfl ((L++[⟨⟨nm,ct,ms,rs,sv,gw,⟨px,py,pz,ph,pq⟩,wh⟩,.slice bm ms.length em,.slice br rs.length er,.slice bx sv.length ex,.slice bg gw.length eg,.slice bw wh.length ew⟩])++List.replicate (n - (k+1)) nx0)).toArray 51 (0,0))):=by
    have h:=setAll_mid [.string nm,.string ct,.slice bm ms.length em,.slice br rs.length er,.slice bx sv.length ex,.slice bg gw.length eg,.int .i64 px,.int .i64 py,.int .i64 pz,.int .i64 ph,.int .i64 pq,.slice bw wh.length ew] (nfl L) nx0.cs (nfl (List.replicate (n - (k+1)) nx0)) hk3 rfl
    rw [hlen,← hW4] at h
    rw [nfl_app,nfl_app,nfl_one]
    exact h
   have hoth:∀ q,q≠w.heap.size+2→W4.heap[q]?=w3.heap[q]?:=fun q hq=>by rw [hW4];exact setAll_other hq _ _ _
   have hz4:W4.heap.size=w3.heap.size:=by rw [hW4];exact setAll_size _ _ _ _
   have HO4:Hid (∀ x∈L++[(⟨⟨nm,ct,ms,rs,sv,gw,⟨px,py,pz,ph,pq⟩,wh⟩,.slice bm ms.length em,.slice br rs.length er,.slice bx sv.length ex,.slice bg gw.length eg,.slice bw wh.length ew⟩:Nx)],NdOwn (w.heap.size+3) W4 x.n x.vm x.vr x.vs x.vg x.vw):=fun x hx=>by
    rcases List.mem_append.1 hx with hx | hx
    ·exact ((HO.out x hx).below hb03).keep (fun q hq _=>hoth q (by omega))
    ·rw [List.mem_singleton.1 hx]
     exact (ho3.mono (by have:=HB2.out.size;omega)).keep (fun q hq _=>hoth q (by omega))
   have HB4:Hid (W4.heap[w.heap.size]?=some (.cells #[.slice (some ⟨b,off,none⟩) n cn,.slice pl m cl] 25 (0,0))∧W4.heap[w.heap.size+1]?=some (.cells #[.slice none 0 0,.slice none 0 0] 25 (0,0))∧Below w.heap.size w W4):=⟨(hoth _ (by omega)).trans ((hb03.block _ (by omega)).trans HB.out.1),(hoth _ (by omega)).trans ((hb03.block _ (by omega)).trans HB.out.2.1),by rw [hW4];exact setAll_below (by omega) _ _ (HB.out.2.2.trans (hb03.mono (by omega)))⟩
   have HL4:Hid ((L++[(⟨⟨nm,ct,ms,rs,sv,gw,⟨px,py,pz,ph,pq⟩,wh⟩,.slice bm ms.length em,.slice br rs.length er,.slice bx sv.length ex,.slice bg gw.length eg,.slice bw wh.length ew⟩:Nx)]).map (·.n)=ns.take (k+1)∧(L++[(⟨⟨nm,ct,ms,rs,sv,gw,⟨px,py,pz,ph,pq⟩,wh⟩,.slice bm ms.length em,.slice br rs.length er,.slice bx sv.length ex,.slice bg gw.length eg,.slice bw wh.length ew⟩:Nx)]).length=k+1):=⟨by rw [List.map_append,HL.out.1,HTK.out];rfl,by rw [List.length_append,HLL];rfl⟩
   have hsz4:w.heap.size+3≤W4.heap.size:=by rw [hz4];have:=hb03.size;omega
   clear hoth hz4 hk3 hlen ho3 hb3 hb03 HLL HTK HO HK HL HB HB2 HX2 HFR
   go_upto_region 6 with fail
   simp only [setAll,Nat.add_assoc,Nat.reduceAdd] at hW4
   rw [← hW4]
   clear hW4 e0 e1 e2 e3 e4 e5 e6 e7 e8 e9 e10 e11 z0 z1 z2 z3 z4 z5 z6 z7 z8 z9 z10 z11
   go_wp2_with fail
   exact ⟨⟨k+1,_,by omega,by go_num,HL4,HK4,HO4,HB4,hsz4⟩,by simp [intOf];omega⟩
  ·have hkn:k=n:=by omega
   have hd:decide ((k:Int) < (n:Int))=false:=by simp;omega
   have x2:wr.cell? ⟨w.heap.size,1,none⟩=some (.slice pl m cl):=cellsAt HB.out.1 1
   go_wp2_with fail
   refine (HCL.out wr HB.out.2.2).mono ?_
   rintro e w5 ⟨v',rfl,hol,hb5⟩
   obtain ⟨al,ll,kl,rfl⟩:=slice_of_row hol
   have hg5:w5.heap[w.heap.size+1]?=some (.cells #[.slice none 0 0,.slice none 0 0] 25 (0,0)):=(hb5.block _ (by omega)).trans HB.out.2.1
   obtain ⟨W6,hW6⟩:∃ W6,W6=setAll (w.heap.size+1) [.slice (some ⟨w.heap.size+2,0,none⟩) n n,.slice al ll kl] 0 w5:=⟨_,rfl⟩
   have hg6:W6.heap[w.heap.size+1]?=some (.cells #[.slice (some ⟨w.heap.size+2,0,none⟩) n n,.slice al ll kl] 25 (0,0)):=by rw [hW6];exact setAll_block [.slice (some ⟨w.heap.size+2,0,none⟩) n n,.slice al ll kl] [] [.slice none 0 0,.slice none 0 0] hg5 rfl
   have hoth:∀ q,q≠w.heap.size+1→W6.heap[q]?=w5.heap[q]?:=fun q hq=>by rw [hW6];exact setAll_other hq _ _ _
   have HRES:Hid (∃ un a l c L,Ending.returned (.agg #[.slice (some ⟨w.heap.size+2,0,none⟩) n n,.slice al ll kl])=.returned (.agg #[un,.slice a l c])∧NtOwn w.heap.size W6 ⟨ns,ls⟩ un (.slice a l c) (w.heap.size+2) L∧Below w.heap.size w W6):=by
    have hHK:=HK.out
    rw [show n - k=0 by omega] at hHK
    simp only [List.replicate_zero,List.append_nil] at hHK
    refine ⟨_,_,_,_,L,rfl,⟨by rw [HN.out],by omega,?_,?_,?_,?_⟩,?_⟩
    ·rw [HL.out.1,hkn,← HN.out,List.take_length]
    ·exact (hoth _ (by omega)).trans ((hb5.block _ (by omega)).trans hHK)
    ·exact fun x hx=>((HO.out x hx).below hb5).keep (fun q hq _=>hoth q (by omega))
    ·exact row_keep (fun q hq _=>hoth q (by omega)) (row_mono hol (by omega))
    ·rw [hW6];exact setAll_below (by omega) _ _ (HB.out.2.2.trans (hb5.mono (by omega)))
   have g0:w5.cell? ⟨w.heap.size+1,0,none⟩=some (.slice none 0 0):=cellsAt hg5 0
   have g1:w5.cell? ⟨w.heap.size+1,1,none⟩=some (.slice none 0 0):=cellsAt hg5 1
   have f0:w5.frozen? ⟨w.heap.size+1,0,none⟩=false:=by simp [World.frozen?,hg5]
   have f1:w5.frozen? ⟨w.heap.size+1,1,none⟩=false:=by simp [World.frozen?,hg5]
   have q0:W6.cell? ⟨w.heap.size+1,0,none⟩=some (.slice (some ⟨w.heap.size+2,0,none⟩) n n):=cellsAt hg6 0
   have q1:W6.cell? ⟨w.heap.size+1,1,none⟩=some (.slice al ll kl):=cellsAt hg6 1
   clear hg5 hg6 hoth hol hb5 HB HO HK HL hkn hd x2 HCL
   go_wp2_with fail
   simp only [setAll,Nat.zero_add] at hW6
   rw [← hW6]
   clear hW6 g0 g1 f0 f1
   exact bodyPost_ret (v:=.agg #[.slice (some ⟨w.heap.size+2,0,none⟩) n n,.slice al ll kl]) (by simp [results,Tryz.results18,go_sem,q0,q1]) rfl HRES.out
end Go.Proofs.YtffdoiokmiklgaaGreatDoor
