import Derived.Test.YtffdoiokmiklgaaGreatDoorX13
import Derived.Test.YtffdoiokmiklgaaGreatDoorX14
import Derived.Test.YtffdoiokmiklgaaGreatDoorX11
import Derived.Test.YtffdoiokmiklgaaGreatDoorX17
namespace Go.Proofs.YtffdoiokmiklgaaGreatDoor
open Go.RowKit Go.WideMaps Go.Maps
def mnames (ms:List Mem):List ByteArray:=ms.map (·.name)
theorem mnames_get (ms:List Mem) (k:Nat):(mnames ms).getD k ByteArray.empty=(ms.getD k dm).name:=by
 by_cases h:k < ms.length
 ·simp [mnames,List.getD,List.getElem?_eq_getElem h]
 ·simp [mnames,List.getD,List.getElem?_eq_none (by omega:ms.length≤k),dm]
structure Cnt (D:DataW Unit) (ns:List ByteArray) (k:Nat):Prop where
 tidy:Tidy D
 has:∀ s,Maps.has D (kS s)=Maps.has (Dm ns k) (kS s)
 size:Maps.size D=Maps.size (Dm ns k)
 val:∀ s,∃ c:Int,D.atKey (kS s) (.lit (.int .i64 0))=.lit (.int .i64 c)∧0≤c∧c≤k
theorem cnt_zero (ns:List ByteArray):Cnt (.map []) ns 0:=⟨tidy_empty,fun _=>rfl,rfl,fun _=>⟨0,rfl,Int.le_refl _,Int.le_refl _⟩⟩
theorem cnt_step {D:DataW Unit} {ns:List ByteArray} {k:Nat} (h:Cnt D ns k) {c:Int} (hc:D.atKey (kS (ns.getD k ByteArray.empty)) (.lit (.int .i64 0))=.lit (.int .i64 c)) :
 0≤c∧c≤k∧Cnt (D.put (kS (ns.getD k ByteArray.empty)) (.lit (.int .i64 (c+1)))) ns (k+1):=by
 obtain ⟨c',hc',h0,h1⟩:=h.val (ns.getD k ByteArray.empty)
 rw [hc] at hc'
 have e:c=c':=by injection hc' with h;injection h
 subst e
 refine ⟨h0,h1,h.tidy.put (kS_key _) _,fun s=>?_,?_,fun s=>?_⟩
 ·by_cases e:ns.getD k ByteArray.empty=s
  ·subst e;rw [has_put_same h.tidy.isMap (kS_key _),Dm,has_put_same (Dm_tidy ns k).isMap (kS_key _)]
  ·rw [has_put_other (kS_ne (Ne.symm e)),Dm,has_put_other (kS_ne (Ne.symm e))];exact h.has s
 ·rw [size_put h.tidy,Dm_step,h.has,h.size]
 ·by_cases e:ns.getD k ByteArray.empty=s
  ·subst e;exact ⟨c+1,by rw [atKey_put_same h.tidy.isMap (kS_key _)],by omega,by omega⟩
  ·rw [atKey_put_other (kS_ne (Ne.symm e))]
   obtain ⟨d,hd,d0,d1⟩:=h.val s
   exact ⟨d,hd,d0,by omega⟩
theorem cnt_lt {D:DataW Unit} {ms:List Mem} (h:Cnt D (mnames ms) ms.length) (hd:¬ Apart ms):Maps.size D < ms.length:=by
 rw [h.size]
 apply Dm_size_lt
 apply Classical.byContradiction
 intro hx
 apply hd
 intro i j hij hj e
 exact hx ⟨i,j,hij,hj,by rw [mnames_get,mnames_get];exact e⟩
theorem cnt_eq {D:DataW Unit} {ms:List Mem} (h:Cnt D (mnames ms) ms.length) (hd:Apart ms):Maps.size D=ms.length:=by
 rw [h.size]
 exact Dm_size_eq _ _ (fun i j hij hj=>by rw [mnames_get,mnames_get];exact hd i j hij hj)
theorem cmap_below {w w':World} {b n:Nat} {D:DataW Unit} (h:w.ownsMap Tryz.prog 9 (plainElem (H:=Unit) Tryz.prog 3) b n D) (hb:Below w.heap.size w w'):w'.ownsMap Tryz.prog 9 (plainElem (H:=Unit) Tryz.prog 3) b n D:=by
 have hl:=h.lt
 obtain ⟨es,clock,h1,h2⟩:=h
 exact ⟨es,clock,(hb.block b hl).trans h1,h2⟩
theorem row_one {w:World} {b off:Nat} {ms:List Mem} (hr:Row w b off ms) {k:Nat} (hk:k < ms.length):Row w b (off+k * 5) [ms.getD k dm]:=fun j hj=>by
 have:j=0:=by simpa using hj
 subst this
 simpa using hr k hk
def Roomy (v:Value):Prop:=match v with
 | .slice _ n c=>n≤c
 | _=>True
set_option maxHeartbeats 6400000 in
set_option maxRecDepth 100000 in
theorem checkTold_any (ms:List Mem) (v:Value) (w:World) (hv:Sl w v ms) (hroom:Roomy v) :
 Calls Tryz.prog 132 #[v] w fun e w'=>e=.returned (.int .i64 (chkT ms))∧Below w.heap.size w w':=by
 obtain ⟨pa,ca,rfl,hsz,ha⟩:=hv
 have hcap:ms.length≤ca:=hroom
 clear hroom
 by_cases hmany:5 < ms.length
 ·have HE:Hid (chkT ms=2):=chkT_many hmany
  go_enter Tryz.func132,Tryz.ntmps132
  go_wp2_with fail
  go_ret
  exact ⟨ret_int HE.out.symm,Below.refl _ _⟩
 have HA:Hid (ms=[]∨∃ b off,pa=some ⟨b,off,none⟩∧b < w.heap.size∧Row w b off ms):=ha
 have HS:Hid (∀ j,(ms.getD j dm).name.size≤maxLen):=hsz
 clear ha hsz
 generalize hN:ms.length=n at *
 have HN:Hid (ms.length=n):=hN
 clear hN
 have hn5:n≤5:=by omega
 have hmm:=run_makeMapHint
 go_enter Tryz.func132,Tryz.ntmps132
 go_wp2
 go_loopw [15] (fun i wr=>∃ k:Nat,k≤n∧i=.int .i64 k∧Hid (∀ j,j < k→(ms.getD j dm).e=0)∧Hid (∃ D,wr.ownsMap Tryz.prog 9 (plainElem (H:=Unit) Tryz.prog 3) w.heap.size k D∧Cnt D (mnames ms) k)∧Hid (Below w.heap.size w wr)) (fun i _=>n - (intOf i).toNat)
 case atStart=>exact ⟨0,Nat.zero_le _,rfl,fun j hj=>by omega,⟨_,World.ownsMap_made _ _ _ _,cnt_zero _⟩,(Below.refl _ _).alloc (Nat.le_refl _) _⟩
 case round=>
  obtain ⟨k,hk,rfl,HZ,HD,HB⟩:=hrel
  obtain ⟨D,HO,HC⟩:=HD.out
  have HO:Hid (wr.ownsMap Tryz.prog 9 (plainElem (H:=Unit) Tryz.prog 3) w.heap.size k D):=HO
  have HC:Hid (Cnt D (mnames ms) k):=HC
  clear HD
  by_cases hlt:k < n
  ·obtain ⟨b,off,hp,hl,hr⟩:∃ b off,pa=some ⟨b,off,none⟩∧b < w.heap.size∧Row w b off ms:=by
    rcases HA.out with h | h
    ·have:=HN.out;rw [h] at this;simp at this;omega
    ·exact h
   subst hp
   have hr2:=hr.later HB.out hl
   obtain ⟨c0,c1,c2,c3,c4⟩:=hr2 k (by rw [HN.out];exact hlt)
   have hnm:=HS.out k
   have HX:Hid ((ms.getD k dm).e≠0→chkT ms=(ms.getD k dm).e):=fun h=>chkT_e (by rw [HN.out];exact hn5) (by rw [HN.out];exact hlt) HZ.out h
   have HZ2:Hid ((ms.getD k dm).e=0→∀ j,j < k+1→(ms.getD j dm).e=0):=fun h j hj=>by
    by_cases e:j=k
    ·subst e;exact h
    ·exact HZ.out j (by omega)
   have HR1:Hid (Row wr b (off+k * 5) [ms.getD k dm]):=row_one hr2 (by rw [HN.out];exact hlt)
   have HG:Hid (∀ (c:Int),D.atKey (kS (ms.getD k dm).name) (.lit (.int .i64 0))=.lit (.int .i64 c)→0≤c∧c≤k∧Cnt (D.put (kS (ms.getD k dm).name) (.lit (.int .i64 (c+1)))) (mnames ms) (k+1)):=fun c hc=>by
    have h:=cnt_step HC.out (c:=c) (by rw [mnames_get];exact hc)
    rw [mnames_get] at h;exact h
   have hsz:=HB.out.size
   generalize (ms.getD k dm)=mk at *
   have HCK:Hid (∀ W,Below wr.heap.size wr W→∀ cc,Calls Tryz.prog 125 #[.slice (some ⟨b,off+k * 5,none⟩) 1 cc] W fun e w'=>e=.returned (.int .i64 mk.e)∧Below W.heap.size W w'):=fun W hW cc=>by
    have h:=check_any [mk] (.slice (some ⟨b,off+k * 5,none⟩) 1 cc) W ⟨_,cc,rfl,ns_get (fun x hx=>by simp at hx;subst hx;exact hnm),.inr ⟨b,_,rfl,by have:=hW.size;omega,HR1.out.later hW (by omega)⟩⟩
    rw [chk_oneR] at h;exact h
   obtain ⟨nm,st,lf,ad,sv⟩:=mk
   simp only at c0 c1 c2 c3 c4 hnm HX HZ2 HG HCK
   have hkey:keyOf Tryz.prog 9 (.string nm)=some (kS nm):=keyOf_string_mk Tryz.underlying9 hnm
   clear hr hr2 HZ HR1
   have hkn:(k:Int) < n:=by omega
   have hkc:(k:Int)+1≤(ca:Int):=by omega
   go_wp2_with fail
   refine (HCK.out _ ((Below.refl _ _).alloc (Nat.le_refl _) _) _).mono ?_
   rintro e w1 ⟨rfl,hb1⟩
   have HO1:Hid (w1.ownsMap Tryz.prog 9 (plainElem (H:=Unit) Tryz.prog 3) w.heap.size k D):=cmap_below (HO.out.alloc _) hb1
   have HB1:Hid (Below w.heap.size w w1):=(HB.out.alloc HB.out.size _).trans (hb1.mono (by simp;omega))
   have hm0:w1.cell? ⟨wr.heap.size,0,none⟩=some (.string nm):=(hb1.cell (p:=⟨wr.heap.size,0,none⟩) (by simp)).trans (by simp)
   clear hb1 c0 c1 c2 c3 c4 HB HO HCK
   by_cases he:(Mem.mk nm st lf ad sv).e=0
   ·have he':((Mem.mk nm st lf ad sv).e != 0)=false:=by simpa using he
    have HZ3:Hid (∀ j,j < k+1→(ms.getD j dm).e=0):=HZ2.out he
    clear HX HZ2 he
    generalize (Mem.mk nm st lf ad sv).e=me at *
    obtain ⟨c,hrun,hat,_⟩:=HO1.out.lookup_int law9 Tryz.underlying131 Tryz.underlying3 (zero3' _) hkey
    obtain ⟨g0,g1,g2⟩:=HG.out c hat
    have HG2:Hid (Cnt (D.put (kS nm) (.lit (.int .i64 (c+1)))) (mnames ms) (k+1)):=g2
    clear g2 hat HG
    go_wp2_with (first
     | (at_mapUpdate;refine wpList_mapUpdate_own _ rfl _ _ _ 131 rfl 9 3 law9 Tryz.underlying131 _ w.heap.size k _ rfl HO1.out (by unfold maxLen;omega) _ _ _ rfl rfl hkey _ [] (plainElem_int Tryz.underlying3 (WalkArith.wf_i64 (by omega))) ?_)
     | fail)
    intro w2 hown2 hgrow2
    have R1:Hid (∃ D,w2.ownsMap Tryz.prog 9 (plainElem (H:=Unit) Tryz.prog 3) w.heap.size (k+1) D∧Cnt D (mnames ms) (k+1)):=⟨_,hown2,HG2.out⟩
    have R2:Hid (Below w.heap.size w w2):=HB1.out.grown hgrow2 HB1.out.size (fun j hj=>by cases hj;exact Nat.le_refl _)
    clear hown2 hgrow2 HO1 HB1
    go_wp2_with fail
    go_roundw
    case rel=>exact ⟨k+1,by omega,by go_num,HZ3,R1,R2⟩
    case measure=>simp [intOf];omega
   ·have he':((Mem.mk nm st lf ad sv).e != 0)=true:=by simpa using he
    have HR:Hid (chkT ms=(Mem.mk nm st lf ad sv).e):=HX.out he
    generalize (Mem.mk nm st lf ad sv).e=me at *
    clear he HX HZ2
    go_wp2_with fail
    go_ret
    exact ⟨ret_int HR.out.symm,HB1.out⟩
  ·have hkn:k=n:=by omega
   subst hkn
   have hsize:Hid (Maps.size D < k↔¬ Apart ms):=by
    have h1:=HC.out
    rw [← HN.out] at h1 ⊢
    exact ⟨fun h hd=>by rw [cnt_eq h1 hd] at h;omega,fun hd=>cnt_lt h1 hd⟩
   have HE1:Hid (¬ Apart ms→chkT ms=6):=fun hd=>chkT_twice (by rw [HN.out];exact hn5) (fun j hj=>HZ.out j (by rw [← HN.out];exact hj)) hd
   have HE2:Hid (Apart ms→chkT ms=0):=fun hd=>chkT_ok (by rw [HN.out];exact hn5) (fun j hj=>HZ.out j (by rw [← HN.out];exact hj)) hd
   by_cases hd:Apart ms
   ·have HE:Hid (chkT ms=0):=HE2.out hd
    have hs:¬ ((Maps.size D:Int) < (k:Int)):=by have:=hsize.out;intro h;exact (this.1 (by omega)) hd
    clear HE1 HE2 hd hsize HZ
    go_wp2_with (at_len;refine wpList_len_own _ rfl _ 131 rfl 9 3 Tryz.underlying131 _ _ _ _ rfl HO.out ?_)
    go_ret
    exact ⟨ret_int HE.out.symm,HB.out⟩
   ·have HE:Hid (chkT ms=6):=HE1.out hd
    have hs:((Maps.size D:Int) < (k:Int)):=by have:=hsize.out.2 hd;omega
    clear HE1 HE2 hd hsize HZ
    go_wp2_with (at_len;refine wpList_len_own _ rfl _ 131 rfl 9 3 Tryz.underlying131 _ _ _ _ rfl HO.out ?_)
    go_ret
    exact ⟨ret_int HE.out.symm,HB.out⟩
structure PkIs (w:World) (p:Pk) (vm vs vg vw:Value):Prop where
 ms:Sl w vm p.ms
 sv:Sv.Sl w vs p.sv
 gw:Gw.Sl w vg p.gw
 wh:Wh.Sl w vw p.wh
 frm:p.frm.size≤maxLen
 room:Roomy vm
theorem PkIs.below {w w':World} {p:Pk} {vm vs vg vw:Value} (h:PkIs w p vm vs vg vw) (hb:Below w.heap.size w w'):PkIs w' p vm vs vg vw:=⟨h.ms.below hb,h.sv.below hb,h.gw.below hb,h.wh.below hb,h.frm,h.room⟩
theorem isEmpty_len {α:Type} (l:List α):l.isEmpty=decide (l.length=0):=by cases l<;>simp
set_option maxHeartbeats 6400000 in
set_option maxRecDepth 100000 in
theorem pcheck_any (p:Pk) (vm vs vg vw:Value) (w:World) (h:PkIs w p vm vs vg vw) (hlen:p.whole=true∨p.sv.length+p.gw.length+p.wh.length≤4611686018427387904) :
 Calls Tryz.prog 88 #[.agg #[.string p.frm,.bool p.whole,vm,vs,vg,vw]] w fun e w'=>e=.returned (.int .i64 p.e)∧Below w.heap.size w w':=by
 obtain ⟨frm,whole,ms,sv,gw,wh⟩:=p
 obtain ⟨hms,hsv,hgw,hwh,hfr,hroom⟩:=h
 simp only at hms hsv hgw hwh hfr hlen ⊢
 have HM1:Hid (∀ W,Below w.heap.size w W→Calls Tryz.prog 125 #[vm] W fun e w'=>e=.returned (.int .i64 (chk ms))∧Below W.heap.size W w'):=fun W hW=>check_any ms vm W (hms.below hW)
 have HM2:Hid (∀ W,Below w.heap.size w W→Calls Tryz.prog 132 #[vm] W fun e w'=>e=.returned (.int .i64 (chkT ms))∧Below W.heap.size W w'):=fun W hW=>checkTold_any ms vm W (hms.below hW) hroom
 have HS:Hid (∀ W,Below w.heap.size w W→Calls Tryz.prog 127 #[vs] W fun e w'=>e=.returned (.int .i64 (Sv.chk sv))∧Below W.heap.size W w'):=fun W hW=>Sv.check_any sv vs W (hsv.below hW)
 have HG:Hid (∀ W,Below w.heap.size w W→Calls Tryz.prog 128 #[vg] W fun e w'=>e=.returned (.int .i64 (Gw.chk gw))∧Below W.heap.size W w'):=fun W hW=>Gw.check_any gw vg W (hgw.below hW)
 have HW:Hid (∀ W,Below w.heap.size w W→Calls Tryz.prog 133 #[vw] W fun e w'=>e=.returned (.int .i64 (Wh.chk wh))∧Below W.heap.size W w'):=fun W hW=>Wh.check_any wh vw W (hwh.below hW)
 have HE:Hid (Pk.e ⟨frm,whole,ms,sv,gw,wh⟩=if (labB frm && (whole || (decide (sv.length=0) && (decide (gw.length=0) && decide (wh.length=0)))))=true then
  (if (if whole=true then chk ms else chkT ms)=0 then (if Sv.chk sv=0 then (if Gw.chk gw=0 then Wh.chk wh else Gw.chk gw) else Sv.chk sv) else (if whole=true then chk ms else chkT ms)) else 1):=by
  show Pk.e _=_
  rw [← isEmpty_len,← isEmpty_len,← isEmpty_len];rfl
 generalize Pk.e ⟨frm,whole,ms,sv,gw,wh⟩=res at *
 obtain ⟨a2,c2,rfl,_,_⟩:=hsv
 obtain ⟨a3,c3,rfl,_,_⟩:=hgw
 obtain ⟨a4,c4,rfl,_,_⟩:=hwh
 clear hms hroom
 generalize Sv.chk sv=se at *
 generalize Gw.chk gw=ge at *
 generalize Wh.chk wh=we at *
 generalize chk ms=m1 at *
 generalize chkT ms=m2 at *
 generalize sv.length=n2 at *
 generalize gw.length=n3 at *
 generalize wh.length=n4 at *
 obtain ⟨W0,hW0⟩:∃ W0,W0=w.alloc (.cells #[.string frm,.bool whole,vm,.slice a2 n2 c2,.slice a3 n3 c3,.slice a4 n4 c4] 67):=⟨_,rfl⟩
 have hb0:Below w.heap.size w W0:=by rw [hW0];exact (Below.refl _ _).alloc (Nat.le_refl _) _
 have hg0:W0.heap[w.heap.size]?=some (.cells #[.string frm,.bool whole,vm,.slice a2 n2 c2,.slice a3 n3 c3,.slice a4 n4 c4] 67 (0,0)):=by rw [hW0];exact heap_alloc_new w _
 have hs0:w.heap.size < W0.heap.size:=by rw [hW0];simp
 have HB0:Hid (Below w.heap.size w W0):=hb0
 have HG0:Hid (W0.heap[w.heap.size]?=some (.cells #[.string frm,.bool whole,vm,.slice a2 n2 c2,.slice a3 n3 c3,.slice a4 n4 c4] 67 (0,0))):=hg0
 have HX:Hid (∀ W,Below W0.heap.size W0 W→(W.cell? ⟨w.heap.size,2,none⟩=some vm∧W.cell? ⟨w.heap.size,3,none⟩=some (.slice a2 n2 c2)∧W.cell? ⟨w.heap.size,4,none⟩=some (.slice a3 n3 c3)∧W.cell? ⟨w.heap.size,5,none⟩=some (.slice a4 n4 c4))∧Below w.heap.size w W):=fun W hW=>
  have hg:=(hW.block _ hs0).trans hg0
  ⟨⟨cellsAt hg 2,cellsAt hg 3,cellsAt hg 4,cellsAt hg 5⟩,hb0.trans (hW.mono (by omega))⟩
 have HX1:Hid (∀ W W',Below W0.heap.size W0 W→Below W.heap.size W W'→Below W0.heap.size W0 W'):=fun W W' h1 h2=>h1.trans (h2.mono h1.size)
 go_enter Tryz.func88,Tryz.ntmps88
 rcases hlab:labB frm with _ | _
 ·have HR:Hid (res=1):=HE.out.trans (by rw [hlab];rfl)
  go_wp2_with (go_at_call 75;refine (label_any _ _ hfr).mono ?_;rintro e w' ⟨rfl,rfl⟩;rw [hlab])
  go_ret
  exact ⟨ret_int HR.out.symm,(Below.refl _ _).alloc (Nat.le_refl _) _⟩
 ·cases whole
  ·by_cases hal:n2=0∧n3=0∧n4=0
   ·obtain ⟨rfl,rfl,rfl⟩:=hal
    have HE2:Hid (res=if m2=0 then (if se=0 then (if ge=0 then we else ge) else se) else m2):=HE.out.trans (by rw [hlab];rfl)
    clear HE HM1
    go_wp2_with (first | (go_at_call 75;refine (label_any _ _ hfr).mono ?_;rintro e w' ⟨rfl,rfl⟩;rw [hlab]) | fail)
    rw [← hW0]
    refine (HM2.out _ HB0.out).mono ?_
    rintro e w1 ⟨rfl,hb1⟩
    obtain ⟨⟨x2,x3,x4,x5⟩,hbw1⟩:=HX.out w1 hb1
    have HB1:Hid (Below W0.heap.size W0 w1):=hb1
    have HBW1:Hid (Below w.heap.size w w1):=hbw1
    clear hb1 hbw1
    by_cases hm:m2=0
    ·subst hm
     go_wp2_with fail
     refine (HS.out _ HBW1.out).mono ?_
     rintro e w2 ⟨rfl,hb2⟩
     have HB2:Hid (Below W0.heap.size W0 w2):=HX1.out _ _ HB1.out hb2
     clear x2 x3 x4 x5 hb2
     obtain ⟨⟨x2,x3,x4,x5⟩,hbw2⟩:=HX.out w2 HB2.out
     have HBW2:Hid (Below w.heap.size w w2):=hbw2
     clear hbw2
     by_cases hse:se=0
     ·subst hse
      go_wp2_with fail
      refine (HG.out _ HBW2.out).mono ?_
      rintro e w3 ⟨rfl,hb3⟩
      have HB3:Hid (Below W0.heap.size W0 w3):=HX1.out _ _ HB2.out hb3
      clear x2 x3 x4 x5 hb3
      obtain ⟨⟨x2,x3,x4,x5⟩,hbw3⟩:=HX.out w3 HB3.out
      have HBW3:Hid (Below w.heap.size w w3):=hbw3
      clear hbw3
      by_cases hge:ge=0
      ·subst hge
       go_wp2_with fail
       refine (HW.out _ HBW3.out).mono ?_
       rintro e w4 ⟨rfl,hb4⟩
       have HBW4:Hid (Below w.heap.size w w4):=HBW3.out.trans (hb4.mono HBW3.out.size)
       clear hb4
       go_wp2_with fail
       go_ret
       exact ⟨ret_int HE2.out.symm,HBW4.out⟩
      ·have hge':(ge != 0)=true:=by simpa using hge
       have HR:Hid (res=ge):=HE2.out.trans (by simp [hge])
       clear hge
       go_wp2_with fail
       go_ret
       exact ⟨ret_int HR.out.symm,HBW3.out⟩
     ·have hse':(se != 0)=true:=by simpa using hse
      have HR:Hid (res=se):=HE2.out.trans (by simp [hse])
      clear hse
      go_wp2_with fail
      go_ret
      exact ⟨ret_int HR.out.symm,HBW2.out⟩
    ·have hm':(m2 != 0)=true:=by simpa using hm
     have HR:Hid (res=m2):=HE2.out.trans (if_neg hm)
     clear hm
     go_wp2_with fail
     go_ret
     exact ⟨ret_int HR.out.symm,HBW1.out⟩
   ·have HR:Hid (res=1):=HE.out.trans (by
     rw [hlab,if_neg]
     simp only [Bool.true_and,Bool.false_or,Bool.and_eq_true,decide_eq_true_eq]
     exact hal)
    have hlen:n2+n3+n4≤4611686018427387904:=by
     rcases hlen with h | h
     ·cases h
     ·exact h
    have hsum:(0:Int) < (n2:Int)+(n3:Int)+(n4:Int):=by omega
    go_wp2_with (go_at_call 75;refine (label_any _ _ hfr).mono ?_;rintro e w' ⟨rfl,rfl⟩;rw [hlab])
    go_ret
    exact ⟨ret_int HR.out.symm,(Below.refl _ _).alloc (Nat.le_refl _) _⟩
  ·have HE2:Hid (res=if m1=0 then (if se=0 then (if ge=0 then we else ge) else se) else m1):=HE.out.trans (by rw [hlab];rfl)
   clear HE HM2
   go_wp2_with (first | (go_at_call 75;refine (label_any _ _ hfr).mono ?_;rintro e w' ⟨rfl,rfl⟩;rw [hlab]) | fail)
   rw [← hW0]
   refine (HM1.out _ HB0.out).mono ?_
   rintro e w1 ⟨rfl,hb1⟩
   obtain ⟨⟨x2,x3,x4,x5⟩,hbw1⟩:=HX.out w1 hb1
   have HB1:Hid (Below W0.heap.size W0 w1):=hb1
   have HBW1:Hid (Below w.heap.size w w1):=hbw1
   clear hb1 hbw1
   by_cases hm:m1=0
   ·subst hm
    go_wp2_with fail
    refine (HS.out _ HBW1.out).mono ?_
    rintro e w2 ⟨rfl,hb2⟩
    have HB2:Hid (Below W0.heap.size W0 w2):=HX1.out _ _ HB1.out hb2
    clear x2 x3 x4 x5 hb2
    obtain ⟨⟨x2,x3,x4,x5⟩,hbw2⟩:=HX.out w2 HB2.out
    have HBW2:Hid (Below w.heap.size w w2):=hbw2
    clear hbw2
    by_cases hse:se=0
    ·subst hse
     go_wp2_with fail
     refine (HG.out _ HBW2.out).mono ?_
     rintro e w3 ⟨rfl,hb3⟩
     have HB3:Hid (Below W0.heap.size W0 w3):=HX1.out _ _ HB2.out hb3
     clear x2 x3 x4 x5 hb3
     obtain ⟨⟨x2,x3,x4,x5⟩,hbw3⟩:=HX.out w3 HB3.out
     have HBW3:Hid (Below w.heap.size w w3):=hbw3
     clear hbw3
     by_cases hge:ge=0
     ·subst hge
      go_wp2_with fail
      refine (HW.out _ HBW3.out).mono ?_
      rintro e w4 ⟨rfl,hb4⟩
      have HBW4:Hid (Below w.heap.size w w4):=HBW3.out.trans (hb4.mono HBW3.out.size)
      clear hb4
      go_wp2_with fail
      go_ret
      exact ⟨ret_int HE2.out.symm,HBW4.out⟩
     ·have hge':(ge != 0)=true:=by simpa using hge
      have HR:Hid (res=ge):=HE2.out.trans (by simp [hge])
      clear hge
      go_wp2_with fail
      go_ret
      exact ⟨ret_int HR.out.symm,HBW3.out⟩
    ·have hse':(se != 0)=true:=by simpa using hse
     have HR:Hid (res=se):=HE2.out.trans (by simp [hse])
     clear hse
     go_wp2_with fail
     go_ret
     exact ⟨ret_int HR.out.symm,HBW2.out⟩
   ·have hm':(m1 != 0)=true:=by simpa using hm
    have HR:Hid (res=m1):=HE2.out.trans (if_neg hm)
    clear hm
    go_wp2_with fail
    go_ret
    exact ⟨ret_int HR.out.symm,HBW1.out⟩
end Go.Proofs.YtffdoiokmiklgaaGreatDoor
