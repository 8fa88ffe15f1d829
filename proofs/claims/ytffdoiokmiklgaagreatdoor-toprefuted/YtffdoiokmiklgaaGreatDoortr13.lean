import Derived.Test.YtffdoiokmiklgaaGreatDoortr7
import Derived.Test.YtffdoiokmiklgaaGreatDoortr9
import Derived.Test.YtffdoiokmiklgaaGreatDoortr6
import Derived.Test.YtffdoiokmiklgaaGreatDoortr10
import Derived.Test.YtffdoiokmiklgaaGreatDoortr8
import Derived.Test.YtffdoiokmiklgaaGreatDoortr12
import Derived.Test.YtffdoiokmiklgaaGreatDoortr11
import Derived.Laws.EntriesVeiled
namespace Go.Proofs.YtffdoiokmiklgaaGreatDoor
open Go.RowKit Go.WideMaps Go.Maps
def mnames (ms:List Mem):List ByteArray:=ms.map (·.name)
theorem mnames_get (ms:List Mem) (k:Nat):(mnames ms).getD k ByteArray.empty=(ms.getD k dm).name:=by
 by_cases h:k < ms.length
 ·simp [mnames,List.getD,List.getElem?_eq_getElem h]
 ·simp [mnames,List.getD,List.getElem?_eq_none (by omega:ms.length≤k),dm]
structure Cnt (D:DataW Unit) (ns:List ByteArray) (k:Nat):Prop where
 tidy:Tidy D
 has:∀ s,Maps.has D (kS s)=Maps.has (Dm ns k) (kS s)
 size:Maps.size D=Maps.size (Dm ns k)
 val:∀ s,∃ c:Int,D.atKey (kS s) (.lit (.int .i64 0))=.lit (.int .i64 c)∧0≤c∧c≤k
theorem cnt_zero (ns:List ByteArray):Cnt (.map []) ns 0:=⟨tidy_empty,fun _=>rfl,rfl,fun _=>⟨0,rfl,Int.le_refl _,Int.le_refl _⟩⟩
theorem cnt_step {D:DataW Unit} {ns:List ByteArray} {k:Nat} (h:Cnt D ns k) {c:Int} (hc:D.atKey (kS (ns.getD k ByteArray.empty)) (.lit (.int .i64 0))=.lit (.int .i64 c)) :
 0≤c∧c≤k∧Cnt (D.put (kS (ns.getD k ByteArray.empty)) (.lit (.int .i64 (c+1)))) ns (k+1):=by
 obtain ⟨c',hc',h0,h1⟩:=h.val (ns.getD k ByteArray.empty)
 rw [hc] at hc'
 have e:c=c':=by injection hc' with h;injection h
 subst e
 refine ⟨h0,h1,h.tidy.put (kS_key _) _,fun s=>?_,?_,fun s=>?_⟩
 ·by_cases e:ns.getD k ByteArray.empty=s
  ·subst e;rw [has_put_same h.tidy.isMap (kS_key _),Dm,has_put_same (Dm_tidy ns k).isMap (kS_key _)]
  ·rw [has_put_other (kS_ne (Ne.symm e)),Dm,has_put_other (kS_ne (Ne.symm e))];exact h.has s
 ·rw [size_put h.tidy,Dm_step,h.has,h.size]
 ·by_cases e:ns.getD k ByteArray.empty=s
  ·subst e;exact ⟨c+1,by rw [atKey_put_same h.tidy.isMap (kS_key _)],by omega,by omega⟩
  ·rw [atKey_put_other (kS_ne (Ne.symm e))]
   obtain ⟨d,hd,d0,d1⟩:=h.val s
   exact ⟨d,hd,d0,by omega⟩
theorem cnt_lt {D:DataW Unit} {ms:List Mem} (h:Cnt D (mnames ms) ms.length) (hd:¬ Apart ms):Maps.size D < ms.length:=by
 rw [h.size]
 apply Dm_size_lt
 apply Classical.byContradiction
 intro hx
 apply hd
 intro i j hij hj e
 exact hx ⟨i,j,hij,hj,by rw [mnames_get,mnames_get];exact e⟩
theorem cnt_eq {D:DataW Unit} {ms:List Mem} (h:Cnt D (mnames ms) ms.length) (hd:Apart ms):Maps.size D=ms.length:=by
 rw [h.size]
 exact Dm_size_eq _ _ (fun i j hij hj=>by rw [mnames_get,mnames_get];exact hd i j hij hj)
theorem cmap_below {w w':World} {b n:Nat} {D:DataW Unit} (h:w.ownsMap Tryz.prog 9 (plainElem (H:=Unit) Tryz.prog 3) b n D) (hb:Below w.heap.size w w'):w'.ownsMap Tryz.prog 9 (plainElem (H:=Unit) Tryz.prog 3) b n D:=by
 have hl:=h.lt
 obtain ⟨es,clock,h1,h2⟩:=h
 exact ⟨es,clock,(hb.block b hl).trans h1,h2⟩
theorem row_one {w:World} {b off:Nat} {ms:List Mem} (hr:Row w b off ms) {k:Nat} (hk:k < ms.length):Row w b (off+k * 5) [ms.getD k dm]:=fun j hj=>by
 have:j=0:=by simpa using hj
 subst this
 simpa using hr k hk
def Roomy (v:Value):Prop:=match v with
 | .slice _ n c=>n≤c
 | _=>True
set_option maxHeartbeats 6400000 in
set_option maxRecDepth 100000 in
theorem checkTold_any (ms:List Mem) (v:Value) (w:World) (hv:Sl w v ms) (hroom:Roomy v) :
 Calls Tryz.prog 132 #[v] w fun e w'=>e=.returned (.int .i64 (chkT ms))∧Below w.heap.size w w':=by
 obtain ⟨pa,ca,rfl,hsz,ha⟩:=hv
 have hcap:ms.length≤ca:=hroom
 clear hroom
 by_cases hmany:5 < ms.length
 ·have HE:Hid (chkT ms=2):=chkT_many hmany
  go_enter Tryz.func132,Tryz.ntmps132
  go_wp2_with fail
  go_ret
  exact ⟨ret_int HE.out.symm,Below.refl _ _⟩
 have HA:Hid (ms=[]∨∃ b off,pa=some ⟨b,off,none⟩∧b < w.heap.size∧Row w b off ms):=ha
 have HS:Hid (∀ j,(ms.getD j dm).name.size≤maxLen):=hsz
 clear ha hsz
 generalize hN:ms.length=n at *
 have HN:Hid (ms.length=n):=hN
 clear hN
 have hn5:n≤5:=by omega
 have hmm:=run_makeMapHint
 go_enter Tryz.func132,Tryz.ntmps132
 go_wp2
 go_loopw [15] (fun i wr=>∃ k:Nat,k≤n∧i=.int .i64 k∧Hid (∀ j,j < k→(ms.getD j dm).e=0)∧Hid (∃ D,wr.ownsMap Tryz.prog 9 (plainElem (H:=Unit) Tryz.prog 3) w.heap.size k D∧Cnt D (mnames ms) k)∧Hid (Below w.heap.size w wr)) (fun i _=>n - (intOf i).toNat)
 case atStart=>exact ⟨0,Nat.zero_le _,rfl,fun j hj=>by omega,⟨_,World.ownsMap_made _ _ _ _,cnt_zero _⟩,(Below.refl _ _).alloc (Nat.le_refl _) _⟩
 case round=>
  obtain ⟨k,hk,rfl,HZ,HD,HB⟩:=hrel
  obtain ⟨D,HO,HC⟩:=HD.out
  have HO:Hid (wr.ownsMap Tryz.prog 9 (plainElem (H:=Unit) Tryz.prog 3) w.heap.size k D):=HO
  have HC:Hid (Cnt D (mnames ms) k):=HC
  clear HD
  by_cases hlt:k < n
  ·obtain ⟨b,off,hp,hl,hr⟩:∃ b off,pa=some ⟨b,off,none⟩∧b < w.heap.size∧Row w b off ms:=by
    rcases HA.out with h | h
    ·have:=HN.out;rw [h] at this;simp at this;omega
    ·exact h
   subst hp
   have hr2:=hr.later HB.out hl
   obtain ⟨c0,c1,c2,c3,c4⟩:=hr2 k (by rw [HN.out];exact hlt)
   have hnm:=HS.out k
   have HX:Hid ((ms.getD k dm).e≠0→chkT ms=(ms.getD k dm).e):=fun h=>chkT_e (by rw [HN.out];exact hn5) (by rw [HN.out];exact hlt) HZ.out h
   have HZ2:Hid ((ms.getD k dm).e=0→∀ j,j < k+1→(ms.getD j dm).e=0):=fun h j hj=>by
    by_cases e:j=k
    ·subst e;exact h
    ·exact HZ.out j (by omega)
   have HR1:Hid (Row wr b (off+k * 5) [ms.getD k dm]):=row_one hr2 (by rw [HN.out];exact hlt)
   have HG:Hid (∀ (c:Int),D.atKey (kS (ms.getD k dm).name) (.lit (.int .i64 0))=.lit (.int .i64 c)→0≤c∧c≤k∧Cnt (D.put (kS (ms.getD k dm).name) (.lit (.int .i64 (c+1)))) (mnames ms) (k+1)):=fun c hc=>by
    have h:=cnt_step HC.out (c:=c) (by rw [mnames_get];exact hc)
    rw [mnames_get] at h;exact h
   have hsz:=HB.out.size
   generalize (ms.getD k dm)=mk at *
   have HCK:Hid (∀ W,Below wr.heap.size wr W→∀ cc,Calls Tryz.prog 125 #[.slice (some ⟨b,off+k * 5,none⟩) 1 cc] W fun e w'=>e=.returned (.int .i64 mk.e)∧Below W.heap.size W w'):=fun W hW cc=>by
    have h:=check_any [mk] (.slice (some ⟨b,off+k * 5,none⟩) 1 cc) W ⟨_,cc,rfl,ns_get (fun x hx=>by simp at hx;subst hx;exact hnm),.inr ⟨b,_,rfl,by have:=hW.size;omega,HR1.out.later hW (by omega)⟩⟩
    rw [chk_oneR] at h;exact h
   obtain ⟨nm,st,lf,ad,sv⟩:=mk
   simp only at c0 c1 c2 c3 c4 hnm HX HZ2 HG HCK
   have hkey:keyOf Tryz.prog 9 (.string nm)=some (kS nm):=keyOf_string_mk Tryz.underlying9 hnm
   clear hr hr2 HZ HR1
   have hkn:(k:Int) < n:=by omega
   have hkc:(k:Int)+1≤(ca:Int):=by omega
   go_wp2_with fail
   refine (HCK.out _ ((Below.refl _ _).alloc (Nat.le_refl _) _) _).mono ?_
   rintro e w1 ⟨rfl,hb1⟩
   have HO1:Hid (w1.ownsMap Tryz.prog 9 (plainElem (H:=Unit) Tryz.prog 3) w.heap.size k D):=cmap_below (HO.out.alloc _) hb1
   have HB1:Hid (Below w.heap.size w w1):=(HB.out.alloc HB.out.size _).trans (hb1.mono (by simp;omega))
   have hm0:w1.cell? ⟨wr.heap.size,0,none⟩=some (.string nm):=(hb1.cell (p:=⟨wr.heap.size,0,none⟩) (by simp)).trans (by simp)
   clear hb1 c0 c1 c2 c3 c4 HB HO HCK
   by_cases he:(Mem.mk nm st lf ad sv).e=0
   ·have he':((Mem.mk nm st lf ad sv).e != 0)=false:=by simpa using he
    have HZ3:Hid (∀ j,j < k+1→(ms.getD j dm).e=0):=HZ2.out he
    clear HX HZ2 he
    generalize (Mem.mk nm st lf ad sv).e=me at *
    obtain ⟨c,hrun,hat,_⟩:=HO1.out.lookup_int law9 Tryz.underlying131 Tryz.underlying3 (zero3' _) hkey
    obtain ⟨g0,g1,g2⟩:=HG.out c hat
    have HG2:Hid (Cnt (D.put (kS nm) (.lit (.int .i64 (c+1)))) (mnames ms) (k+1)):=g2
    clear g2 hat HG
    go_wp2_with (first
     | (at_mapUpdate;refine wpList_mapUpdate_own _ rfl _ _ _ 131 rfl 9 3 law9 Tryz.underlying131 _ w.heap.size k _ rfl HO1.out (by unfold maxLen;omega) _ _ _ rfl rfl hkey _ [] (plainElem_int Tryz.underlying3 (WalkArith.wf_i64 (by omega))) ?_)
     | fail)
    intro w2 hown2 hgrow2
    have R1:Hid (∃ D,w2.ownsMap Tryz.prog 9 (plainElem (H:=Unit) Tryz.prog 3) w.heap.size (k+1) D∧Cnt D (mnames ms) (k+1)):=⟨_,hown2,HG2.out⟩
    have R2:Hid (Below w.heap.size w w2):=HB1.out.grown hgrow2 HB1.out.size (fun j hj=>by cases hj;exact Nat.le_refl _)
    clear hown2 hgrow2 HO1 HB1
    go_wp2_with fail
    go_roundw
    case rel=>exact ⟨k+1,by omega,by go_num,HZ3,R1,R2⟩
    case measure=>simp [intOf];omega
   ·have he':((Mem.mk nm st lf ad sv).e != 0)=true:=by simpa using he
    have HR:Hid (chkT ms=(Mem.mk nm st lf ad sv).e):=HX.out he
    generalize (Mem.mk nm st lf ad sv).e=me at *
    clear he HX HZ2
    go_wp2_with fail
    go_ret
    exact ⟨ret_int HR.out.symm,HB1.out⟩
  ·have hkn:k=n:=by omega
   subst hkn
   have hsize:Hid (Maps.size D < k↔¬ Apart ms):=by
    have h1:=HC.out
    rw [← HN.out] at h1 ⊢
    exact ⟨fun h hd=>by rw [cnt_eq h1 hd] at h;omega,fun hd=>cnt_lt h1 hd⟩
   have HE1:Hid (¬ Apart ms→chkT ms=6):=fun hd=>chkT_twice (by rw [HN.out];exact hn5) (fun j hj=>HZ.out j (by rw [← HN.out];exact hj)) hd
   have HE2:Hid (Apart ms→chkT ms=0):=fun hd=>chkT_ok (by rw [HN.out];exact hn5) (fun j hj=>HZ.out j (by rw [← HN.out];exact hj)) hd
   by_cases hd:Apart ms
   ·have HE:Hid (chkT ms=0):=HE2.out hd
    have hs:¬ ((Maps.size D:Int) < (k:Int)):=by have:=hsize.out;intro h;exact (this.1 (by omega)) hd
    clear HE1 HE2 hd hsize HZ
    go_wp2_with (at_len;refine wpList_len_own _ rfl _ 131 rfl 9 3 Tryz.underlying131 _ _ _ _ rfl HO.out ?_)
    go_ret
    exact ⟨ret_int HE.out.symm,HB.out⟩
   ·have HE:Hid (chkT ms=6):=HE1.out hd
    have hs:((Maps.size D:Int) < (k:Int)):=by have:=hsize.out.2 hd;omega
    clear HE1 HE2 hd hsize HZ
    go_wp2_with (at_len;refine wpList_len_own _ rfl _ 131 rfl 9 3 Tryz.underlying131 _ _ _ _ rfl HO.out ?_)
    go_ret
    exact ⟨ret_int HE.out.symm,HB.out⟩
structure PkIs (w:World) (p:Pk) (vm vs vg vw:Value):Prop where
 ms:Sl w vm p.ms
 sv:Sv.Sl w vs p.sv
 gw:Gw.Sl w vg p.gw
 wh:Wh.Sl w vw p.wh
 frm:p.frm.size≤maxLen
 room:Roomy vm
theorem PkIs.below {w w':World} {p:Pk} {vm vs vg vw:Value} (h:PkIs w p vm vs vg vw) (hb:Below w.heap.size w w'):PkIs w' p vm vs vg vw:=⟨h.ms.below hb,h.sv.below hb,h.gw.below hb,h.wh.below hb,h.frm,h.room⟩
theorem isEmpty_len {α:Type} (l:List α):l.isEmpty=decide (l.length=0):=by cases l<;>simp
set_option maxHeartbeats 6400000 in
set_option maxRecDepth 100000 in
theorem pcheck_any (p:Pk) (vm vs vg vw:Value) (w:World) (h:PkIs w p vm vs vg vw) (hlen:p.whole=true∨p.sv.length+p.gw.length+p.wh.length≤4611686018427387904) :
 Calls Tryz.prog 88 #[.agg #[.string p.frm,.bool p.whole,vm,vs,vg,vw]] w fun e w'=>e=.returned (.int .i64 p.e)∧Below w.heap.size w w':=by
 obtain ⟨frm,whole,ms,sv,gw,wh⟩:=p
 obtain ⟨hms,hsv,hgw,hwh,hfr,hroom⟩:=h
 simp only at hms hsv hgw hwh hfr hlen ⊢
 have HM1:Hid (∀ W,Below w.heap.size w W→Calls Tryz.prog 125 #[vm] W fun e w'=>e=.returned (.int .i64 (chk ms))∧Below W.heap.size W w'):=fun W hW=>check_any ms vm W (hms.below hW)
 have HM2:Hid (∀ W,Below w.heap.size w W→Calls Tryz.prog 132 #[vm] W fun e w'=>e=.returned (.int .i64 (chkT ms))∧Below W.heap.size W w'):=fun W hW=>checkTold_any ms vm W (hms.below hW) hroom
 have HS:Hid (∀ W,Below w.heap.size w W→Calls Tryz.prog 127 #[vs] W fun e w'=>e=.returned (.int .i64 (Sv.chk sv))∧Below W.heap.size W w'):=fun W hW=>Sv.check_any sv vs W (hsv.below hW)
 have HG:Hid (∀ W,Below w.heap.size w W→Calls Tryz.prog 128 #[vg] W fun e w'=>e=.returned (.int .i64 (Gw.chk gw))∧Below W.heap.size W w'):=fun W hW=>Gw.check_any gw vg W (hgw.below hW)
 have HW:Hid (∀ W,Below w.heap.size w W→Calls Tryz.prog 133 #[vw] W fun e w'=>e=.returned (.int .i64 (Wh.chk wh))∧Below W.heap.size W w'):=fun W hW=>Wh.check_any wh vw W (hwh.below hW)
 have HE:Hid (Pk.e ⟨frm,whole,ms,sv,gw,wh⟩=if (labB frm && (whole || (decide (sv.length=0) && (decide (gw.length=0) && decide (wh.length=0)))))=true then
  (if (if whole=true then chk ms else chkT ms)=0 then (if Sv.chk sv=0 then (if Gw.chk gw=0 then Wh.chk wh else Gw.chk gw) else Sv.chk sv) else (if whole=true then chk ms else chkT ms)) else 1):=by
  show Pk.e _=_
  rw [← isEmpty_len,← isEmpty_len,← isEmpty_len];rfl
 generalize Pk.e ⟨frm,whole,ms,sv,gw,wh⟩=res at *
 obtain ⟨a2,c2,rfl,_,_⟩:=hsv
 obtain ⟨a3,c3,rfl,_,_⟩:=hgw
 obtain ⟨a4,c4,rfl,_,_⟩:=hwh
 clear hms hroom
 generalize Sv.chk sv=se at *
 generalize Gw.chk gw=ge at *
 generalize Wh.chk wh=we at *
 generalize chk ms=m1 at *
 generalize chkT ms=m2 at *
 generalize sv.length=n2 at *
 generalize gw.length=n3 at *
 generalize wh.length=n4 at *
 obtain ⟨W0,hW0⟩:∃ W0,W0=w.alloc (.cells #[.string frm,.bool whole,vm,.slice a2 n2 c2,.slice a3 n3 c3,.slice a4 n4 c4] 67):=⟨_,rfl⟩
 have hb0:Below w.heap.size w W0:=by rw [hW0];exact (Below.refl _ _).alloc (Nat.le_refl _) _
 have hg0:W0.heap[w.heap.size]?=some (.cells #[.string frm,.bool whole,vm,.slice a2 n2 c2,.slice a3 n3 c3,.slice a4 n4 c4] 67 (0,0)):=by rw [hW0];exact heap_alloc_new w _
 have hs0:w.heap.size < W0.heap.size:=by rw [hW0];simp
 have HB0:Hid (Below w.heap.size w W0):=hb0
 have HG0:Hid (W0.heap[w.heap.size]?=some (.cells #[.string frm,.bool whole,vm,.slice a2 n2 c2,.slice a3 n3 c3,.slice a4 n4 c4] 67 (0,0))):=hg0
 have HX:Hid (∀ W,Below W0.heap.size W0 W→(W.cell? ⟨w.heap.size,2,none⟩=some vm∧W.cell? ⟨w.heap.size,3,none⟩=some (.slice a2 n2 c2)∧W.cell? ⟨w.heap.size,4,none⟩=some (.slice a3 n3 c3)∧W.cell? ⟨w.heap.size,5,none⟩=some (.slice a4 n4 c4))∧Below w.heap.size w W):=fun W hW=>
  have hg:=(hW.block _ hs0).trans hg0
  ⟨⟨cellsAt hg 2,cellsAt hg 3,cellsAt hg 4,cellsAt hg 5⟩,hb0.trans (hW.mono (by omega))⟩
 have HX1:Hid (∀ W W',Below W0.heap.size W0 W→Below W.heap.size W W'→Below W0.heap.size W0 W'):=fun W W' h1 h2=>h1.trans (h2.mono h1.size)
 go_enter Tryz.func88,Tryz.ntmps88
 rcases hlab:labB frm with _ | _
 ·have HR:Hid (res=1):=HE.out.trans (by rw [hlab];rfl)
  go_wp2_with (go_at_call 75;refine (label_any _ _ hfr).mono ?_;rintro e w' ⟨rfl,rfl⟩;rw [hlab])
  go_ret
  exact ⟨ret_int HR.out.symm,(Below.refl _ _).alloc (Nat.le_refl _) _⟩
 ·cases whole
  ·by_cases hal:n2=0∧n3=0∧n4=0
   ·obtain ⟨rfl,rfl,rfl⟩:=hal
    have HE2:Hid (res=if m2=0 then (if se=0 then (if ge=0 then we else ge) else se) else m2):=HE.out.trans (by rw [hlab];rfl)
    clear HE HM1
    go_wp2_with (first | (go_at_call 75;refine (label_any _ _ hfr).mono ?_;rintro e w' ⟨rfl,rfl⟩;rw [hlab]) | fail)
    rw [← hW0]
    refine (HM2.out _ HB0.out).mono ?_
    rintro e w1 ⟨rfl,hb1⟩
    obtain ⟨⟨x2,x3,x4,x5⟩,hbw1⟩:=HX.out w1 hb1
    have HB1:Hid (Below W0.heap.size W0 w1):=hb1
    have HBW1:Hid (Below w.heap.size w w1):=hbw1
    clear hb1 hbw1
    by_cases hm:m2=0
    ·subst hm
     go_wp2_with fail
     refine (HS.out _ HBW1.out).mono ?_
     rintro e w2 ⟨rfl,hb2⟩
     have HB2:Hid (Below W0.heap.size W0 w2):=HX1.out _ _ HB1.out hb2
     clear x2 x3 x4 x5 hb2
     obtain ⟨⟨x2,x3,x4,x5⟩,hbw2⟩:=HX.out w2 HB2.out
     have HBW2:Hid (Below w.heap.size w w2):=hbw2
     clear hbw2
     by_cases hse:se=0
     ·subst hse
      go_wp2_with fail
      refine (HG.out _ HBW2.out).mono ?_
      rintro e w3 ⟨rfl,hb3⟩
      have HB3:Hid (Below W0.heap.size W0 w3):=HX1.out _ _ HB2.out hb3
      clear x2 x3 x4 x5 hb3
      obtain ⟨⟨x2,x3,x4,x5⟩,hbw3⟩:=HX.out w3 HB3.out
      have HBW3:Hid (Below w.heap.size w w3):=hbw3
      clear hbw3
      by_cases hge:ge=0
      ·subst hge
       go_wp2_with fail
       refine (HW.out _ HBW3.out).mono ?_
       rintro e w4 ⟨rfl,hb4⟩
       have HBW4:Hid (Below w.heap.size w w4):=HBW3.out.trans (hb4.mono HBW3.out.size)
       clear hb4
       go_wp2_with fail
       go_ret
       exact ⟨ret_int HE2.out.symm,HBW4.out⟩
      ·have hge':(ge != 0)=true:=by simpa using hge
       have HR:Hid (res=ge):=HE2.out.trans (by simp [hge])
       clear hge
       go_wp2_with fail
       go_ret
       exact ⟨ret_int HR.out.symm,HBW3.out⟩
     ·have hse':(se != 0)=true:=by simpa using hse
      have HR:Hid (res=se):=HE2.out.trans (by simp [hse])
      clear hse
      go_wp2_with fail
      go_ret
      exact ⟨ret_int HR.out.symm,HBW2.out⟩
    ·have hm':(m2 != 0)=true:=by simpa using hm
     have HR:Hid (res=m2):=HE2.out.trans (if_neg hm)
     clear hm
     go_wp2_with fail
     go_ret
     exact ⟨ret_int HR.out.symm,HBW1.out⟩
   ·have HR:Hid (res=1):=HE.out.trans (by
     rw [hlab,if_neg]
     simp only [Bool.true_and,Bool.false_or,Bool.and_eq_true,decide_eq_true_eq]
     exact hal)
    have hlen:n2+n3+n4≤4611686018427387904:=by
     rcases hlen with h | h
     ·cases h
     ·exact h
    have hsum:(0:Int) < (n2:Int)+(n3:Int)+(n4:Int):=by omega
    go_wp2_with (go_at_call 75;refine (label_any _ _ hfr).mono ?_;rintro e w' ⟨rfl,rfl⟩;rw [hlab])
    go_ret
    exact ⟨ret_int HR.out.symm,(Below.refl _ _).alloc (Nat.le_refl _) _⟩
  ·have HE2:Hid (res=if m1=0 then (if se=0 then (if ge=0 then we else ge) else se) else m1):=HE.out.trans (by rw [hlab];rfl)
   clear HE HM2
   go_wp2_with (first | (go_at_call 75;refine (label_any _ _ hfr).mono ?_;rintro e w' ⟨rfl,rfl⟩;rw [hlab]) | fail)
   rw [← hW0]
   refine (HM1.out _ HB0.out).mono ?_
   rintro e w1 ⟨rfl,hb1⟩
   obtain ⟨⟨x2,x3,x4,x5⟩,hbw1⟩:=HX.out w1 hb1
   have HB1:Hid (Below W0.heap.size W0 w1):=hb1
   have HBW1:Hid (Below w.heap.size w w1):=hbw1
   clear hb1 hbw1
   by_cases hm:m1=0
   ·subst hm
    go_wp2_with fail
    refine (HS.out _ HBW1.out).mono ?_
    rintro e w2 ⟨rfl,hb2⟩
    have HB2:Hid (Below W0.heap.size W0 w2):=HX1.out _ _ HB1.out hb2
    clear x2 x3 x4 x5 hb2
    obtain ⟨⟨x2,x3,x4,x5⟩,hbw2⟩:=HX.out w2 HB2.out
    have HBW2:Hid (Below w.heap.size w w2):=hbw2
    clear hbw2
    by_cases hse:se=0
    ·subst hse
     go_wp2_with fail
     refine (HG.out _ HBW2.out).mono ?_
     rintro e w3 ⟨rfl,hb3⟩
     have HB3:Hid (Below W0.heap.size W0 w3):=HX1.out _ _ HB2.out hb3
     clear x2 x3 x4 x5 hb3
     obtain ⟨⟨x2,x3,x4,x5⟩,hbw3⟩:=HX.out w3 HB3.out
     have HBW3:Hid (Below w.heap.size w w3):=hbw3
     clear hbw3
     by_cases hge:ge=0
     ·subst hge
      go_wp2_with fail
      refine (HW.out _ HBW3.out).mono ?_
      rintro e w4 ⟨rfl,hb4⟩
      have HBW4:Hid (Below w.heap.size w w4):=HBW3.out.trans (hb4.mono HBW3.out.size)
      clear hb4
      go_wp2_with fail
      go_ret
      exact ⟨ret_int HE2.out.symm,HBW4.out⟩
     ·have hge':(ge != 0)=true:=by simpa using hge
      have HR:Hid (res=ge):=HE2.out.trans (by simp [hge])
      clear hge
      go_wp2_with fail
      go_ret
      exact ⟨ret_int HR.out.symm,HBW3.out⟩
    ·have hse':(se != 0)=true:=by simpa using hse
     have HR:Hid (res=se):=HE2.out.trans (by simp [hse])
     clear hse
     go_wp2_with fail
     go_ret
     exact ⟨ret_int HR.out.symm,HBW2.out⟩
   ·have hm':(m1 != 0)=true:=by simpa using hm
    have HR:Hid (res=m1):=HE2.out.trans (if_neg hm)
    clear hm
    go_wp2_with fail
    go_ret
    exact ⟨ret_int HR.out.symm,HBW1.out⟩
end Go.Proofs.YtffdoiokmiklgaaGreatDoor
namespace Go.Proofs.YtffdoiokmiklgaaGreatDoor
open Go.RowKit
set_option maxHeartbeats 800000 in
theorem wIsIt_any (m:Mem) (nb:Nat) (nm:ByteArray) (w:World) (h:w.cell? ⟨nb,0,none⟩=some (.string nm)) :
 Calls Tryz.prog 142 #[.agg #[.string m.name,.int .i64 m.state,.int .i64 m.life,.int .i64 m.addr,.bool m.server],.pointer (some ⟨nb,0,none⟩)] w fun e w'=>e=.returned (.bool (decide (m.name=nm)))∧w'=w.alloc (.cells #[.string m.name,.int .i64 m.state,.int .i64 m.life,.int .i64 m.addr,.bool m.server] 56):=by
 have hb:nb < w.heap.size:=World.block_lt_of_cell? w _ h
 have h2:∀ ob,(w.alloc ob).cell? ⟨nb,0,none⟩=some (.string nm):=fun ob=>by
  rw [((Below.refl w.heap.size w).alloc (Nat.le_refl _) ob).cell (p:=⟨nb,0,none⟩) hb];exact h
 obtain ⟨mn,st,lf,ad,sv⟩:=m
 go_enter Tryz.func142,Tryz.ntmps142
 go_wp2_with fail
 go_ret
 exact ⟨ret_bool (beq_names _ _),rfl⟩
set_option maxHeartbeats 1600000 in
theorem wIndex_any (ms:List Mem) (pa:Option Addr) (n c nb:Nat) (nm:ByteArray) (w:World) (hv:Sl w (.slice pa n c) ms) (hsm:n≤1000) (ht:w.cell? ⟨nb,0,none⟩=some (.string nm)) :
 Calls Tryz.prog 143 #[.slice pa n c,.func (.func 142) #[] #[.pointer (some ⟨nb,0,none⟩)]] w fun e w'=>
  ((e=.returned (.int .i64 (-1))∧Hid (fstM ms nm=none))∨(∃ i:Nat,i < n∧e=.returned (.int .i64 i)∧Hid (fstM ms nm=some (ms.getD i dm))))∧Below w.heap.size w w':=by
 obtain ⟨pa',ca,he,_,ha⟩:=hv
 simp only [Value.slice.injEq] at he
 obtain ⟨rfl,hN,rfl⟩:=he
 have HA:Hid (ms=[]∨∃ b off,pa=some ⟨b,off,none⟩∧b < w.heap.size∧Row w b off ms):=ha
 have HN:Hid (ms.length=n):=hN.symm
 have HT:Hid (w.cell? ⟨nb,0,none⟩=some (.string nm)):=ht
 have htb:nb < w.heap.size:=World.block_lt_of_cell? w _ ht
 clear ha hN ht
 go_enter Tryz.func143,Tryz.ntmps143
 go_wp2_with fail
 go_loopw [8] (fun i wr=>∃ k:Nat,k≤n∧i=.int .i64 k∧Hid (∀ j,j < k→(ms.getD j dm).name≠nm)∧Hid (Below w.heap.size w wr)) (fun i _=>n - (intOf i).toNat)
 case atStart=>exact ⟨0,Nat.zero_le _,rfl,fun j hj=>by omega,Below.refl _ _⟩
 case round=>
  obtain ⟨k,hk,rfl,HZ,HB⟩:=hrel
  by_cases hlt:k < n
  ·obtain ⟨b,off,hp1,hl1,hr⟩:∃ b off,pa=some ⟨b,off,none⟩∧b < w.heap.size∧Row w b off ms:=by
    rcases HA.out with h | h
    ·have:=HN.out;rw [h] at this;simp at this;omega
    ·exact h
   subst hp1
   obtain ⟨c0,c1,c2,c3,c4⟩:=hr.later HB.out hl1 k (by rw [HN.out];exact hlt)
   clear hr
   have ht2:wr.cell? ⟨nb,0,none⟩=some (.string nm):=by rw [HB.out.cell (p:=⟨nb,0,none⟩) htb];exact HT.out
   have HY:Hid ((ms.getD k dm).name=nm→fstM ms nm=some (ms.getD k dm)):=fun h=>fstM_some (by rw [HN.out];exact hlt) HZ.out h
   have HZ2:Hid ((ms.getD k dm).name≠nm→∀ j,j < k+1→(ms.getD j dm).name≠nm):=fun h j hj=>by
    by_cases e:j=k
    ·subst e;exact h
    ·exact HZ.out j (by omega)
   have hF:=fun w h=>wIsIt_any (ms.getD k dm) nb nm w h
   by_cases hkp:(ms.getD k dm).name=nm
   ·have HF:Hid (fstM ms nm=some (ms.getD k dm)):=HY.out hkp
    rw [decide_eq_true hkp] at hF
    clear hkp HZ2 HY
    generalize hmk:ms.getD k dm=mk at *
    have HMK:Hid (ms.getD k dm=mk):=hmk
    clear hmk
    obtain ⟨mn,st,lf,ad,sv⟩:=mk
    simp only at c0 c1 c2 c3 c4 hF
    go_wp2_with fail
    refine (hF _ ht2).mono ?_
    rintro e w1 ⟨rfl,rfl⟩
    go_wp2_with fail
    go_ret
    exact ⟨.inr ⟨k,hlt,rfl,by rw [HMK.out];exact HF⟩,HB.out.alloc HB.out.size _⟩
   ·have HZ3:Hid (∀ j,j < k+1→(ms.getD j dm).name≠nm):=HZ2.out hkp
    rw [decide_eq_false hkp] at hF
    clear hkp HZ2 HY HZ
    generalize ms.getD k dm=mk at *
    obtain ⟨mn,st,lf,ad,sv⟩:=mk
    simp only at c0 c1 c2 c3 c4 hF
    go_wp2_with fail
    refine (hF _ ht2).mono ?_
    rintro e w1 ⟨rfl,rfl⟩
    go_wp2_with fail
    go_roundw
    case rel=>exact ⟨k+1,by omega,by go_num,HZ3,HB.out.alloc HB.out.size _⟩
    case measure=>simp [intOf];omega
  ·have HZ3:Hid (fstM ms nm=none):=fstM_none fun j hj=>HZ.out j (by have:=HN.out;omega)
   clear HZ
   go_wp2_with fail
   go_ret
   exact ⟨.inl ⟨rfl,HZ3⟩,HB.out⟩
theorem mOf_some {ms:List Mem} {t:ByteArray} {m:Mem} (h:fstM ms t=some m):mOf ms t=m:=by unfold mOf;rw [h];rfl
theorem mOf_none {ms:List Mem} {t:ByteArray} (h:fstM ms t=none):mOf ms t=dm:=by unfold mOf;rw [h];rfl
set_option maxHeartbeats 3200000 in
set_option maxRecDepth 100000 in
theorem wmember_any (b:Nat) (pm:Option Addr) (nm cm:Nat) (ms:List Mem) (t:ByteArray) (w:World) (hc:w.cell? ⟨b,2,none⟩=some (.slice pm nm cm)) (hm:Sl w (.slice pm nm cm) ms) (hn:nm≤1000) :
 Calls Tryz.prog 93 #[.pointer (some ⟨b,0,none⟩),.string t] w fun e w'=>e=.returned (.tuple #[.agg #[.string (mOf ms t).name,.int .i64 (mOf ms t).state,.int .i64 (mOf ms t).life,.int .i64 (mOf ms t).addr,.bool (mOf ms t).server],.bool (fstM ms t).isSome])∧Below w.heap.size w w':=by
 have HM:Hid (Sl w (.slice pm nm cm) ms):=hm
 have hb:b < w.heap.size:=World.block_lt_of_cell? w _ hc
 have HC:Hid (w.cell? ⟨b,2,none⟩=some (.slice pm nm cm)):=hc
 clear hm
 obtain ⟨W,hW⟩:∃ W,W=(w.alloc (.cells #[.string t] 9)).alloc (.cells #[.string ⟨#[]⟩,.int .i64 0,.int .i64 0,.int .i64 0,.bool false] 56):=⟨_,rfl⟩
 have hbW:Below w.heap.size w W:=by rw [hW];exact ((Below.refl _ _).alloc (Nat.le_refl _) _).alloc (by simp) _
 have hg1:W.heap[w.heap.size]?=some (.cells #[.string t] 9 (0,0)):=by
  rw [hW,Below.heap_alloc _ _ _ (by simp)];exact heap_alloc_new w _
 have hg2:W.heap[w.heap.size+1]?=some (.cells #[.string ⟨#[]⟩,.int .i64 0,.int .i64 0,.int .i64 0,.bool false] 56 (0,0)):=by
  have h:=heap_alloc_new (w.alloc (.cells #[.string t] 9)) (.cells #[.string ⟨#[]⟩,.int .i64 0,.int .i64 0,.int .i64 0,.bool false] 56)
  rw [hW];simpa using h
 have hsW:W.heap.size=w.heap.size+2:=by rw [hW];simp
 go_enter Tryz.func93,Tryz.ntmps93
 go_wp2_with fail
 rw [← hW]
 clear hW
 refine (wIndex_any ms pm nm cm _ t W (HM.out.below hbW) hn (cellsAt hg1 0)).mono ?_
 rintro e w1 ⟨hor,hb1⟩
 have h2:w1.heap[w.heap.size+1]?=_:=(hb1.block _ (by omega)).trans hg2
 have HB:Hid (Below w.heap.size w w1):=hbW.trans (hb1.mono (by omega))
 have HM1:Hid (Sl w1 (.slice pm nm cm) ms):=HM.out.below HB.out
 have d2:w1.cell? ⟨b,2,none⟩=some (.slice pm nm cm):=by rw [HB.out.cell (p:=⟨b,2,none⟩) hb];exact HC.out
 have r0:w1.cell? ⟨w.heap.size+1,0,none⟩=some (.string ⟨#[]⟩):=cellsAt h2 0
 have r1:w1.cell? ⟨w.heap.size+1,1,none⟩=some (.int .i64 0):=cellsAt h2 1
 have r2:w1.cell? ⟨w.heap.size+1,2,none⟩=some (.int .i64 0):=cellsAt h2 2
 have r3:w1.cell? ⟨w.heap.size+1,3,none⟩=some (.int .i64 0):=cellsAt h2 3
 have r4:w1.cell? ⟨w.heap.size+1,4,none⟩=some (.bool false):=cellsAt h2 4
 have z0:w1.frozen? ⟨w.heap.size+1,0,none⟩=false:=by simp [World.frozen?,h2]
 have z1:w1.frozen? ⟨w.heap.size+1,1,none⟩=false:=by simp [World.frozen?,h2]
 have z2:w1.frozen? ⟨w.heap.size+1,2,none⟩=false:=by simp [World.frozen?,h2]
 have z3:w1.frozen? ⟨w.heap.size+1,3,none⟩=false:=by simp [World.frozen?,h2]
 have z4:w1.frozen? ⟨w.heap.size+1,4,none⟩=false:=by simp [World.frozen?,h2]
 have hz2:w.heap.size+1 < w1.heap.size:=(Array.getElem?_eq_some_iff.1 h2).1
 clear hbW hg1 hg2 hb1 h2 hsW hc
 rcases hor with ⟨rfl,HF⟩ | ⟨i,hi,rfl,HF⟩
 ·have HO:Hid (mOf ms t=dm∧(fstM ms t).isSome=false):=⟨mOf_none HF.out,by rw [HF.out];rfl⟩
  go_wp2_with fail
  refine bodyPost_ret (v:=.tuple #[.agg #[.string ⟨#[]⟩,.int .i64 0,.int .i64 0,.int .i64 0,.bool false],.bool false]) ?_ rfl ⟨by rw [HO.out.1,HO.out.2];rfl,?_⟩
  ·simp [results,Tryz.results93,go_sem,r0,r1,r2,r3,r4]
  exact ((((HB.out.setCell (p:=⟨w.heap.size+1,0,none⟩) (by simp) _).setCell (p:=⟨w.heap.size+1,1,none⟩) (by simp) _).setCell (p:=⟨w.heap.size+1,2,none⟩) (by simp) _).setCell (p:=⟨w.heap.size+1,3,none⟩) (by simp) _).setCell (p:=⟨w.heap.size+1,4,none⟩) (by simp) _
 ·have HO:Hid (mOf ms t=ms.getD i dm∧(fstM ms t).isSome=true):=⟨mOf_some HF.out,by rw [HF.out];rfl⟩
  obtain ⟨pa',ca,he,_,ha⟩:=HM1.out
  simp only [Value.slice.injEq] at he
  obtain ⟨rfl,hN,rfl⟩:=he
  obtain ⟨b2,off,hp1,hl1,hr⟩:∃ b off,pm=some ⟨b,off,none⟩∧b < w1.heap.size∧Row w1 b off ms:=by
   rcases ha with h | h
   ·rw [h] at hN;simp at hN;omega
   ·exact h
  subst hp1
  obtain ⟨c0,c1,c2,c3,c4⟩:=hr i (by omega)
  clear hr hN ha HF
  generalize ms.getD i dm=mk at *
  obtain ⟨mn,st,lf,ad,sv⟩:=mk
  simp only at c0 c1 c2 c3 c4
  go_wp2_with fail
  refine bodyPost_ret (v:=.tuple #[.agg #[.string mn,.int .i64 st,.int .i64 lf,.int .i64 ad,.bool sv],.bool true]) ?_ rfl ⟨by rw [HO.out.1,HO.out.2],?_⟩
  ·simp [results,Tryz.results93,go_sem,r0,r1,r2,r3,r4]
  exact ((((HB.out.setCell (p:=⟨w.heap.size+1,0,none⟩) (by simp) _).setCell (p:=⟨w.heap.size+1,1,none⟩) (by simp) _).setCell (p:=⟨w.heap.size+1,2,none⟩) (by simp) _).setCell (p:=⟨w.heap.size+1,3,none⟩) (by simp) _).setCell (p:=⟨w.heap.size+1,4,none⟩) (by simp) _
def aheadP (ms:List Mem) (r:Rum):Bool:=match fstM ms r.m.name with
 | none=>true
 | some k=>newE r.m k == 0 && newM r.m k
set_option maxHeartbeats 3200000 in
set_option maxRecDepth 100000 in
theorem isAhead_any (b:Nat) (pm:Option Addr) (nm cm:Nat) (ms:List Mem) (r:Rum) (w:World) (hc:w.cell? ⟨b,2,none⟩=some (.slice pm nm cm)) (hm:Sl w (.slice pm nm cm) ms) (hn:nm≤1000) (hr:r.m.name.size≤maxLen) :
 Calls Tryz.prog 131 #[.pointer (some ⟨b,0,none⟩),.agg #[.string r.m.name,.int .i64 r.m.state,.int .i64 r.m.life,.int .i64 r.m.addr,.bool r.m.server,.int .i64 r.told]] w fun e w'=>e=.returned (.bool (aheadP ms r))∧Below w.heap.size w w':=by
 have hb:b < w.heap.size:=World.block_lt_of_cell? w _ hc
 have HS:Hid (∀ m,fstM ms r.m.name=some m→m.name.size≤maxLen):=fun m h=>by
  obtain ⟨a,c,he,hs,_⟩:=hm
  exact ns_mem hs m (fstM_mem h).1
 have HD:Hid (aheadP ms r=match fstM ms r.m.name with
  | none=>true
  | some k=>newE r.m k == 0 && newM r.m k):=rfl
 generalize aheadP ms r=res at *
 obtain ⟨W,hW⟩:∃ W,W=w.alloc (.cells #[.string r.m.name,.int .i64 r.m.state,.int .i64 r.m.life,.int .i64 r.m.addr,.bool r.m.server,.int .i64 r.told] 98):=⟨_,rfl⟩
 have hbW:Below w.heap.size w W:=by rw [hW];exact (Below.refl _ _).alloc (Nat.le_refl _) _
 have hg:W.heap[w.heap.size]?=some (.cells #[.string r.m.name,.int .i64 r.m.state,.int .i64 r.m.life,.int .i64 r.m.addr,.bool r.m.server,.int .i64 r.told] 98 (0,0)):=by rw [hW];exact heap_alloc_new w _
 have HCW:Hid (Calls Tryz.prog 93 #[.pointer (some ⟨b,0,none⟩),.string r.m.name] W fun e w'=>e=.returned (.tuple #[.agg #[.string (mOf ms r.m.name).name,.int .i64 (mOf ms r.m.name).state,.int .i64 (mOf ms r.m.name).life,.int .i64 (mOf ms r.m.name).addr,.bool (mOf ms r.m.name).server],.bool (fstM ms r.m.name).isSome])∧Below W.heap.size W w'):=
  wmember_any b pm nm cm ms r.m.name W (by rw [hbW.cell (p:=⟨b,2,none⟩) hb];exact hc) (hm.below hbW) hn
 have x0:W.cell? ⟨w.heap.size,0,none⟩=some (.string r.m.name):=cellsAt hg 0
 have hsW:W.heap.size=w.heap.size+1:=by rw [hW];simp
 clear hc hm
 go_enter Tryz.func131,Tryz.ntmps131
 go_wp2_with fail
 rw [← hW]
 clear hW
 refine HCW.out.mono ?_
 rintro e w1 ⟨rfl,hb1⟩
 have hg1:w1.heap[w.heap.size]?=_:=(hb1.block _ (by omega)).trans hg
 have y0:w1.cell? ⟨w.heap.size,0,none⟩=some (.string r.m.name):=cellsAt hg1 0
 have y1:w1.cell? ⟨w.heap.size,1,none⟩=some (.int .i64 r.m.state):=cellsAt hg1 1
 have y2:w1.cell? ⟨w.heap.size,2,none⟩=some (.int .i64 r.m.life):=cellsAt hg1 2
 have y3:w1.cell? ⟨w.heap.size,3,none⟩=some (.int .i64 r.m.addr):=cellsAt hg1 3
 have y4:w1.cell? ⟨w.heap.size,4,none⟩=some (.bool r.m.server):=cellsAt hg1 4
 have hs1:w.heap.size < w1.heap.size:=(Array.getElem?_eq_some_iff.1 hg1).1
 have HB1:Hid (Below w.heap.size w w1):=hbW.trans (hb1.mono (by omega))
 clear hb1 hg1 hg hbW HCW x0
 rcases hf:fstM ms r.m.name with _ | k
 ·have HR:Hid (res=true):=HD.out.trans (by rw [hf])
  have hmo:mOf ms r.m.name=dm:=mOf_none hf
  rw [hmo]
  clear hf hmo
  go_wp2_with fail
  go_ret
  exact ⟨ret_bool HR.out.symm,HB1.out.alloc HB1.out.size _⟩
 ·have HR:Hid (res=(newE r.m k == 0 && newM r.m k)):=HD.out.trans (by rw [hf])
  have hk:=HS.out k hf
  have hmo:mOf ms r.m.name=k:=mOf_some hf
  rw [hmo]
  clear hf hmo
  have HN:Hid (∀ W,Calls Tryz.prog 190 #[.agg #[.string r.m.name,.int .i64 r.m.state,.int .i64 r.m.life,.int .i64 r.m.addr,.bool r.m.server],.agg #[.string k.name,.int .i64 k.state,.int .i64 k.life,.int .i64 k.addr,.bool k.server]] W fun e w'=>e=.returned (.tuple #[.bool (newE r.m k == 0 && newM r.m k),.int .i64 (newE r.m k)])∧Below W.heap.size W w'):=fun W=>newer2_any r.m k W hr hk
  generalize (newE r.m k == 0 && newM r.m k)=q at *
  go_wp2_with fail
  refine (HN.out _).mono ?_
  rintro e w2 ⟨rfl,hb2⟩
  have HB2:Hid (Below w.heap.size w w2):=(HB1.out.alloc HB1.out.size _).trans (hb2.mono (by have:=HB1.out.size;simp;omega))
  clear hb2
  go_wp2_with fail
  go_ret
  exact ⟨ret_bool HR.out.symm,HB2.out⟩
set_option maxHeartbeats 1600000 in
set_option maxRecDepth 100000 in
theorem cIndex_any (b:Nat) (pm:Option Addr) (nm cm:Nat) (ms:List Mem) (rs:List Rum) (v:Value) (w:World) (hv:RSl w v rs) (hc:w.cell? ⟨b,2,none⟩=some (.slice pm nm cm)) (hm:Sl w (.slice pm nm cm) ms) (hn:nm≤1000) (hsm:rs.length≤1000) :
 Calls Tryz.prog 189 #[v,.func (.func 131) #[.pointer (some ⟨b,0,none⟩)] #[]] w fun e w'=>
  ((e=.returned (.int .i64 (-1))∧Hid (rs.any (aheadP ms)=false))∨(∃ i:Nat,i < rs.length∧e=.returned (.int .i64 i)∧Hid (rs.any (aheadP ms)=true)))∧Below w.heap.size w w':=by
 obtain ⟨pa,ca,rfl,hs,ha⟩:=hv
 have hb:b < w.heap.size:=World.block_lt_of_cell? w _ hc
 have HA:Hid (rs=[]∨∃ b off,pa=some ⟨b,off,none⟩∧b < w.heap.size∧RRow w b off rs):=ha
 have HS:Hid (∀ j,(rs.getD j dr).m.name.size≤maxLen):=hs
 have HI:Hid (∀ W,Below w.heap.size w W→∀ r:Rum,r.m.name.size≤maxLen→Calls Tryz.prog 131 #[.pointer (some ⟨b,0,none⟩),.agg #[.string r.m.name,.int .i64 r.m.state,.int .i64 r.m.life,.int .i64 r.m.addr,.bool r.m.server,.int .i64 r.told]] W fun e w'=>e=.returned (.bool (aheadP ms r))∧Below W.heap.size W w'):=fun W hW r hr=>
  isAhead_any b pm nm cm ms r W (by rw [hW.cell (p:=⟨b,2,none⟩) hb];exact hc) (hm.below hW) hn hr
 clear ha hs hc hm
 generalize hN:rs.length=n at *
 have HN:Hid (rs.length=n):=hN
 clear hN
 go_enter Tryz.func189,Tryz.ntmps189
 go_wp2_with fail
 go_loopw [8] (fun i wr=>∃ k:Nat,k≤n∧i=.int .i64 k∧Hid (∀ j,j < k→aheadP ms (rs.getD j dr)=false)∧Hid (Below w.heap.size w wr)) (fun i _=>n - (intOf i).toNat)
 case atStart=>exact ⟨0,Nat.zero_le _,rfl,fun j hj=>by omega,Below.refl _ _⟩
 case round=>
  obtain ⟨k,hk,rfl,HZ,HB⟩:=hrel
  by_cases hlt:k < n
  ·obtain ⟨b2,off,hp1,hl1,hr⟩:∃ b off,pa=some ⟨b,off,none⟩∧b < w.heap.size∧RRow w b off rs:=by
    rcases HA.out with h | h
    ·have:=HN.out;rw [h] at this;simp at this;omega
    ·exact h
   subst hp1
   obtain ⟨c0,c1,c2,c3,c4,c5⟩:=hr.below HB.out hl1 k (by rw [HN.out];exact hlt)
   clear hr
   have hnm:=HS.out k
   have HY:Hid (aheadP ms (rs.getD k dr)=true→rs.any (aheadP ms)=true):=fun h=>by
    rw [show rs.getD k dr=rs[k]'(by rw [HN.out];exact hlt) by simp [List.getD,List.getElem?_eq_getElem (show k < rs.length by rw [HN.out];exact hlt)]] at h
    exact List.any_eq_true.2 ⟨_,List.getElem_mem _,h⟩
   have HZ2:Hid (aheadP ms (rs.getD k dr)=false→∀ j,j < k+1→aheadP ms (rs.getD j dr)=false):=fun h j hj=>by
    by_cases e:j=k
    ·subst e;exact h
    ·exact HZ.out j (by omega)
   have HF:Hid (∀ W,Below w.heap.size w W→Calls Tryz.prog 131 #[.pointer (some ⟨b,0,none⟩),.agg #[.string (rs.getD k dr).m.name,.int .i64 (rs.getD k dr).m.state,.int .i64 (rs.getD k dr).m.life,.int .i64 (rs.getD k dr).m.addr,.bool (rs.getD k dr).m.server,.int .i64 (rs.getD k dr).told]] W fun e w'=>e=.returned (.bool (aheadP ms (rs.getD k dr)))∧Below W.heap.size W w'):=fun W hW=>HI.out W hW _ hnm
   generalize hah:aheadP ms (rs.getD k dr)=ah at *
   clear hah
   generalize rs.getD k dr=rk at *
   obtain ⟨⟨mn,st,lf,ad,sv⟩,td⟩:=rk
   simp only at c0 c1 c2 c3 c4 c5 HF
   clear HZ
   have hsz:=HB.out.size
   cases ah
   ·have HZ3:Hid (∀ j,j < k+1→aheadP ms (rs.getD j dr)=false):=HZ2.out rfl
    clear HY HZ2
    go_wp2_with fail
    refine (HF.out _ HB.out).mono ?_
    rintro e w1 ⟨rfl,hb1⟩
    have HB1:Hid (Below w.heap.size w w1):=HB.out.trans (hb1.mono hsz)
    clear hb1
    go_wp2_with fail
    go_roundw
    case rel=>exact ⟨k+1,by omega,by go_num,HZ3,HB1⟩
    case measure=>simp [intOf];omega
   ·have HR:Hid (rs.any (aheadP ms)=true):=HY.out rfl
    clear HY HZ2
    go_wp2_with fail
    refine (HF.out _ HB.out).mono ?_
    rintro e w1 ⟨rfl,hb1⟩
    have HB1:Hid (Below w.heap.size w w1):=HB.out.trans (hb1.mono hsz)
    clear hb1
    go_wp2_with fail
    go_ret
    exact ⟨.inr ⟨k,hlt,rfl,HR⟩,HB1.out⟩
  ·have HZ3:Hid (rs.any (aheadP ms)=false):=by
    rcases h:rs.any (aheadP ms) with _ | _
    ·rfl
    ·obtain ⟨r,hr,h2⟩:=List.any_eq_true.1 h
     obtain ⟨j,hj,rfl⟩:=List.getElem_of_mem hr
     have h3:=HZ.out j (by have:=HN.out;omega)
     rw [show rs.getD j dr=rs[j] by simp [List.getD,List.getElem?_eq_getElem hj],h2] at h3
     cases h3
   clear HZ
   go_wp2_with fail
   go_ret
   exact ⟨.inl ⟨rfl,HZ3⟩,HB.out⟩
set_option maxHeartbeats 1600000 in
theorem contains_any (b:Nat) (pm:Option Addr) (nm cm:Nat) (ms:List Mem) (rs:List Rum) (v:Value) (w:World) (hv:RSl w v rs) (hc:w.cell? ⟨b,2,none⟩=some (.slice pm nm cm)) (hm:Sl w (.slice pm nm cm) ms) (hn:nm≤1000) (hsm:rs.length≤1000) :
 Calls Tryz.prog 130 #[v,.func (.func 131) #[.pointer (some ⟨b,0,none⟩)] #[]] w fun e w'=>e=.returned (.bool (rs.any (aheadP ms)))∧Below w.heap.size w w':=by
 have HI:Hid (Calls Tryz.prog 189 #[v,.func (.func 131) #[.pointer (some ⟨b,0,none⟩)] #[]] w fun e w'=>
  ((e=.returned (.int .i64 (-1))∧Hid (rs.any (aheadP ms)=false))∨(∃ i:Nat,i < rs.length∧e=.returned (.int .i64 i)∧Hid (rs.any (aheadP ms)=true)))∧Below w.heap.size w w'):=cIndex_any b pm nm cm ms rs v w hv hc hm hn hsm
 clear hv hc hm
 generalize rs.any (aheadP ms)=q at *
 go_enter Tryz.func130,Tryz.ntmps130
 go_wp2_with fail
 refine HI.out.mono ?_
 rintro e w1 ⟨hor,hb1⟩
 have HB:Hid (Below w.heap.size w w1):=hb1
 clear hb1
 rcases hor with ⟨rfl,HF⟩ | ⟨i,hi,rfl,HF⟩
 ·go_wp2_with fail
  go_ret
  exact ⟨ret_bool HF.out.symm,HB.out⟩
 ·go_wp2_with fail
  go_ret
  exact ⟨ret_bool HF.out.symm,HB.out⟩
end Go.Proofs.YtffdoiokmiklgaaGreatDoor
