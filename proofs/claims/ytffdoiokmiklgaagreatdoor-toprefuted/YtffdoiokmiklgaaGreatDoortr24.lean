import Derived.Test.YtffdoiokmiklgaaGreatDoortr23
namespace Go.Proofs.YtffdoiokmiklgaaGreatDoor
open Go.RowKit
theorem els_len:∀ (ms:List Mem),(∀ m∈ms,wok m)→(ms.flatMap elL).length≤3300 * ms.length
 | [],_=>by simp
 | x :: r,h=>by
   have h1:=elL_len (h x (by simp))
   have h2:=els_len r (fun m hm=>h m (by simp [hm]))
   rw [List.flatMap_cons,List.length_append,List.length_cons];omega
set_option maxHeartbeats 6400000 in
set_option maxRecDepth 100000 in
theorem wlist_any (B b wb:Nat) (ms:List Mem) (v:Value) (bs:List Value) (w0 w:World) (h:IsW B b bs w) (hv:Sl w0 v ms) (hB:B=w0.heap.size) (hbel:Below B w0 w) (hml:ms.length≤50) (hlen:bs.length+3300 * ms.length≤600000) (hBw:B≤w.heap.size) (hT:Tab B w) (hwb:w.heap[wb]?=some (.cells #[.pointer (some ⟨b,0,none⟩)] 295 (0,0))) (hne:wb≠b) (hok:∀ m∈ms,wok m) :
 Calls Tryz.prog 287 #[.pointer (some ⟨b,0,none⟩),v,.func (.func 288) #[] #[.pointer (some ⟨wb,0,none⟩)]] w fun e w'=>e=.returned (.tuple #[])∧IsW B b (bs++(numL ms.length++ms.flatMap elL)) w'∧Kp B b w w':=by
 have eg:∀ args W,(callFunc 288 args).run Tryz.prog W=.ok (.enter 288 args) W:=enters_of Tryz.func288 (by kernel_rfl) rfl
 obtain ⟨pa,ca,rfl,_,hrow⟩:=hv
 have HR:Hid (ms=[]∨∃ b off,pa=some ⟨b,off,none⟩∧b < w0.heap.size∧Row w0 b off ms):=hrow
 have HBE:Hid (Below B w0 w):=hbel
 have HWB:Hid (w.heap[wb]?=some (.cells #[.pointer (some ⟨b,0,none⟩)] 295 (0,0))):=hwb
 have HOK:Hid (∀ m∈ms,wok m):=hok
 have HT:Hid (Tab B w):=hT
 have HI:Hid (IsW B b bs w):=h
 have HBQ:Hid (B=w0.heap.size):=hB
 clear hrow hbel hwb hok hT h hB
 generalize hnl:ms.length=nl at *
 have HNL:Hid (ms.length=nl):=hnl
 have HLEN:Hid (bs.length+3300 * nl≤600000):=hlen
 clear hnl hlen
 have HN0:Hid (Calls Tryz.prog 289 #[.pointer (some ⟨b,0,none⟩),.slice (some ⟨w.heap.size,0,none⟩) 1 1] (w.alloc (.cells #[.int .i64 (nl:Int)] 3)) fun e w'=>e=.returned (.tuple #[])∧IsW B b (bs++numL nl) w'∧Kp B b w w'):=by
  refine (wnums_at B b [(nl:Int)] bs w HI.out (by have:=HLEN.out;simp only [List.length_cons,List.length_nil];omega) hBw HT.out (fun n hn=>by simp at hn;rw [hn];exact in63_nat (by omega))).mono ?_
  rintro e w' ⟨rfl,h1,h2⟩
  exact ⟨rfl,by simpa using h1,h2⟩
 go_enter Tryz.func287,Tryz.ntmps287
 go_wp2_with fail
 refine HN0.out.mono ?_
 rintro e w1 ⟨rfl,h1,hk1⟩
 have HW1:Hid (IsW B b (bs++numL nl) w1):=h1
 have HK1:Hid (Kp B b w w1):=hk1
 clear h1 hk1 HN0
 go_wp2_with fail
 go_loopw [15] (fun i w'=>∃ k:Nat,k≤nl∧i=.int .i64 k∧Hid (IsW B b (bs++numL nl++(ms.take k).flatMap elL) w')∧Hid (Kp B b w w')) (fun i _=>nl - (intOf i).toNat)
 case atStart=>exact ⟨0,Nat.zero_le _,rfl,by simpa using HW1,HK1⟩
 case round=>
  obtain ⟨k,hk,rfl,HW,HK⟩:=hrel
  by_cases hlt:k < nl
  ·obtain ⟨g,o,hp,hgl,hr⟩:∃ b off,pa=some ⟨b,off,none⟩∧b < w0.heap.size∧Row w0 b off ms:=by
    rcases HR.out with h | h
    ·have:=HNL.out;rw [h] at this;simp at this;omega
    ·exact h
   subst hp
   have hkl:k < ms.length:=by rw [HNL.out];exact hlt
   obtain ⟨c0,c1,c2,c3,c4⟩:=hr k hkl
   have hbl:∀ o,wr.cell? ⟨g,o,none⟩=w0.cell? ⟨g,o,none⟩:=fun o=>(HBE.out.trans HK.out.bel).cell (p:=⟨g,o,none⟩) (by have:=HBQ.out;show g < B;omega)
   have HXO:Hid (wok (ms.getD k dm)):=HOK.out _ (by rw [show ms.getD k dm=ms[k] by simp [List.getD,List.getElem?_eq_getElem hkl]];exact List.getElem_mem _)
   have HST:Hid ((ms.take (k+1)).flatMap elL=(ms.take k).flatMap elL++elL (ms.getD k dm)):=by
    show List.flatMap elL _=_
    rw [List.take_succ_eq_append_getElem hkl,List.flatMap_append]
    simp [List.getD,List.getElem?_eq_getElem hkl]
   have HLK:Hid ((bs++numL nl++(ms.take k).flatMap elL).length≤700000):=by
    have h1:=els_len (ms.take k) (fun n hn=>HOK.out n (List.mem_of_mem_take hn))
    have h2:(ms.take k).length≤k:=List.length_take_le _ _
    have h3:=HLEN.out
    have h4:=numL_len (in63_nat (n:=nl) (by omega))
    show (bs++numL nl++(ms.take k).flatMap elL).length≤700000
    rw [List.length_append,List.length_append];omega
   generalize ms.getD k dm=x at *
   generalize (ms.take k).flatMap elL=L at *
   obtain ⟨W2,hW2⟩:∃ W2,W2=wr.alloc (.cells #[.string x.name,.int .i64 x.state,.int .i64 x.life,.int .i64 x.addr,.bool x.server] 56):=⟨_,rfl⟩
   have hb2:Below wr.heap.size wr W2:=by rw [hW2];exact (Below.refl _ _).alloc (Nat.le_refl _) _
   have hBr:B≤wr.heap.size:=Nat.le_trans hBw HK.out.size
   have hg2:W2.heap[wr.heap.size]?=some (.cells #[.string x.name,.int .i64 x.state,.int .i64 x.life,.int .i64 x.addr,.bool x.server] 56 (0,0)):=by rw [hW2];exact heap_alloc_new wr _
   have HKW:Hid (Kp B b w W2):=HK.out.trans (Kp.of_below hb2 hBr)
   have HC:Hid (Calls Tryz.prog 288 #[.agg #[.string x.name,.int .i64 x.state,.int .i64 x.life,.int .i64 x.addr,.bool x.server],.pointer (some ⟨wb,0,none⟩)] W2 fun e w'=>e=.returned (.tuple #[])∧IsW B b (bs++numL nl++L++elL x) w'∧Kp B b W2 w'):=wone_any B b wb x _ W2 (HW.out.below hb2) HLK.out (Nat.le_trans hBr hb2.size) (HT.out.below HKW.out.bel) (HKW.out.keeps HWB.out hne (by decide)) hne HXO.out
   generalize elL x=EX at *
   obtain ⟨x0,x1,x2,x3,x4⟩:=x
   simp only at c0 c1 c2 c3 c4 hg2 hW2 HC
   have d0:=(hbl _).trans c0
   have d1:=(hbl _).trans c1
   have d2:=(hbl _).trans c2
   have d3:=(hbl _).trans c3
   have d4:=(hbl _).trans c4
   clear hbl c0 c1 c2 c3 c4 hr hkl hb2 HXO HLK
   have hki:(k:Int) < (nl:Int):=by omega
   go_upto_region 4 with fail
   rw [← hW2]
   clear hW2 d0 d1 d2 d3 d4
   have z0:W2.cell? ⟨wr.heap.size,0,none⟩=some (.string x0):=cellsAt hg2 0
   have z1:W2.cell? ⟨wr.heap.size,1,none⟩=some (.int .i64 x1):=cellsAt hg2 1
   have z2:W2.cell? ⟨wr.heap.size,2,none⟩=some (.int .i64 x2):=cellsAt hg2 2
   have z3:W2.cell? ⟨wr.heap.size,3,none⟩=some (.int .i64 x3):=cellsAt hg2 3
   have z4:W2.cell? ⟨wr.heap.size,4,none⟩=some (.bool x4):=cellsAt hg2 4
   clear hg2
   go_wp2_with fail
   refine HC.out.mono ?_
   rintro e w3 ⟨rfl,h3,hk3⟩
   have HW3:Hid (IsW B b (bs++numL nl++(L++EX)) w3):=(show IsW _ _ _ _ by rw [← List.append_assoc];exact h3)
   have HK3:Hid (Kp B b w w3):=HKW.out.trans hk3
   clear h3 hk3 z0 z1 z2 z3 z4
   go_wp2_with fail
   go_roundw
   case rel=>exact ⟨k+1,by omega,by go_num,by rw [HST.out];exact HW3,HK3⟩
   case measure=>simp [intOf];omega
  ·have HWE:Hid (IsW B b (bs++(numL nl++ms.flatMap elL)) wr):=by
    have h:=HW.out
    rw [List.take_of_length_le (by rw [HNL.out];omega),List.append_assoc] at h
    exact h
   have hki:¬ (k:Int) < (nl:Int):=by omega
   go_wp2_with fail
   simp [bodyPost,results,Tryz.results287]
   exact ⟨HWE.out,HK.out⟩
theorem Sv.els_len:∀ (ms:List Sv.Svc),(∀ m∈ms,Sv.wok m)→(ms.flatMap Sv.elL).length≤8800 * ms.length
 | [],_=>by simp
 | x :: r,h=>by
   have h1:=Sv.elL_len (h x (by simp))
   have h2:=Sv.els_len r (fun m hm=>h m (by simp [hm]))
   rw [List.flatMap_cons,List.length_append,List.length_cons];omega
set_option maxHeartbeats 6400000 in
set_option maxRecDepth 100000 in
theorem Sv.wlist_any (B b wb:Nat) (ms:List Sv.Svc) (v:Value) (bs:List Value) (w0 w:World) (h:IsW B b bs w) (hv:Sv.Sl w0 v ms) (hB:B=w0.heap.size) (hbel:Below B w0 w) (hml:ms.length≤50) (hlen:bs.length+8800 * ms.length≤600000) (hBw:B≤w.heap.size) (hT:Tab B w) (hwb:w.heap[wb]?=some (.cells #[.pointer (some ⟨b,0,none⟩)] 295 (0,0))) (hne:wb≠b) (hok:∀ m∈ms,Sv.wok m) :
 Calls Tryz.prog 290 #[.pointer (some ⟨b,0,none⟩),v,.func (.func 291) #[] #[.pointer (some ⟨wb,0,none⟩)]] w fun e w'=>e=.returned (.tuple #[])∧IsW B b (bs++(numL ms.length++ms.flatMap Sv.elL)) w'∧Kp B b w w':=by
 have eg:∀ args W,(callFunc 291 args).run Tryz.prog W=.ok (.enter 291 args) W:=enters_of Tryz.func291 (by kernel_rfl) rfl
 obtain ⟨pa,ca,rfl,_,hrow⟩:=hv
 have HR:Hid (ms=[]∨∃ b off,pa=some ⟨b,off,none⟩∧b < w0.heap.size∧Sv.Row w0 b off ms):=hrow
 have HBE:Hid (Below B w0 w):=hbel
 have HWB:Hid (w.heap[wb]?=some (.cells #[.pointer (some ⟨b,0,none⟩)] 295 (0,0))):=hwb
 have HOK:Hid (∀ m∈ms,Sv.wok m):=hok
 have HT:Hid (Tab B w):=hT
 have HI:Hid (IsW B b bs w):=h
 have HBQ:Hid (B=w0.heap.size):=hB
 clear hrow hbel hwb hok hT h hB
 generalize hnl:ms.length=nl at *
 have HNL:Hid (ms.length=nl):=hnl
 have HLEN:Hid (bs.length+8800 * nl≤600000):=hlen
 clear hnl hlen
 have HN0:Hid (Calls Tryz.prog 289 #[.pointer (some ⟨b,0,none⟩),.slice (some ⟨w.heap.size,0,none⟩) 1 1] (w.alloc (.cells #[.int .i64 (nl:Int)] 3)) fun e w'=>e=.returned (.tuple #[])∧IsW B b (bs++numL nl) w'∧Kp B b w w'):=by
  refine (wnums_at B b [(nl:Int)] bs w HI.out (by have:=HLEN.out;simp only [List.length_cons,List.length_nil];omega) hBw HT.out (fun n hn=>by simp at hn;rw [hn];exact in63_nat (by omega))).mono ?_
  rintro e w' ⟨rfl,h1,h2⟩
  exact ⟨rfl,by simpa using h1,h2⟩
 go_enter Tryz.func290,Tryz.ntmps290
 go_wp2_with fail
 refine HN0.out.mono ?_
 rintro e w1 ⟨rfl,h1,hk1⟩
 have HW1:Hid (IsW B b (bs++numL nl) w1):=h1
 have HK1:Hid (Kp B b w w1):=hk1
 clear h1 hk1 HN0
 go_wp2_with fail
 go_loopw [15] (fun i w'=>∃ k:Nat,k≤nl∧i=.int .i64 k∧Hid (IsW B b (bs++numL nl++(ms.take k).flatMap Sv.elL) w')∧Hid (Kp B b w w')) (fun i _=>nl - (intOf i).toNat)
 case atStart=>exact ⟨0,Nat.zero_le _,rfl,by simpa using HW1,HK1⟩
 case round=>
  obtain ⟨k,hk,rfl,HW,HK⟩:=hrel
  by_cases hlt:k < nl
  ·obtain ⟨g,o,hp,hgl,hr⟩:∃ b off,pa=some ⟨b,off,none⟩∧b < w0.heap.size∧Sv.Row w0 b off ms:=by
    rcases HR.out with h | h
    ·have:=HNL.out;rw [h] at this;simp at this;omega
    ·exact h
   subst hp
   have hkl:k < ms.length:=by rw [HNL.out];exact hlt
   obtain ⟨c0,c1,c2,c3,c4,c5,c6,c7,c8⟩:=hr k hkl
   have hbl:∀ o,wr.cell? ⟨g,o,none⟩=w0.cell? ⟨g,o,none⟩:=fun o=>(HBE.out.trans HK.out.bel).cell (p:=⟨g,o,none⟩) (by have:=HBQ.out;show g < B;omega)
   have HXO:Hid (Sv.wok (ms.getD k Sv.dm)):=HOK.out _ (by rw [show ms.getD k Sv.dm=ms[k] by simp [List.getD,List.getElem?_eq_getElem hkl]];exact List.getElem_mem _)
   have HST:Hid ((ms.take (k+1)).flatMap Sv.elL=(ms.take k).flatMap Sv.elL++Sv.elL (ms.getD k Sv.dm)):=by
    show List.flatMap Sv.elL _=_
    rw [List.take_succ_eq_append_getElem hkl,List.flatMap_append]
    simp [List.getD,List.getElem?_eq_getElem hkl]
   have HLK:Hid ((bs++numL nl++(ms.take k).flatMap Sv.elL).length≤700000):=by
    have h1:=Sv.els_len (ms.take k) (fun n hn=>HOK.out n (List.mem_of_mem_take hn))
    have h2:(ms.take k).length≤k:=List.length_take_le _ _
    have h3:=HLEN.out
    have h4:=numL_len (in63_nat (n:=nl) (by omega))
    show (bs++numL nl++(ms.take k).flatMap Sv.elL).length≤700000
    rw [List.length_append,List.length_append];omega
   generalize ms.getD k Sv.dm=x at *
   generalize (ms.take k).flatMap Sv.elL=L at *
   obtain ⟨W2,hW2⟩:∃ W2,W2=wr.alloc (.cells #[.string x.node,.string x.idn,.string x.name,.string x.tag,.int .i64 x.addr,.int .i64 x.port,.bool x.passing,.int .i64 x.version,.bool x.gone] 42):=⟨_,rfl⟩
   have hb2:Below wr.heap.size wr W2:=by rw [hW2];exact (Below.refl _ _).alloc (Nat.le_refl _) _
   have hBr:B≤wr.heap.size:=Nat.le_trans hBw HK.out.size
   have hg2:W2.heap[wr.heap.size]?=some (.cells #[.string x.node,.string x.idn,.string x.name,.string x.tag,.int .i64 x.addr,.int .i64 x.port,.bool x.passing,.int .i64 x.version,.bool x.gone] 42 (0,0)):=by rw [hW2];exact heap_alloc_new wr _
   have HKW:Hid (Kp B b w W2):=HK.out.trans (Kp.of_below hb2 hBr)
   have HC:Hid (Calls Tryz.prog 291 #[.agg #[.string x.node,.string x.idn,.string x.name,.string x.tag,.int .i64 x.addr,.int .i64 x.port,.bool x.passing,.int .i64 x.version,.bool x.gone],.pointer (some ⟨wb,0,none⟩)] W2 fun e w'=>e=.returned (.tuple #[])∧IsW B b (bs++numL nl++L++Sv.elL x) w'∧Kp B b W2 w'):=Sv.wone_any B b wb x _ W2 (HW.out.below hb2) HLK.out (Nat.le_trans hBr hb2.size) (HT.out.below HKW.out.bel) (HKW.out.keeps HWB.out hne (by decide)) hne HXO.out
   generalize Sv.elL x=EX at *
   obtain ⟨x0,x1,x2,x3,x4,x5,x6,x7,x8⟩:=x
   simp only at c0 c1 c2 c3 c4 c5 c6 c7 c8 hg2 hW2 HC
   have d0:=(hbl _).trans c0
   have d1:=(hbl _).trans c1
   have d2:=(hbl _).trans c2
   have d3:=(hbl _).trans c3
   have d4:=(hbl _).trans c4
   have d5:=(hbl _).trans c5
   have d6:=(hbl _).trans c6
   have d7:=(hbl _).trans c7
   have d8:=(hbl _).trans c8
   clear hbl c0 c1 c2 c3 c4 c5 c6 c7 c8 hr hkl hb2 HXO HLK
   have hki:(k:Int) < (nl:Int):=by omega
   go_upto_region 4 with fail
   rw [← hW2]
   clear hW2 d0 d1 d2 d3 d4 d5 d6 d7 d8
   have z0:W2.cell? ⟨wr.heap.size,0,none⟩=some (.string x0):=cellsAt hg2 0
   have z1:W2.cell? ⟨wr.heap.size,1,none⟩=some (.string x1):=cellsAt hg2 1
   have z2:W2.cell? ⟨wr.heap.size,2,none⟩=some (.string x2):=cellsAt hg2 2
   have z3:W2.cell? ⟨wr.heap.size,3,none⟩=some (.string x3):=cellsAt hg2 3
   have z4:W2.cell? ⟨wr.heap.size,4,none⟩=some (.int .i64 x4):=cellsAt hg2 4
   have z5:W2.cell? ⟨wr.heap.size,5,none⟩=some (.int .i64 x5):=cellsAt hg2 5
   have z6:W2.cell? ⟨wr.heap.size,6,none⟩=some (.bool x6):=cellsAt hg2 6
   have z7:W2.cell? ⟨wr.heap.size,7,none⟩=some (.int .i64 x7):=cellsAt hg2 7
   have z8:W2.cell? ⟨wr.heap.size,8,none⟩=some (.bool x8):=cellsAt hg2 8
   clear hg2
   go_wp2_with fail
   refine HC.out.mono ?_
   rintro e w3 ⟨rfl,h3,hk3⟩
   have HW3:Hid (IsW B b (bs++numL nl++(L++EX)) w3):=(show IsW _ _ _ _ by rw [← List.append_assoc];exact h3)
   have HK3:Hid (Kp B b w w3):=HKW.out.trans hk3
   clear h3 hk3 z0 z1 z2 z3 z4 z5 z6 z7 z8
   go_wp2_with fail
   go_roundw
   case rel=>exact ⟨k+1,by omega,by go_num,by rw [HST.out];exact HW3,HK3⟩
   case measure=>simp [intOf];omega
  ·have HWE:Hid (IsW B b (bs++(numL nl++ms.flatMap Sv.elL)) wr):=by
    have h:=HW.out
    rw [List.take_of_length_le (by rw [HNL.out];omega),List.append_assoc] at h
    exact h
   have hki:¬ (k:Int) < (nl:Int):=by omega
   go_wp2_with fail
   simp [bodyPost,results,Tryz.results290]
   exact ⟨HWE.out,HK.out⟩
theorem Gw.els_len:∀ (ms:List Gw.Gwy),(∀ m∈ms,Gw.wok m)→(ms.flatMap Gw.elL).length≤2200 * ms.length
 | [],_=>by simp
 | x :: r,h=>by
   have h1:=Gw.elL_len (h x (by simp))
   have h2:=Gw.els_len r (fun m hm=>h m (by simp [hm]))
   rw [List.flatMap_cons,List.length_append,List.length_cons];omega
set_option maxHeartbeats 6400000 in
set_option maxRecDepth 100000 in
theorem Gw.wlist_any (B b wb:Nat) (ms:List Gw.Gwy) (v:Value) (bs:List Value) (w0 w:World) (h:IsW B b bs w) (hv:Gw.Sl w0 v ms) (hB:B=w0.heap.size) (hbel:Below B w0 w) (hml:ms.length≤50) (hlen:bs.length+2200 * ms.length≤600000) (hBw:B≤w.heap.size) (hT:Tab B w) (hwb:w.heap[wb]?=some (.cells #[.pointer (some ⟨b,0,none⟩)] 295 (0,0))) (hne:wb≠b) (hok:∀ m∈ms,Gw.wok m) :
 Calls Tryz.prog 292 #[.pointer (some ⟨b,0,none⟩),v,.func (.func 293) #[] #[.pointer (some ⟨wb,0,none⟩)]] w fun e w'=>e=.returned (.tuple #[])∧IsW B b (bs++(numL ms.length++ms.flatMap Gw.elL)) w'∧Kp B b w w':=by
 have eg:∀ args W,(callFunc 293 args).run Tryz.prog W=.ok (.enter 293 args) W:=enters_of Tryz.func293 (by kernel_rfl) rfl
 obtain ⟨pa,ca,rfl,_,hrow⟩:=hv
 have HR:Hid (ms=[]∨∃ b off,pa=some ⟨b,off,none⟩∧b < w0.heap.size∧Gw.Row w0 b off ms):=hrow
 have HBE:Hid (Below B w0 w):=hbel
 have HWB:Hid (w.heap[wb]?=some (.cells #[.pointer (some ⟨b,0,none⟩)] 295 (0,0))):=hwb
 have HOK:Hid (∀ m∈ms,Gw.wok m):=hok
 have HT:Hid (Tab B w):=hT
 have HI:Hid (IsW B b bs w):=h
 have HBQ:Hid (B=w0.heap.size):=hB
 clear hrow hbel hwb hok hT h hB
 generalize hnl:ms.length=nl at *
 have HNL:Hid (ms.length=nl):=hnl
 have HLEN:Hid (bs.length+2200 * nl≤600000):=hlen
 clear hnl hlen
 have HN0:Hid (Calls Tryz.prog 289 #[.pointer (some ⟨b,0,none⟩),.slice (some ⟨w.heap.size,0,none⟩) 1 1] (w.alloc (.cells #[.int .i64 (nl:Int)] 3)) fun e w'=>e=.returned (.tuple #[])∧IsW B b (bs++numL nl) w'∧Kp B b w w'):=by
  refine (wnums_at B b [(nl:Int)] bs w HI.out (by have:=HLEN.out;simp only [List.length_cons,List.length_nil];omega) hBw HT.out (fun n hn=>by simp at hn;rw [hn];exact in63_nat (by omega))).mono ?_
  rintro e w' ⟨rfl,h1,h2⟩
  exact ⟨rfl,by simpa using h1,h2⟩
 go_enter Tryz.func292,Tryz.ntmps292
 go_wp2_with fail
 refine HN0.out.mono ?_
 rintro e w1 ⟨rfl,h1,hk1⟩
 have HW1:Hid (IsW B b (bs++numL nl) w1):=h1
 have HK1:Hid (Kp B b w w1):=hk1
 clear h1 hk1 HN0
 go_wp2_with fail
 go_loopw [15] (fun i w'=>∃ k:Nat,k≤nl∧i=.int .i64 k∧Hid (IsW B b (bs++numL nl++(ms.take k).flatMap Gw.elL) w')∧Hid (Kp B b w w')) (fun i _=>nl - (intOf i).toNat)
 case atStart=>exact ⟨0,Nat.zero_le _,rfl,by simpa using HW1,HK1⟩
 case round=>
  obtain ⟨k,hk,rfl,HW,HK⟩:=hrel
  by_cases hlt:k < nl
  ·obtain ⟨g,o,hp,hgl,hr⟩:∃ b off,pa=some ⟨b,off,none⟩∧b < w0.heap.size∧Gw.Row w0 b off ms:=by
    rcases HR.out with h | h
    ·have:=HNL.out;rw [h] at this;simp at this;omega
    ·exact h
   subst hp
   have hkl:k < ms.length:=by rw [HNL.out];exact hlt
   obtain ⟨c0,c1,c2⟩:=hr k hkl
   have hbl:∀ o,wr.cell? ⟨g,o,none⟩=w0.cell? ⟨g,o,none⟩:=fun o=>(HBE.out.trans HK.out.bel).cell (p:=⟨g,o,none⟩) (by have:=HBQ.out;show g < B;omega)
   have HXO:Hid (Gw.wok (ms.getD k Gw.dm)):=HOK.out _ (by rw [show ms.getD k Gw.dm=ms[k] by simp [List.getD,List.getElem?_eq_getElem hkl]];exact List.getElem_mem _)
   have HST:Hid ((ms.take (k+1)).flatMap Gw.elL=(ms.take k).flatMap Gw.elL++Gw.elL (ms.getD k Gw.dm)):=by
    show List.flatMap Gw.elL _=_
    rw [List.take_succ_eq_append_getElem hkl,List.flatMap_append]
    simp [List.getD,List.getElem?_eq_getElem hkl]
   have HLK:Hid ((bs++numL nl++(ms.take k).flatMap Gw.elL).length≤700000):=by
    have h1:=Gw.els_len (ms.take k) (fun n hn=>HOK.out n (List.mem_of_mem_take hn))
    have h2:(ms.take k).length≤k:=List.length_take_le _ _
    have h3:=HLEN.out
    have h4:=numL_len (in63_nat (n:=nl) (by omega))
    show (bs++numL nl++(ms.take k).flatMap Gw.elL).length≤700000
    rw [List.length_append,List.length_append];omega
   generalize ms.getD k Gw.dm=x at *
   generalize (ms.take k).flatMap Gw.elL=L at *
   obtain ⟨W2,hW2⟩:∃ W2,W2=wr.alloc (.cells #[.string x.centre,.int .i64 x.addr,.int .i64 x.version] 107):=⟨_,rfl⟩
   have hb2:Below wr.heap.size wr W2:=by rw [hW2];exact (Below.refl _ _).alloc (Nat.le_refl _) _
   have hBr:B≤wr.heap.size:=Nat.le_trans hBw HK.out.size
   have hg2:W2.heap[wr.heap.size]?=some (.cells #[.string x.centre,.int .i64 x.addr,.int .i64 x.version] 107 (0,0)):=by rw [hW2];exact heap_alloc_new wr _
   have HKW:Hid (Kp B b w W2):=HK.out.trans (Kp.of_below hb2 hBr)
   have HC:Hid (Calls Tryz.prog 293 #[.agg #[.string x.centre,.int .i64 x.addr,.int .i64 x.version],.pointer (some ⟨wb,0,none⟩)] W2 fun e w'=>e=.returned (.tuple #[])∧IsW B b (bs++numL nl++L++Gw.elL x) w'∧Kp B b W2 w'):=Gw.wone_any B b wb x _ W2 (HW.out.below hb2) HLK.out (Nat.le_trans hBr hb2.size) (HT.out.below HKW.out.bel) (HKW.out.keeps HWB.out hne (by decide)) hne HXO.out
   generalize Gw.elL x=EX at *
   obtain ⟨x0,x1,x2⟩:=x
   simp only at c0 c1 c2 hg2 hW2 HC
   have d0:=(hbl _).trans c0
   have d1:=(hbl _).trans c1
   have d2:=(hbl _).trans c2
   clear hbl c0 c1 c2 hr hkl hb2 HXO HLK
   have hki:(k:Int) < (nl:Int):=by omega
   go_upto_region 4 with fail
   rw [← hW2]
   clear hW2 d0 d1 d2
   have z0:W2.cell? ⟨wr.heap.size,0,none⟩=some (.string x0):=cellsAt hg2 0
   have z1:W2.cell? ⟨wr.heap.size,1,none⟩=some (.int .i64 x1):=cellsAt hg2 1
   have z2:W2.cell? ⟨wr.heap.size,2,none⟩=some (.int .i64 x2):=cellsAt hg2 2
   clear hg2
   go_wp2_with fail
   refine HC.out.mono ?_
   rintro e w3 ⟨rfl,h3,hk3⟩
   have HW3:Hid (IsW B b (bs++numL nl++(L++EX)) w3):=(show IsW _ _ _ _ by rw [← List.append_assoc];exact h3)
   have HK3:Hid (Kp B b w w3):=HKW.out.trans hk3
   clear h3 hk3 z0 z1 z2
   go_wp2_with fail
   go_roundw
   case rel=>exact ⟨k+1,by omega,by go_num,by rw [HST.out];exact HW3,HK3⟩
   case measure=>simp [intOf];omega
  ·have HWE:Hid (IsW B b (bs++(numL nl++ms.flatMap Gw.elL)) wr):=by
    have h:=HW.out
    rw [List.take_of_length_le (by rw [HNL.out];omega),List.append_assoc] at h
    exact h
   have hki:¬ (k:Int) < (nl:Int):=by omega
   go_wp2_with fail
   simp [bodyPost,results,Tryz.results292]
   exact ⟨HWE.out,HK.out⟩
theorem Wh.els_len:∀ (ms:List Wh.Whe),(∀ m∈ms,Wh.wok m)→(ms.flatMap Wh.elL).length≤2200 * ms.length
 | [],_=>by simp
 | x :: r,h=>by
   have h1:=Wh.elL_len (h x (by simp))
   have h2:=Wh.els_len r (fun m hm=>h m (by simp [hm]))
   rw [List.flatMap_cons,List.length_append,List.length_cons];omega
set_option maxHeartbeats 6400000 in
set_option maxRecDepth 100000 in
theorem Wh.wlist_any (B b wb:Nat) (ms:List Wh.Whe) (v:Value) (bs:List Value) (w0 w:World) (h:IsW B b bs w) (hv:Wh.Sl w0 v ms) (hB:B=w0.heap.size) (hbel:Below B w0 w) (hml:ms.length≤50) (hlen:bs.length+2200 * ms.length≤600000) (hBw:B≤w.heap.size) (hT:Tab B w) (hwb:w.heap[wb]?=some (.cells #[.pointer (some ⟨b,0,none⟩)] 295 (0,0))) (hne:wb≠b) (hok:∀ m∈ms,Wh.wok m) :
 Calls Tryz.prog 294 #[.pointer (some ⟨b,0,none⟩),v,.func (.func 295) #[] #[.pointer (some ⟨wb,0,none⟩)]] w fun e w'=>e=.returned (.tuple #[])∧IsW B b (bs++(numL ms.length++ms.flatMap Wh.elL)) w'∧Kp B b w w':=by
 have eg:∀ args W,(callFunc 295 args).run Tryz.prog W=.ok (.enter 295 args) W:=enters_of Tryz.func295 (by kernel_rfl) rfl
 obtain ⟨pa,ca,rfl,_,hrow⟩:=hv
 have HR:Hid (ms=[]∨∃ b off,pa=some ⟨b,off,none⟩∧b < w0.heap.size∧Wh.Row w0 b off ms):=hrow
 have HBE:Hid (Below B w0 w):=hbel
 have HWB:Hid (w.heap[wb]?=some (.cells #[.pointer (some ⟨b,0,none⟩)] 295 (0,0))):=hwb
 have HOK:Hid (∀ m∈ms,Wh.wok m):=hok
 have HT:Hid (Tab B w):=hT
 have HI:Hid (IsW B b bs w):=h
 have HBQ:Hid (B=w0.heap.size):=hB
 clear hrow hbel hwb hok hT h hB
 generalize hnl:ms.length=nl at *
 have HNL:Hid (ms.length=nl):=hnl
 have HLEN:Hid (bs.length+2200 * nl≤600000):=hlen
 clear hnl hlen
 have HN0:Hid (Calls Tryz.prog 289 #[.pointer (some ⟨b,0,none⟩),.slice (some ⟨w.heap.size,0,none⟩) 1 1] (w.alloc (.cells #[.int .i64 (nl:Int)] 3)) fun e w'=>e=.returned (.tuple #[])∧IsW B b (bs++numL nl) w'∧Kp B b w w'):=by
  refine (wnums_at B b [(nl:Int)] bs w HI.out (by have:=HLEN.out;simp only [List.length_cons,List.length_nil];omega) hBw HT.out (fun n hn=>by simp at hn;rw [hn];exact in63_nat (by omega))).mono ?_
  rintro e w' ⟨rfl,h1,h2⟩
  exact ⟨rfl,by simpa using h1,h2⟩
 go_enter Tryz.func294,Tryz.ntmps294
 go_wp2_with fail
 refine HN0.out.mono ?_
 rintro e w1 ⟨rfl,h1,hk1⟩
 have HW1:Hid (IsW B b (bs++numL nl) w1):=h1
 have HK1:Hid (Kp B b w w1):=hk1
 clear h1 hk1 HN0
 go_wp2_with fail
 go_loopw [15] (fun i w'=>∃ k:Nat,k≤nl∧i=.int .i64 k∧Hid (IsW B b (bs++numL nl++(ms.take k).flatMap Wh.elL) w')∧Hid (Kp B b w w')) (fun i _=>nl - (intOf i).toNat)
 case atStart=>exact ⟨0,Nat.zero_le _,rfl,by simpa using HW1,HK1⟩
 case round=>
  obtain ⟨k,hk,rfl,HW,HK⟩:=hrel
  by_cases hlt:k < nl
  ·obtain ⟨g,o,hp,hgl,hr⟩:∃ b off,pa=some ⟨b,off,none⟩∧b < w0.heap.size∧Wh.Row w0 b off ms:=by
    rcases HR.out with h | h
    ·have:=HNL.out;rw [h] at this;simp at this;omega
    ·exact h
   subst hp
   have hkl:k < ms.length:=by rw [HNL.out];exact hlt
   obtain ⟨c0,c1,c2,c3,c4,c5⟩:=hr k hkl
   have hbl:∀ o,wr.cell? ⟨g,o,none⟩=w0.cell? ⟨g,o,none⟩:=fun o=>(HBE.out.trans HK.out.bel).cell (p:=⟨g,o,none⟩) (by have:=HBQ.out;show g < B;omega)
   have HXO:Hid (Wh.wok (ms.getD k Wh.dm)):=HOK.out _ (by rw [show ms.getD k Wh.dm=ms[k] by simp [List.getD,List.getElem?_eq_getElem hkl]];exact List.getElem_mem _)
   have HST:Hid ((ms.take (k+1)).flatMap Wh.elL=(ms.take k).flatMap Wh.elL++Wh.elL (ms.getD k Wh.dm)):=by
    show List.flatMap Wh.elL _=_
    rw [List.take_succ_eq_append_getElem hkl,List.flatMap_append]
    simp [List.getD,List.getElem?_eq_getElem hkl]
   have HLK:Hid ((bs++numL nl++(ms.take k).flatMap Wh.elL).length≤700000):=by
    have h1:=Wh.els_len (ms.take k) (fun n hn=>HOK.out n (List.mem_of_mem_take hn))
    have h2:(ms.take k).length≤k:=List.length_take_le _ _
    have h3:=HLEN.out
    have h4:=numL_len (in63_nat (n:=nl) (by omega))
    show (bs++numL nl++(ms.take k).flatMap Wh.elL).length≤700000
    rw [List.length_append,List.length_append];omega
   generalize ms.getD k Wh.dm=x at *
   generalize (ms.take k).flatMap Wh.elL=L at *
   obtain ⟨W2,hW2⟩:∃ W2,W2=wr.alloc (.cells #[.string x.node,.int .i64 x.x,.int .i64 x.y,.int .i64 x.z,.int .i64 x.h,.int .i64 x.s] 109):=⟨_,rfl⟩
   have hb2:Below wr.heap.size wr W2:=by rw [hW2];exact (Below.refl _ _).alloc (Nat.le_refl _) _
   have hBr:B≤wr.heap.size:=Nat.le_trans hBw HK.out.size
   have hg2:W2.heap[wr.heap.size]?=some (.cells #[.string x.node,.int .i64 x.x,.int .i64 x.y,.int .i64 x.z,.int .i64 x.h,.int .i64 x.s] 109 (0,0)):=by rw [hW2];exact heap_alloc_new wr _
   have HKW:Hid (Kp B b w W2):=HK.out.trans (Kp.of_below hb2 hBr)
   have HC:Hid (Calls Tryz.prog 295 #[.agg #[.string x.node,.int .i64 x.x,.int .i64 x.y,.int .i64 x.z,.int .i64 x.h,.int .i64 x.s],.pointer (some ⟨wb,0,none⟩)] W2 fun e w'=>e=.returned (.tuple #[])∧IsW B b (bs++numL nl++L++Wh.elL x) w'∧Kp B b W2 w'):=Wh.wone_any B b wb x _ W2 (HW.out.below hb2) HLK.out (Nat.le_trans hBr hb2.size) (HT.out.below HKW.out.bel) (HKW.out.keeps HWB.out hne (by decide)) hne HXO.out
   generalize Wh.elL x=EX at *
   obtain ⟨x0,x1,x2,x3,x4,x5⟩:=x
   simp only at c0 c1 c2 c3 c4 c5 hg2 hW2 HC
   have d0:=(hbl _).trans c0
   have d1:=(hbl _).trans c1
   have d2:=(hbl _).trans c2
   have d3:=(hbl _).trans c3
   have d4:=(hbl _).trans c4
   have d5:=(hbl _).trans c5
   clear hbl c0 c1 c2 c3 c4 c5 hr hkl hb2 HXO HLK
   have hki:(k:Int) < (nl:Int):=by omega
   go_upto_region 4 with fail
   rw [← hW2]
   clear hW2 d0 d1 d2 d3 d4 d5
   have z0:W2.cell? ⟨wr.heap.size,0,none⟩=some (.string x0):=cellsAt hg2 0
   have z1:W2.cell? ⟨wr.heap.size,1,none⟩=some (.int .i64 x1):=cellsAt hg2 1
   have z2:W2.cell? ⟨wr.heap.size,2,none⟩=some (.int .i64 x2):=cellsAt hg2 2
   have z3:W2.cell? ⟨wr.heap.size,3,none⟩=some (.int .i64 x3):=cellsAt hg2 3
   have z4:W2.cell? ⟨wr.heap.size,4,none⟩=some (.int .i64 x4):=cellsAt hg2 4
   have z5:W2.cell? ⟨wr.heap.size,5,none⟩=some (.int .i64 x5):=cellsAt hg2 5
   clear hg2
   go_wp2_with fail
   refine HC.out.mono ?_
   rintro e w3 ⟨rfl,h3,hk3⟩
   have HW3:Hid (IsW B b (bs++numL nl++(L++EX)) w3):=(show IsW _ _ _ _ by rw [← List.append_assoc];exact h3)
   have HK3:Hid (Kp B b w w3):=HKW.out.trans hk3
   clear h3 hk3 z0 z1 z2 z3 z4 z5
   go_wp2_with fail
   go_roundw
   case rel=>exact ⟨k+1,by omega,by go_num,by rw [HST.out];exact HW3,HK3⟩
   case measure=>simp [intOf];omega
  ·have HWE:Hid (IsW B b (bs++(numL nl++ms.flatMap Wh.elL)) wr):=by
    have h:=HW.out
    rw [List.take_of_length_le (by rw [HNL.out];omega),List.append_assoc] at h
    exact h
   have hki:¬ (k:Int) < (nl:Int):=by omega
   go_wp2_with fail
   simp [bodyPost,results,Tryz.results294]
   exact ⟨HWE.out,HK.out⟩
end Go.Proofs.YtffdoiokmiklgaaGreatDoor
