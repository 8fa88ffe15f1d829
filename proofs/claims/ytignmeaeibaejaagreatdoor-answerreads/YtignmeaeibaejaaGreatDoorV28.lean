import Derived.Test.YtignmeaeibaejaaGreatDoorV8
import Derived.Lib.SmallJoins
import Derived.Deep.RegionHeld3
import Derived.StillTactics
import Derived.Test.YtignmeaeibaejaaGreatDoorV16
import Derived.Test.YtignmeaeibaejaaGreatDoorV25
namespace Go.Proofs.YtignmeaeibaejaaGreatDoor
open Go.RowKit Go.Lib
structure St (g:Nat) (t:ByteArray) (w:World) (T:TypeId) (zs:Array Value) (a:Nat) (cs:Array Value) (W:World):Prop where
 isR:IsR g t a W
 rd:Rd g w W
 qx:W.heap[w.heap.size]?=some (.cells zs T (0,0))
 bx:W.heap[w.heap.size+1]?=some (.cells cs T (0,0))
 lt:g < w.heap.size
theorem St.call {g a b:Nat} {t:ByteArray} {w W W':World} {T:TypeId} {zs cs:Array Value} (h:St g t w T zs a cs W) (h1:Hid (IsR g t b W')) (h2:Hid (Rd g W W')):St g t w T zs b cs W':=
 ⟨h1.out,h.rd.trans h2.out,(h2.out.block _ (Array.getElem?_eq_some_iff.1 h.qx).1 (by have:=h.lt;omega)).trans h.qx,(h2.out.block _ (Array.getElem?_eq_some_iff.1 h.bx).1 (by have:=h.lt;omega)).trans h.bx,h.lt⟩
theorem St.keep {g a:Nat} {t:ByteArray} {w W W':World} {T:TypeId} {zs cs:Array Value} (h:St g t w T zs a cs W) (h1:W.Extends W'):St g t w T zs a cs W':=
 h.call (h.isR.ext h1) (Rd.ext h1:Rd g W W')
theorem St.store {g a:Nat} {t:ByteArray} {w W:World} {T:TypeId} {zs cs:Array Value} (h:St g t w T zs a cs W) (i:Nat) (v:Value):St g t w T zs a (cs.setIfInBounds i v) (W.setCell ⟨w.heap.size+1,i,none⟩ v) where
 isR:=⟨(World.cell?_setCell_other _ _ _ _ (by have:=h.lt;intro e;simp at e)).trans h.isR.c0,(World.cell?_setCell_other _ _ _ _ (by have:=h.lt;intro e;simp at e)).trans h.isR.c1,by simpa using h.isR.hz,by simpa using h.isR.hg⟩
 rd:=⟨h.rd.os,h.rd.tape,h.rd.output,by simpa using h.rd.size,fun k hk hg=>(Below.heap_setCell W _ v k (by simp;omega)).trans (h.rd.block k hk hg)⟩
 qx:=(Below.heap_setCell W _ v _ (by simp)).trans h.qx
 bx:=Joins.block_setCell h.bx v
 lt:=h.lt
theorem St.cell {g a:Nat} {t:ByteArray} {w W:World} {T:TypeId} {zs cs:Array Value} (h:St g t w T zs a cs W) (i:Nat):W.cell? ⟨w.heap.size+1,i,none⟩=cs[i]?:=cellsAt h.bx i
theorem St.free {g a:Nat} {t:ByteArray} {w W:World} {T:TypeId} {zs cs:Array Value} (h:St g t w T zs a cs W) (i:Nat):W.frozen? ⟨w.heap.size+1,i,none⟩=false:=by simp [World.frozen?,h.bx]
theorem St.qcell {g a:Nat} {t:ByteArray} {w W:World} {T:TypeId} {zs cs:Array Value} (h:St g t w T zs a cs W) (i:Nat):W.cell? ⟨w.heap.size,i,none⟩=zs[i]?:=cellsAt h.qx i
theorem St.qfree {g a:Nat} {t:ByteArray} {w W:World} {T:TypeId} {zs cs:Array Value} (h:St g t w T zs a cs W) (i:Nat):W.frozen? ⟨w.heap.size,i,none⟩=false:=by simp [World.frozen?,h.qx]
theorem Rd.put {g b:Nat} {w W:World} (h:Rd g w W) (i:Nat) (v:Value) (hb:w.heap.size≤b):Rd g w (W.setCell ⟨b,i,none⟩ v):=
 ⟨h.os,h.tape,h.output,by simpa using h.size,fun k hk hg=>(Below.heap_setCell W _ v k (by simp;omega)).trans (h.block k hk hg)⟩
abbrev zmsg:Array Value:=#[.int .i64 0,.bool false,.bool false,.int .i64 0,.string ⟨#[]⟩,.int .i64 0,.slice none 0 0]
set_option maxHeartbeats 1600000 in
set_option maxRecDepth 100000 in
theorem rmessage_none (g id code typ p:Nat) (ls:List ByteArray) (t:ByteArray) (w:World) (h:IsR g t 0 w) (hs:t.size≤1000)
 (e0:rnum t 0 2=id) (e2:rnum t 2 1=0) (e3:rnum t 3 1=code) (e4:rnum t 4 2=1) (e6:rnum t 6 2=0) (e8:rnum t 8 2=0) (e10:rnum t 10 2=0) (hst:Stand t 12 ls) (hlab:∀ l∈ls,labB l=true) (hn:ls.length≤8) (hz:(jn (ls.map bts)).length≤100000) (hp:behind 12 ls+1=p) (ep:rnum t p 2=typ) (eq:rnum t (p+2) 2=1) (h12:12≤p) (hsz:p+4=t.size) :
 Calls Tryz.prog 25 #[.pointer (some ⟨g,0,none⟩)] w fun e w'=>e=.returned (msgV id code typ false false (mk (jn (ls.map bts))))∧Hid (Rd g w w'):=by
 have HN:Hid (∀ W,IsR g t 12 W→Calls Tryz.prog 62 #[.pointer (some ⟨g,0,none⟩)] W fun e w'=>e=.returned (.string (mk (jn (ls.map bts))))∧Hid (IsR g t p w')∧Hid (Rd g W w')):=fun W hW=>by
  subst hp
  exact name_ok g 12 ls t W hW hs hst hlab hn hz
 have HI:Hid (IsR g t 0 w):=h
 have hg:=h.hg
 have E0:Hid (rnum t 0 2=id):=e0
 have E2:Hid (rnum t 2 1=0):=e2
 have E3:Hid (rnum t 3 1=code):=e3
 have E4:Hid (rnum t 4 2=1):=e4
 have E6:Hid (rnum t 6 2=0):=e6
 have E8:Hid (rnum t 8 2=0):=e8
 have E10:Hid (rnum t 10 2=0):=e10
 have EP:Hid (rnum t p 2=typ):=ep
 have EQ:Hid (rnum t (p+2) 2=1):=eq
 have HZ:Hid (p+4=t.size):=hsz
 have hp1:p+4≤t.size:=Nat.le_of_eq hsz
 clear h e0 e2 e3 e4 e6 e8 e10 ep eq hst hlab hn hz hp hsz
 generalize mk (jn (ls.map bts))=R at *
 go_enter Tryz.func25,Tryz.ntmps25
 go_wp2_with fail
 obtain ⟨w0,hw0⟩:∃ w0,w0=(w.alloc (.cells zmsg 38)).alloc (.cells zmsg 38):=⟨_,rfl⟩
 rw [← hw0]
 have S0:Hid (St g t w 38 zmsg 0 zmsg w0):=(show St _ _ _ _ _ _ _ _ by
  have hx:w.Extends w0:=by rw [hw0];exact ((World.Extends.refl w).alloc _).alloc _
  refine ⟨HI.out.ext hx,Rd.ext hx,?_,?_,hg⟩
  ·rw [hw0]
   exact (Lib.alloc_old _ _ _ (by simp)).trans (heap_alloc_new w _)
  ·rw [hw0]
   have:=heap_alloc_new (w.alloc (.cells zmsg 38)) (.cells zmsg 38)
   simpa using this)
 clear hw0
 refine (number_r g 0 2 t w0 S0.out.isR hs (by omega) (by omega)).mono ?_
 rintro e w1 ⟨rfl,h1,h2⟩
 rw [E0.out]
 have S1:Hid (St g t w 38 zmsg 2 zmsg w1):=S0.out.call h1 h2
 have z1:=S1.out.free 0
 have c1:w1.cell? ⟨w.heap.size+1,0,none⟩=some (.int .i64 0):=S1.out.cell 0
 clear h1 h2 S0
 go_wp2_with fail
 have S2:Hid (St g t w 38 zmsg 2 #[.int .i64 id,.bool false,.bool false,.int .i64 0,.string ⟨#[]⟩,.int .i64 0,.slice none 0 0] (w1.setCell ⟨w.heap.size+1,0,none⟩ (.int .i64 id))):=S1.out.store 0 (.int .i64 id)
 refine (number_r g 2 1 t _ S2.out.isR hs (by omega) (by omega)).mono ?_
 rintro e w2 ⟨rfl,h1,h2⟩
 rw [E2.out]
 have S3:Hid (St g t w 38 zmsg 3 #[.int .i64 id,.bool false,.bool false,.int .i64 0,.string ⟨#[]⟩,.int .i64 0,.slice none 0 0] w2):=S2.out.call h1 h2
 have z1:=S3.out.free 1
 have z2:=S3.out.free 2
 have c0:w2.cell? ⟨w.heap.size+1,0,none⟩=some (.int .i64 id):=S3.out.cell 0
 have c1:w2.cell? ⟨w.heap.size+1,1,none⟩=some (.bool false):=S3.out.cell 1
 have c2:w2.cell? ⟨w.heap.size+1,2,none⟩=some (.bool false):=S3.out.cell 2
 have c3:w2.cell? ⟨w.heap.size+1,3,none⟩=some (.int .i64 0):=S3.out.cell 3
 have c4:w2.cell? ⟨w.heap.size+1,4,none⟩=some (.string ⟨#[]⟩):=S3.out.cell 4
 have c5:w2.cell? ⟨w.heap.size+1,5,none⟩=some (.int .i64 0):=S3.out.cell 5
 have c6:w2.cell? ⟨w.heap.size+1,6,none⟩=some (.slice none 0 0):=S3.out.cell 6
 have hb1:bits .and .i64 0 128=0:=by decide
 have hb2:bits .and .i64 0 2=0:=by decide
 clear h1 h2 S1 S2
 go_wp2_with fail
 have S4:Hid (St g t w 38 zmsg 3 #[.int .i64 id,.bool false,.bool false,.int .i64 0,.string ⟨#[]⟩,.int .i64 0,.slice none 0 0] ((w2.setCell ⟨w.heap.size+1,1,none⟩ (.bool false)).setCell ⟨w.heap.size+1,2,none⟩ (.bool false))):=(S3.out.store 1 (.bool false)).store 2 (.bool false)
 refine (flags_any id 0 0 false false ⟨#[]⟩ _).mono ?_
 rintro e w3 ⟨rfl,o,hw3⟩
 rw [show flg false false=0 from rfl]
 have S5:Hid (St g t w 38 zmsg 3 #[.int .i64 id,.bool false,.bool false,.int .i64 0,.string ⟨#[]⟩,.int .i64 0,.slice none 0 0] w3):=(show St _ _ _ _ _ _ _ _ by rw [hw3];exact S4.out.keep ((World.Extends.refl _).alloc _))
 clear hw3 z1 z2 c0 c1 c2 c3 c4 c5 c6 S3 S4
 go_wp2_with fail
 refine (need_ok _ _).mono ?_
 rintro e w4 ⟨rfl,hw4⟩
 subst hw4
 go_wp2_with fail
 refine (number_r g 3 1 t _ S5.out.isR hs (by omega) (by omega)).mono ?_
 rintro e w5 ⟨rfl,h1,h2⟩
 rw [E3.out]
 have S6:Hid (St g t w 38 zmsg 4 #[.int .i64 id,.bool false,.bool false,.int .i64 0,.string ⟨#[]⟩,.int .i64 0,.slice none 0 0] w5):=S5.out.call h1 h2
 have z3:=S6.out.free 3
 have c3:w5.cell? ⟨w.heap.size+1,3,none⟩=some (.int .i64 0):=S6.out.cell 3
 clear h1 h2 S5
 go_wp2_with fail
 have S7:Hid (St g t w 38 zmsg 4 #[.int .i64 id,.bool false,.bool false,.int .i64 code,.string ⟨#[]⟩,.int .i64 0,.slice none 0 0] (w5.setCell ⟨w.heap.size+1,3,none⟩ (.int .i64 code))):=S6.out.store 3 (.int .i64 code)
 refine (expect_r g 4 2 1 t _ S7.out.isR hs (by omega) (by omega) E4.out).mono ?_
 rintro e w6 ⟨rfl,h1,h2⟩
 have S8:Hid (St g t w 38 zmsg 6 #[.int .i64 id,.bool false,.bool false,.int .i64 code,.string ⟨#[]⟩,.int .i64 0,.slice none 0 0] w6):=S7.out.call h1 h2
 clear h1 h2 S6 S7 z3 c3
 go_wp2_with fail
 refine (number_r g 6 2 t _ S8.out.isR hs (by omega) (by omega)).mono ?_
 rintro e w7 ⟨rfl,h1,h2⟩
 rw [E6.out]
 have S9:Hid (St g t w 38 zmsg 8 #[.int .i64 id,.bool false,.bool false,.int .i64 code,.string ⟨#[]⟩,.int .i64 0,.slice none 0 0] w7):=S8.out.call h1 h2
 clear h1 h2 S8
 go_wp2_with fail
 refine (expect_r g 8 2 0 t _ S9.out.isR hs (by omega) (by omega) E8.out).mono ?_
 rintro e w8 ⟨rfl,h1,h2⟩
 have SA:Hid (St g t w 38 zmsg 10 #[.int .i64 id,.bool false,.bool false,.int .i64 code,.string ⟨#[]⟩,.int .i64 0,.slice none 0 0] w8):=S9.out.call h1 h2
 clear h1 h2 S9
 go_wp2_with fail
 refine (expect_r g 10 2 0 t _ SA.out.isR hs (by omega) (by omega) E10.out).mono ?_
 rintro e w9 ⟨rfl,h1,h2⟩
 have SB:Hid (St g t w 38 zmsg 12 #[.int .i64 id,.bool false,.bool false,.int .i64 code,.string ⟨#[]⟩,.int .i64 0,.slice none 0 0] w9):=SA.out.call h1 h2
 clear h1 h2 SA
 go_wp2_with fail
 refine (HN.out _ SB.out.isR).mono ?_
 rintro e wa ⟨rfl,h1,h2⟩
 have SC:Hid (St g t w 38 zmsg p #[.int .i64 id,.bool false,.bool false,.int .i64 code,.string ⟨#[]⟩,.int .i64 0,.slice none 0 0] wa):=SB.out.call h1 h2
 have z4:=SC.out.free 4
 have c4:wa.cell? ⟨w.heap.size+1,4,none⟩=some (.string ⟨#[]⟩):=SC.out.cell 4
 clear h1 h2 SB
 go_wp2_with fail
 have SD:Hid (St g t w 38 zmsg p #[.int .i64 id,.bool false,.bool false,.int .i64 code,.string R,.int .i64 0,.slice none 0 0] (wa.setCell ⟨w.heap.size+1,4,none⟩ (.string R))):=SC.out.store 4 (.string R)
 refine (number_r g p 2 t _ SD.out.isR hs (by omega) (by omega)).mono ?_
 rintro e wb ⟨rfl,h1,h2⟩
 rw [EP.out]
 have SE:Hid (St g t w 38 zmsg (p+2) #[.int .i64 id,.bool false,.bool false,.int .i64 code,.string R,.int .i64 0,.slice none 0 0] wb):=SD.out.call h1 h2
 have z5:=SE.out.free 5
 have c5:wb.cell? ⟨w.heap.size+1,5,none⟩=some (.int .i64 0):=SE.out.cell 5
 clear h1 h2 SC SD z4 c4
 go_wp2_with fail
 have SF:Hid (St g t w 38 zmsg (p+2) #[.int .i64 id,.bool false,.bool false,.int .i64 code,.string R,.int .i64 typ,.slice none 0 0] (wb.setCell ⟨w.heap.size+1,5,none⟩ (.int .i64 typ))):=SE.out.store 5 (.int .i64 typ)
 refine (expect_r g (p+2) 2 1 t _ SF.out.isR hs (by omega) (by omega) EQ.out).mono ?_
 rintro e wc ⟨rfl,h1,h2⟩
 have SG:Hid (St g t w 38 zmsg (p+4) #[.int .i64 id,.bool false,.bool false,.int .i64 code,.string R,.int .i64 typ,.slice none 0 0] wc):=SF.out.call h1 h2
 have ct:wc.cell? ⟨g,0,none⟩=some (.string t):=SG.out.isR.c0
 have ca:wc.cell? ⟨g,1,none⟩=some (.int .i64 t.size):=(show wc.cell? ⟨g,1,none⟩=some (.int .i64 t.size) by
  rw [← HZ.out];exact SG.out.isR.c1)
 clear h1 h2 SE SF z5 c5
 go_wp2_with fail
 have m0:wc.cell? ⟨w.heap.size+1,0,none⟩=some (.int .i64 id):=SG.out.cell 0
 have m1:wc.cell? ⟨w.heap.size+1,1,none⟩=some (.bool false):=SG.out.cell 1
 have m2:wc.cell? ⟨w.heap.size+1,2,none⟩=some (.bool false):=SG.out.cell 2
 have m3:wc.cell? ⟨w.heap.size+1,3,none⟩=some (.int .i64 code):=SG.out.cell 3
 have m4:wc.cell? ⟨w.heap.size+1,4,none⟩=some (.string R):=SG.out.cell 4
 have m5:wc.cell? ⟨w.heap.size+1,5,none⟩=some (.int .i64 typ):=SG.out.cell 5
 have m6:wc.cell? ⟨w.heap.size+1,6,none⟩=some (.slice none 0 0):=SG.out.cell 6
 have q0:wc.cell? ⟨w.heap.size,0,none⟩=some (.int .i64 0):=SG.out.qcell 0
 have y0:=SG.out.qfree 0
 have q1:wc.cell? ⟨w.heap.size,1,none⟩=some (.bool false):=SG.out.qcell 1
 have y1:=SG.out.qfree 1
 have q2:wc.cell? ⟨w.heap.size,2,none⟩=some (.bool false):=SG.out.qcell 2
 have y2:=SG.out.qfree 2
 have q3:wc.cell? ⟨w.heap.size,3,none⟩=some (.int .i64 0):=SG.out.qcell 3
 have y3:=SG.out.qfree 3
 have q4:wc.cell? ⟨w.heap.size,4,none⟩=some (.string ⟨#[]⟩):=SG.out.qcell 4
 have y4:=SG.out.qfree 4
 have q5:wc.cell? ⟨w.heap.size,5,none⟩=some (.int .i64 0):=SG.out.qcell 5
 have y5:=SG.out.qfree 5
 have q6:wc.cell? ⟨w.heap.size,6,none⟩=some (.slice none 0 0):=SG.out.qcell 6
 have y6:=SG.out.qfree 6
 go_loopw [46] (fun i wr=>i=.int .i64 0∧wr=wc) (fun _ _=>0)
 case atStart=>exact ⟨rfl,rfl⟩
 case round=>
  obtain ⟨rfl,hwr⟩:=hrel
  subst hwr
  go_wp2_with fail
  go_region_held3 (fun w'=>w'.cell? ⟨g,0,none⟩=some (.string t)∧w'.cell? ⟨g,1,none⟩=some (.int .i64 t.size)) (go_keep) (first | (go_at_call 52;refine (need_ok _ _).mono ?_;rintro e w5 ⟨rfl,rfl⟩) | fail)
  go_wp2_with fail
  refine bodyPost_ret (v:=msgV id code typ false false R) ?_ rfl ⟨rfl,?_⟩
  ·simp [results,Tryz.results25,go_sem,q0,q1,q2,q3,q4,q5,q6]
  ·exact (Rd.trans (((((((SG.out.rd.put 0 _ (Nat.le_refl _)).put 1 _ (Nat.le_refl _)).put 2 _ (Nat.le_refl _)).put 3 _ (Nat.le_refl _)).put 4 _ (Nat.le_refl _)).put 5 _ (Nat.le_refl _)).put 6 _ (Nat.le_refl _)) (Rd.ext (World.Extends.refl _).drew):Rd g w _)
structure Reads (t:ByteArray) (id code typ:Nat) (R:ByteArray):Prop where
 go:∀ (g:Nat) (w:World),IsR g t 0 w→Calls Tryz.prog 25 #[.pointer (some ⟨g,0,none⟩)] w fun e w'=>e=.returned (msgV id code typ false false R)∧Hid (Rd g w w')
theorem frozenAt {W:World} {g:Nat} {cs:Array Value} {T:TypeId} (h:W.heap[g]?=some (.cells cs T (0,0))) (i:Nat):W.frozen? ⟨g,i,none⟩=false:=by simp [World.frozen?,h]
theorem Rd.here {g:Nat} {w W:World} (h:Rd g w W) (i:Nat) (v:Value):Rd g w (W.setCell ⟨g,i,none⟩ v):=
 ⟨h.os,h.tape,h.output,by simpa using h.size,fun k hk hg=>(Below.heap_setCell W _ v k (by simpa using hg)).trans (h.block k hk hg)⟩
set_option maxHeartbeats 1600000 in
set_option maxRecDepth 100000 in
theorem read1_ok (gs gm id code typ:Nat) (R t:ByteArray) (w:World) (hr:Reads t id code typ R) (hgs:w.heap[gs]?=some (.cells #[.string t] 9 (0,0))) (hgm:w.heap[gm]?=some (.cells zmsg 38 (0,0))) (h1:within (id:Int) 0 65535=true) (h2:within (code:Int) 0 15=true) (hs:R.size≤maxLen) (hn:chkN R=0) (ht:(decide ((typ:Int)=1) || decide ((typ:Int)=16) || decide ((typ:Int)=33))=true) :
 Calls Tryz.prog 24 #[.pointer (some ⟨gs,0,none⟩),.pointer (some ⟨gm,0,none⟩)] w fun r w'=>r=.returned (.tuple #[])∧Hid (Rd gm w w')∧Hid (w'.heap[gm]?=some (.cells #[.int .i64 id,.bool false,.bool false,.int .i64 code,.string R,.int .i64 typ,.slice none 0 0] 38 (0,0))):=by
 have HC:Hid (∀ W,Calls Tryz.prog 22 #[.agg #[.int .i64 id,.bool false,.bool false,.int .i64 code,.string R,.int .i64 typ,.slice none 0 0]] W fun r w'=>r=.returned (.tuple #[])∧Below W.heap.size W w'):=fun W=>dcheck_none id code typ false false R W h1 h2 hs hn ht
 have HR:Hid (Reads t id code typ R):=hr
 have cs:w.cell? ⟨gs,0,none⟩=some (.string t):=cellsAt hgs 0
 clear h1 h2 hs hn ht hr hgs
 have hlt:gm < w.heap.size:=(Array.getElem?_eq_some_iff.1 hgm).1
 have HGM:Hid (w.heap[gm]?=some (.cells zmsg 38 (0,0))):=hgm
 clear hgm
 go_enter Tryz.func24,Tryz.ntmps24
 go_wp2_with fail
 have hx0:w.Extends (w.alloc (.cells #[.string t,.int .i64 0] 64)):=(World.Extends.refl w).alloc _
 have hr0:(w.alloc (.cells #[.string t,.int .i64 0] 64)).heap[w.heap.size]?=some (.cells #[.string t,.int .i64 0] 64 (0,0)):=heap_alloc_new w _
 refine (HR.out.go w.heap.size _ ⟨cellsAt hr0 0,cellsAt hr0 1,frozenAt hr0 1,by simp⟩).mono ?_
 rintro e w1 ⟨rfl,h2⟩
 have hb1:Below w.heap.size w w1:=((Below.refl _ _).alloc (Nat.le_refl _) _).trans (h2.out.below (Nat.le_refl _) (by simp))
 have HD1:Hid (Rd gm w w1):=Rd.of_below hb1 (Nat.le_refl _)
 have hg1:w1.heap[gm]?=some (.cells zmsg 38 (0,0)):=(hb1.block gm hlt).trans HGM.out
 have hl1:gm < w1.heap.size:=(Array.getElem?_eq_some_iff.1 hg1).1
 have c0:w1.cell? ⟨gm,0,none⟩=some (.int .i64 0):=cellsAt hg1 0
 have z0:w1.frozen? ⟨gm,0,none⟩=false:=by simp [World.frozen?,hg1]
 have c1:w1.cell? ⟨gm,1,none⟩=some (.bool false):=cellsAt hg1 1
 have z1:w1.frozen? ⟨gm,1,none⟩=false:=by simp [World.frozen?,hg1]
 have c2:w1.cell? ⟨gm,2,none⟩=some (.bool false):=cellsAt hg1 2
 have z2:w1.frozen? ⟨gm,2,none⟩=false:=by simp [World.frozen?,hg1]
 have c3:w1.cell? ⟨gm,3,none⟩=some (.int .i64 0):=cellsAt hg1 3
 have z3:w1.frozen? ⟨gm,3,none⟩=false:=by simp [World.frozen?,hg1]
 have c4:w1.cell? ⟨gm,4,none⟩=some (.string ⟨#[]⟩):=cellsAt hg1 4
 have z4:w1.frozen? ⟨gm,4,none⟩=false:=by simp [World.frozen?,hg1]
 have c5:w1.cell? ⟨gm,5,none⟩=some (.int .i64 0):=cellsAt hg1 5
 have z5:w1.frozen? ⟨gm,5,none⟩=false:=by simp [World.frozen?,hg1]
 have c6:w1.cell? ⟨gm,6,none⟩=some (.slice none 0 0):=cellsAt hg1 6
 have z6:w1.frozen? ⟨gm,6,none⟩=false:=by simp [World.frozen?,hg1]
 have HG2:Hid ((((((((w1.setCell ⟨gm,0,none⟩ (.int .i64 id)).setCell ⟨gm,1,none⟩ (.bool false)).setCell ⟨gm,2,none⟩ (.bool false)).setCell ⟨gm,3,none⟩ (.int .i64 code)).setCell ⟨gm,4,none⟩ (.string R)).setCell ⟨gm,5,none⟩ (.int .i64 typ)).setCell ⟨gm,6,none⟩ (.slice none 0 0)).heap[gm]?=some (.cells #[.int .i64 id,.bool false,.bool false,.int .i64 code,.string R,.int .i64 typ,.slice none 0 0] 38 (0,0))):=(Joins.block_setCell (i:=6) (Joins.block_setCell (i:=5) (Joins.block_setCell (i:=4) (Joins.block_setCell (i:=3) (Joins.block_setCell (i:=2) (Joins.block_setCell (i:=1) (Joins.block_setCell (i:=0) hg1 (.int .i64 id)) (.bool false)) (.bool false)) (.int .i64 code)) (.string R)) (.int .i64 typ)) (.slice none 0 0))
 have HD2:Hid (Rd gm w (((((((w1.setCell ⟨gm,0,none⟩ (.int .i64 id)).setCell ⟨gm,1,none⟩ (.bool false)).setCell ⟨gm,2,none⟩ (.bool false)).setCell ⟨gm,3,none⟩ (.int .i64 code)).setCell ⟨gm,4,none⟩ (.string R)).setCell ⟨gm,5,none⟩ (.int .i64 typ)).setCell ⟨gm,6,none⟩ (.slice none 0 0))):=((((((((HD1.out).here 0 _).here 1 _).here 2 _).here 3 _).here 4 _).here 5 _).here 6 _)
 clear h2 hb1 hx0 hr0 hg1 HD1
 go_wp2_with fail
 refine (HC.out _).mono ?_
 rintro e w2 ⟨rfl,hb2⟩
 have HB2:Hid (Below (((((((w1.setCell ⟨gm,0,none⟩ (.int .i64 id)).setCell ⟨gm,1,none⟩ (.bool false)).setCell ⟨gm,2,none⟩ (.bool false)).setCell ⟨gm,3,none⟩ (.int .i64 code)).setCell ⟨gm,4,none⟩ (.string R)).setCell ⟨gm,5,none⟩ (.int .i64 typ)).setCell ⟨gm,6,none⟩ (.slice none 0 0)).heap.size (((((((w1.setCell ⟨gm,0,none⟩ (.int .i64 id)).setCell ⟨gm,1,none⟩ (.bool false)).setCell ⟨gm,2,none⟩ (.bool false)).setCell ⟨gm,3,none⟩ (.int .i64 code)).setCell ⟨gm,4,none⟩ (.string R)).setCell ⟨gm,5,none⟩ (.int .i64 typ)).setCell ⟨gm,6,none⟩ (.slice none 0 0)) w2):=hb2
 clear hb2
 go_wp2_with fail
 simp [bodyPost,results,Tryz.results24]
 refine ⟨HD2.out.trans (Rd.of_below HB2.out (Nat.le_refl _)),?_⟩
 exact (HB2.out.block gm (by simp;exact hl1)).trans HG2.out
set_option maxHeartbeats 1600000 in
set_option maxRecDepth 100000 in
theorem read_none (id code typ:Nat) (R t:ByteArray) (w:World) (hr:Reads t id code typ R) (hl:t.size≤512) (h1:within (id:Int) 0 65535=true) (h2:within (code:Int) 0 15=true) (hs:R.size≤maxLen) (hn:chkN R=0) (ht:(decide ((typ:Int)=1) || decide ((typ:Int)=16) || decide ((typ:Int)=33))=true) :
 Calls Tryz.prog 11 #[.string t] w fun e w'=>e=.returned (.tuple #[msgV id code typ false false R,.int .i64 0])∧Below w.heap.size w w':=by
 have HW1:Hid (∀ (gs gm:Nat) (W:World),W.heap[gs]?=some (.cells #[.string t] 9 (0,0))→W.heap[gm]?=some (.cells zmsg 38 (0,0))→Calls Tryz.prog 24 #[.pointer (some ⟨gs,0,none⟩),.pointer (some ⟨gm,0,none⟩)] W fun r w'=>r=.returned (.tuple #[])∧Hid (Rd gm W w')∧Hid (w'.heap[gm]?=some (.cells #[.int .i64 id,.bool false,.bool false,.int .i64 code,.string R,.int .i64 typ,.slice none 0 0] 38 (0,0)))):=fun gs gm W hgs hgm=>read1_ok gs gm id code typ R t W hr hgs hgm h1 h2 hs hn ht
 have ef:∀ args W,(callFunc 24 args).run Tryz.prog W=.ok (.enter 24 args) W:=enters_of Tryz.func24 (by kernel_rfl) rfl
 have hcmp:decide (512 < (t.size:Int))=false:=by simp;omega
 clear h1 h2 hs hn ht hl hr
 go_enter Tryz.func11,Tryz.ntmps11
 go_wp2_with fail
 obtain ⟨w0,hw0⟩:∃ w0,w0=((w.alloc (.cells #[.string t] 9)).alloc (.cells zmsg 38)).alloc (.cells zmsg 38):=⟨_,rfl⟩
 rw [← hw0]
 have hn0:w0.heap.size=w.heap.size+1+1+1:=by rw [hw0];simp
 have HB0:Hid (Below w.heap.size w w0):=(show Below _ _ _ by rw [hw0];exact (((Below.refl _ _).alloc (Nat.le_refl _) _).alloc (by simp) _).alloc (by simp;omega) _)
 have hgs:w0.heap[w.heap.size]?=some (.cells #[.string t] 9 (0,0)):=by
  rw [hw0]
  exact (Lib.alloc_old _ _ _ (by simp;omega)).trans ((Lib.alloc_old _ _ _ (by simp)).trans (heap_alloc_new w _))
 have hgq:w0.heap[w.heap.size+1]?=some (.cells zmsg 38 (0,0)):=by
  rw [hw0]
  have h:=heap_alloc_new (w.alloc (.cells #[.string t] 9)) (.cells zmsg 38)
  exact (Lib.alloc_old _ _ _ (by simp)).trans (by simpa using h)
 have hgm:w0.heap[w.heap.size+1+1]?=some (.cells zmsg 38 (0,0)):=by
  rw [hw0]
  have h:=heap_alloc_new ((w.alloc (.cells #[.string t] 9)).alloc (.cells zmsg 38)) (.cells zmsg 38)
  simpa using h
 clear hw0
 have hge:(w0.alloc (.cells #[.int .i64 0] 29)).heap[w0.heap.size]?=some (.cells #[.int .i64 0] 29 (0,0)):=heap_alloc_new w0 _
 have HAT:Hid (Calls Tryz.prog 20 #[.func (.func 24) #[] #[.pointer (some ⟨w.heap.size,0,none⟩),.pointer (some ⟨w.heap.size+1+1,0,none⟩)]] w0 fun r w'=>r=.returned (.int .i64 0)∧Hid (Rd (w.heap.size+1+1) w0 w')∧Hid (w'.heap[w.heap.size+1+1]?=some (.cells #[.int .i64 id,.bool false,.bool false,.int .i64 code,.string R,.int .i64 typ,.slice none 0 0] 38 (0,0)))):=(show Calls _ _ _ _ _ by
  refine (attempt_ok 24 #[.pointer (some ⟨w.heap.size,0,none⟩),.pointer (some ⟨w.heap.size+1+1,0,none⟩)] w0 (fun W=>Rd (w.heap.size+1+1) (w0.alloc (.cells #[.int .i64 0] 29)) W∧W.heap[w.heap.size+1+1]?=some (.cells #[.int .i64 id,.bool false,.bool false,.int .i64 code,.string R,.int .i64 typ,.slice none 0 0] 38 (0,0))) ef ?_).mono ?_
  ·refine (HW1.out w.heap.size (w.heap.size+1+1) _ ((Lib.alloc_old w0 _ _ (by omega)).trans hgs) ((Lib.alloc_old w0 _ _ (by omega)).trans hgm)).mono ?_
   rintro r w' ⟨rfl,hb,hk2⟩
   have hk:w'.heap[w0.heap.size]?=some (.cells #[.int .i64 0] 29 (0,0)):=(hb.out.block _ (by simp) (by omega)).trans hge
   exact ⟨rfl,⟨hb.out,hk2.out⟩,cellsAt hk 0,frozenAt hk 0,(Array.getElem?_eq_some_iff.1 hk).1⟩
  ·rintro r w' ⟨rfl,w1,⟨hR,hk⟩,_,rfl⟩
   refine ⟨rfl,(Rd.trans (Rd.ext ((World.Extends.refl w0).alloc _)) hR).put 0 _ (Nat.le_refl _),?_⟩
   exact (Below.heap_setCell w1 _ _ _ (by simp;omega)).trans hk)
 clear hge hgs hgm HW1 ef
 refine HAT.out.mono ?_
 rintro e w1 ⟨rfl,HD1,HG1⟩
 have HB1:Hid (Below w.heap.size w w1):=HB0.out.trans (HD1.out.below (by omega) (by omega))
 have hq1:w1.heap[w.heap.size+1]?=some (.cells zmsg 38 (0,0)):=(HD1.out.block _ (by omega) (by omega)).trans hgq
 have c0:w1.cell? ⟨w.heap.size+1+1,0,none⟩=some (.int .i64 id):=cellsAt HG1.out 0
 have q0:w1.cell? ⟨w.heap.size+1,0,none⟩=some (.int .i64 0):=cellsAt hq1 0
 have y0:w1.frozen? ⟨w.heap.size+1,0,none⟩=false:=frozenAt hq1 0
 have c1:w1.cell? ⟨w.heap.size+1+1,1,none⟩=some (.bool false):=cellsAt HG1.out 1
 have q1:w1.cell? ⟨w.heap.size+1,1,none⟩=some (.bool false):=cellsAt hq1 1
 have y1:w1.frozen? ⟨w.heap.size+1,1,none⟩=false:=frozenAt hq1 1
 have c2:w1.cell? ⟨w.heap.size+1+1,2,none⟩=some (.bool false):=cellsAt HG1.out 2
 have q2:w1.cell? ⟨w.heap.size+1,2,none⟩=some (.bool false):=cellsAt hq1 2
 have y2:w1.frozen? ⟨w.heap.size+1,2,none⟩=false:=frozenAt hq1 2
 have c3:w1.cell? ⟨w.heap.size+1+1,3,none⟩=some (.int .i64 code):=cellsAt HG1.out 3
 have q3:w1.cell? ⟨w.heap.size+1,3,none⟩=some (.int .i64 0):=cellsAt hq1 3
 have y3:w1.frozen? ⟨w.heap.size+1,3,none⟩=false:=frozenAt hq1 3
 have c4:w1.cell? ⟨w.heap.size+1+1,4,none⟩=some (.string R):=cellsAt HG1.out 4
 have q4:w1.cell? ⟨w.heap.size+1,4,none⟩=some (.string ⟨#[]⟩):=cellsAt hq1 4
 have y4:w1.frozen? ⟨w.heap.size+1,4,none⟩=false:=frozenAt hq1 4
 have c5:w1.cell? ⟨w.heap.size+1+1,5,none⟩=some (.int .i64 typ):=cellsAt HG1.out 5
 have q5:w1.cell? ⟨w.heap.size+1,5,none⟩=some (.int .i64 0):=cellsAt hq1 5
 have y5:w1.frozen? ⟨w.heap.size+1,5,none⟩=false:=frozenAt hq1 5
 have c6:w1.cell? ⟨w.heap.size+1+1,6,none⟩=some (.slice none 0 0):=cellsAt HG1.out 6
 have q6:w1.cell? ⟨w.heap.size+1,6,none⟩=some (.slice none 0 0):=cellsAt hq1 6
 have y6:w1.frozen? ⟨w.heap.size+1,6,none⟩=false:=frozenAt hq1 6
 clear HAT HB0 HD1 HG1 hq1 hgq
 go_wp2_with fail
 refine bodyPost_ret (v:=.tuple #[msgV id code typ false false R,.int .i64 0]) ?_ rfl ⟨rfl,?_⟩
 ·simp [results,Tryz.results11,go_sem,q0,q1,q2,q3,q4,q5,q6]
 ·exact (((((((HB1.out.setCell (p:=⟨w.heap.size+1,0,none⟩) (by simp) _).setCell (p:=⟨w.heap.size+1,1,none⟩) (by simp) _).setCell (p:=⟨w.heap.size+1,2,none⟩) (by simp) _).setCell (p:=⟨w.heap.size+1,3,none⟩) (by simp) _).setCell (p:=⟨w.heap.size+1,4,none⟩) (by simp) _).setCell (p:=⟨w.heap.size+1,5,none⟩) (by simp) _).setCell (p:=⟨w.heap.size+1,6,none⟩) (by simp) _)
abbrev nameAB:ByteArray:=⟨#[97,46,98]⟩
abbrev textAB:ByteArray:=⟨#[1,2,0,0,0,1,0,0,0,0,0,0,1,97,1,98,0,0,1,0,1]⟩
theorem textAB_is:(⟨(wmsgL 258 0 1 false false nameAB).toArray⟩:ByteArray)=textAB:=by kernel_rfl
theorem chkAB:chkN nameAB=0:=by kernel_rfl
theorem lenAB:(wmsgL 258 0 1 false false nameAB).length=21:=by kernel_rfl
theorem readsAB:Reads textAB 258 0 1 nameAB:=⟨fun g w h=>by
 have h:=rmessage_none g 258 0 1 17 [⟨#[97]⟩,⟨#[98]⟩] textAB w h (by decide) (by kernel_rfl) (by kernel_rfl) (by kernel_rfl) (by kernel_rfl) (by kernel_rfl) (by kernel_rfl) (by kernel_rfl)
  ⟨by kernel_rfl,by decide,by kernel_rfl,by kernel_rfl,by decide,by kernel_rfl,by decide,by kernel_rfl⟩ (fun l hl=>by
   simp only [List.mem_cons,List.not_mem_nil,or_false] at hl
   rcases hl with rfl | rfl<;>kernel_rfl) (by decide) (by decide) (by kernel_rfl) (by kernel_rfl) (by kernel_rfl) (by decide) (by kernel_rfl)
 exact h⟩
set_option maxHeartbeats 1600000 in
set_option maxRecDepth 100000 in
theorem dnsBegun_any (w:World) (hm:ML w) :
 Calls Tryz.prog 9 #[] w fun e w'=>e=.returned (.bool true)∧Below w.heap.size w w':=by
 have HW:Hid (Calls Tryz.prog 10 #[msgV 258 0 1 false false nameAB] w fun e w'=>e=.returned (.tuple #[.string textAB,.int .i64 0])∧Below w.heap.size w w'):=(show Calls _ _ _ _ _ by
  have h:=write_none 258 0 1 false false nameAB w hm (by decide) (by decide) (by decide) chkAB (by decide) (by rw [lenAB];omega)
  rw [textAB_is] at h
  exact h)
 have HR:Hid (∀ W,Calls Tryz.prog 11 #[.string textAB] W fun e w'=>e=.returned (.tuple #[msgV 258 0 1 false false nameAB,.int .i64 0])∧Below W.heap.size W w'):=fun W=>read_none 258 0 1 nameAB textAB W readsAB (by decide) (by decide) (by decide) (by decide) chkAB (by decide)
 have hsz:textAB.size=21:=by kernel_rfl
 clear hm
 generalize textAB=T at *
 go_enter Tryz.func9,Tryz.ntmps9
 go_wp2_with fail
 refine HW.out.mono ?_
 rintro e w1 ⟨rfl,hb1⟩
 have HB1:Hid (Below w.heap.size w w1):=hb1
 have hl1:=hb1.size
 clear hb1
 go_wp2_with fail
 refine (HR.out _).mono ?_
 rintro e w2 ⟨rfl,hb2⟩
 have HB2:Hid (Below w.heap.size w w2):=HB1.out.trans (hb2.mono hl1)
 have hl2:=HB2.out.size
 clear hb2 HB1
 have h21:((T.size:Int) == 21)=true:=by rw [hsz];rfl
 go_wp2_with fail
 simp [bodyPost,results,Tryz.results9]
 exact HB2.out.alloc hl2 _
end Go.Proofs.YtignmeaeibaejaaGreatDoor
