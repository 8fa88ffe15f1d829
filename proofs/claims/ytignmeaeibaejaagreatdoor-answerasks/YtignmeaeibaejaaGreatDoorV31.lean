import Derived.Test.YtignmeaeibaejaaGreatDoorV30
import Derived.Deep.AppendLies
import Derived.Test.YtignmeaeibaejaaGreatDoorV28
namespace Go.Proofs.YtignmeaeibaejaaGreatDoor
open Go.RowKit
theorem Tryz.infoRec:(Tryz.prog.info? 59).map (fun i=>(i.zero,i.size,i.bytes))=some (some (.agg #[.string ⟨#[]⟩,.int .i64 0,.int .i64 0,.int .i64 0,.string ⟨#[]⟩,.int .i64 0,.string ⟨#[]⟩]),7,80):=by kernel_rfl
theorem Rd.ownR {g base:Nat} {w w':World} {v:Value} {l:List Rc.Rec} (h:Rd g w w') (ho:Rc.Own base w v l) (hg:g < base):Rc.Own base w' v l:=by
 rcases ho.2 with ⟨rfl,h0⟩ | ⟨k,c,cur,rfl,hbg,hk,hnc,hcm,hcs,htake⟩
 ·exact ⟨ho.1,.inl ⟨rfl,h0⟩⟩
 ·have hlt:k < w.heap.size:=(Array.getElem?_eq_some_iff.1 hk).1
  exact ⟨ho.1,.inr ⟨k,c,cur,rfl,hbg,(h.block k hlt (by omega)).trans hk,hnc,hcm,hcs,htake⟩⟩
theorem St.grown {g a:Nat} {t:ByteArray} {w W W':World} {T:TypeId} {zs cs:Array Value} {row:Option Nat} (h:St g t w T zs a cs W) (hg:W.grownBy W' row) (hne:∀ q,q < w.heap.size+2→some q≠row):St g t w T zs a cs W':=by
 have hl:=h.lt
 have hb1:w.heap.size+1 < W.heap.size:=(Array.getElem?_eq_some_iff.1 h.bx).1
 have hblk:∀ q,q < w.heap.size+2→W'.heap[q]?=W.heap[q]?:=fun q hq=>hg.block q (by omega) (hne q hq)
 refine ⟨⟨?_,?_,?_,?_⟩,⟨hg.os.trans h.rd.os,hg.tape.trans h.rd.tape,hg.output.trans h.rd.output,Nat.le_trans h.rd.size hg.size,fun q hq hqg=>(hblk q (by omega)).trans (h.rd.block q hq hqg)⟩,(hblk _ (by omega)).trans h.qx,(hblk _ (by omega)).trans h.bx,hl⟩
 ·exact (World.cell?_of_block (a:=⟨g,0,none⟩) (hblk g (by omega))).trans h.isR.c0
 ·exact (World.cell?_of_block (a:=⟨g,1,none⟩) (hblk g (by omega))).trans h.isR.c1
 ·exact (World.frozen?_of_block (a:=⟨g,1,none⟩) (hblk g (by omega))).trans h.isR.hz
 ·exact Nat.lt_of_lt_of_le h.isR.hg hg.size
theorem own_put {base b i:Nat} {u v:Value} {l:List Rc.Rec} {W:World} (h:Rc.Own base W v l) (hb:b < base):Rc.Own base (W.setCell ⟨b,i,none⟩ u) v l:=by
 rcases h.2 with ⟨rfl,h0⟩ | ⟨k,c,cur,rfl,hbg,hk,r⟩
 ·exact ⟨h.1,.inl ⟨rfl,h0⟩⟩
 ·exact ⟨h.1,.inr ⟨k,c,cur,rfl,hbg,(Below.heap_setCell W _ u k (by simp;omega)).trans hk,r⟩⟩
end Go.Proofs.YtignmeaeibaejaaGreatDoor
namespace Go.Proofs.YtignmeaeibaejaaGreatDoor
open Go.RowKit Go.Lib
structure ReadsR (t:ByteArray) (id code typ:Int) (ans cut:Bool) (R:ByteArray) (rs:List Rc.Rec):Prop where
 go:∀ (g:Nat) (w:World),IsR g t 0 w→Calls Tryz.prog 25 #[.pointer (some ⟨g,0,none⟩)] w fun e w'=>∃ v,e=.returned (.agg #[.int .i64 id,.bool ans,.bool cut,.int .i64 code,.string R,.int .i64 typ,v])∧Hid (Rd g w w')∧Hid (Rc.Own (w.heap.size+2) w' v rs)
theorem rec_ok {r:Rc.Rec} (h:chkRec r=0):r.ok:=by
 obtain ⟨h1,_,h3,h4⟩:=chkRec_facts h
 have:=(labs_ok h1).2.2
 have:=(labs_ok h4).2.2
 refine ⟨?_,?_,?_⟩<;>(unfold maxLen;omega)
theorem recs_ok {rs:List Rc.Rec} (h:∀ r∈rs,chkRec r=0):∀ j,(rs.getD j Rc.dm).ok:=Rc.ns_get (fun r hr=>rec_ok (h r hr))
set_option maxHeartbeats 1600000 in
set_option maxRecDepth 100000 in
theorem read1_any (gs gm:Nat) (id code typ:Int) (ans cut:Bool) (R t:ByteArray) (rs:List Rc.Rec) (w:World) (hr:ReadsR t id code typ ans cut R rs) (hgs:w.heap[gs]?=some (.cells #[.string t] 9 (0,0))) (hgm:w.heap[gm]?=some (.cells zmsg 38 (0,0))) (hc:chkMsg id code typ R rs=0) :
 Calls Tryz.prog 24 #[.pointer (some ⟨gs,0,none⟩),.pointer (some ⟨gm,0,none⟩)] w fun r w'=>r=.returned (.tuple #[])∧Hid (Rd gm w w')∧∃ v,Hid (w'.heap[gm]?=some (.cells #[.int .i64 id,.bool ans,.bool cut,.int .i64 code,.string R,.int .i64 typ,v] 38 (0,0)))∧Hid (Rc.Own (w.heap.size+1) w' v rs):=by
 obtain ⟨f1,f2,f3⟩:=chkMsg_facts hc
 have hRs:=(labs_ok f2).2.2
 have HC:Hid (∀ v W,Rc.Sl W v rs→Calls Tryz.prog 22 #[.agg #[.int .i64 id,.bool ans,.bool cut,.int .i64 code,.string R,.int .i64 typ,v]] W fun r w'=>r=.returned (.tuple #[])∧Below W.heap.size W w'):=fun v W hv=>by
  have h:=dcheck_any id code typ ans cut R rs v W (by unfold maxLen;omega) hv
  rw [hc,outE_0] at h
  exact h
 have HOK:Hid (∀ j,(rs.getD j Rc.dm).ok):=recs_ok f3
 have HR:Hid (ReadsR t id code typ ans cut R rs):=hr
 have cs:w.cell? ⟨gs,0,none⟩=some (.string t):=cellsAt hgs 0
 clear hr hgs f1 f2 f3 hRs hc
 have hlt:gm < w.heap.size:=(Array.getElem?_eq_some_iff.1 hgm).1
 have HGM:Hid (w.heap[gm]?=some (.cells zmsg 38 (0,0))):=hgm
 clear hgm
 go_enter Tryz.func24,Tryz.ntmps24
 go_wp2_with fail
 have hr0:(w.alloc (.cells #[.string t,.int .i64 0] 64)).heap[w.heap.size]?=some (.cells #[.string t,.int .i64 0] 64 (0,0)):=heap_alloc_new w _
 refine (HR.out.go w.heap.size _ ⟨cellsAt hr0 0,cellsAt hr0 1,frozenAt hr0 1,by simp⟩).mono ?_
 rintro e w1 ⟨v,rfl,h2,ho⟩
 have hb1:Below w.heap.size w w1:=((Below.refl _ _).alloc (Nat.le_refl _) _).trans (h2.out.below (Nat.le_refl _) (by simp))
 have HD1:Hid (Rd gm w w1):=Rd.of_below hb1 (Nat.le_refl _)
 have HO1:Hid (Rc.Own (w.heap.size+1) w1 v rs):=ho.out.mono (by simp<;>omega)
 obtain ⟨av,lv,cv,hvv⟩:∃ a l c,v=.slice a l c:=by
  rcases HO1.out.2 with ⟨hv,_⟩ | ⟨gq,cq,_,hv,_⟩
  ·exact ⟨_,_,_,hv⟩
  ·exact ⟨_,_,_,hv⟩
 subst hvv
 have hg1:w1.heap[gm]?=some (.cells zmsg 38 (0,0)):=(hb1.block gm hlt).trans HGM.out
 have hl1:gm < w1.heap.size:=(Array.getElem?_eq_some_iff.1 hg1).1
 have c0:w1.cell? ⟨gm,0,none⟩=some (.int .i64 0):=cellsAt hg1 0
 have z0:w1.frozen? ⟨gm,0,none⟩=false:=by simp [World.frozen?,hg1]
 have c1:w1.cell? ⟨gm,1,none⟩=some (.bool false):=cellsAt hg1 1
 have z1:w1.frozen? ⟨gm,1,none⟩=false:=by simp [World.frozen?,hg1]
 have c2:w1.cell? ⟨gm,2,none⟩=some (.bool false):=cellsAt hg1 2
 have z2:w1.frozen? ⟨gm,2,none⟩=false:=by simp [World.frozen?,hg1]
 have c3:w1.cell? ⟨gm,3,none⟩=some (.int .i64 0):=cellsAt hg1 3
 have z3:w1.frozen? ⟨gm,3,none⟩=false:=by simp [World.frozen?,hg1]
 have c4:w1.cell? ⟨gm,4,none⟩=some (.string ⟨#[]⟩):=cellsAt hg1 4
 have z4:w1.frozen? ⟨gm,4,none⟩=false:=by simp [World.frozen?,hg1]
 have c5:w1.cell? ⟨gm,5,none⟩=some (.int .i64 0):=cellsAt hg1 5
 have z5:w1.frozen? ⟨gm,5,none⟩=false:=by simp [World.frozen?,hg1]
 have c6:w1.cell? ⟨gm,6,none⟩=some (.slice none 0 0):=cellsAt hg1 6
 have z6:w1.frozen? ⟨gm,6,none⟩=false:=by simp [World.frozen?,hg1]
 have HG2:Hid ((((((((w1.setCell ⟨gm,0,none⟩ (.int .i64 id)).setCell ⟨gm,1,none⟩ (.bool ans)).setCell ⟨gm,2,none⟩ (.bool cut)).setCell ⟨gm,3,none⟩ (.int .i64 code)).setCell ⟨gm,4,none⟩ (.string R)).setCell ⟨gm,5,none⟩ (.int .i64 typ)).setCell ⟨gm,6,none⟩ (.slice av lv cv)).heap[gm]?=some (.cells #[.int .i64 id,.bool ans,.bool cut,.int .i64 code,.string R,.int .i64 typ,.slice av lv cv] 38 (0,0))):=(Joins.block_setCell (i:=6) (Joins.block_setCell (i:=5) (Joins.block_setCell (i:=4) (Joins.block_setCell (i:=3) (Joins.block_setCell (i:=2) (Joins.block_setCell (i:=1) (Joins.block_setCell (i:=0) hg1 (.int .i64 id)) (.bool ans)) (.bool cut)) (.int .i64 code)) (.string R)) (.int .i64 typ)) (.slice av lv cv))
 have HD2:Hid (Rd gm w (((((((w1.setCell ⟨gm,0,none⟩ (.int .i64 id)).setCell ⟨gm,1,none⟩ (.bool ans)).setCell ⟨gm,2,none⟩ (.bool cut)).setCell ⟨gm,3,none⟩ (.int .i64 code)).setCell ⟨gm,4,none⟩ (.string R)).setCell ⟨gm,5,none⟩ (.int .i64 typ)).setCell ⟨gm,6,none⟩ (.slice av lv cv))):=((((((((HD1.out).here 0 _).here 1 _).here 2 _).here 3 _).here 4 _).here 5 _).here 6 _)
 have HO2:Hid (Rc.Own (w.heap.size+1) (((((((w1.setCell ⟨gm,0,none⟩ (.int .i64 id)).setCell ⟨gm,1,none⟩ (.bool ans)).setCell ⟨gm,2,none⟩ (.bool cut)).setCell ⟨gm,3,none⟩ (.int .i64 code)).setCell ⟨gm,4,none⟩ (.string R)).setCell ⟨gm,5,none⟩ (.int .i64 typ)).setCell ⟨gm,6,none⟩ (.slice av lv cv)) (.slice av lv cv) rs):=(own_put (i:=6) (own_put (i:=5) (own_put (i:=4) (own_put (i:=3) (own_put (i:=2) (own_put (i:=1) (own_put (i:=0) HO1.out (by omega)) (by omega)) (by omega)) (by omega)) (by omega)) (by omega)) (by omega))
 clear h2 ho hb1 hr0 hg1 HD1
 go_wp2_with fail
 refine (HC.out _ _ (HO2.out.sl HOK.out)).mono ?_
 rintro e w2 ⟨rfl,hb2⟩
 have HB2:Hid (Below (((((((w1.setCell ⟨gm,0,none⟩ (.int .i64 id)).setCell ⟨gm,1,none⟩ (.bool ans)).setCell ⟨gm,2,none⟩ (.bool cut)).setCell ⟨gm,3,none⟩ (.int .i64 code)).setCell ⟨gm,4,none⟩ (.string R)).setCell ⟨gm,5,none⟩ (.int .i64 typ)).setCell ⟨gm,6,none⟩ (.slice av lv cv)).heap.size (((((((w1.setCell ⟨gm,0,none⟩ (.int .i64 id)).setCell ⟨gm,1,none⟩ (.bool ans)).setCell ⟨gm,2,none⟩ (.bool cut)).setCell ⟨gm,3,none⟩ (.int .i64 code)).setCell ⟨gm,4,none⟩ (.string R)).setCell ⟨gm,5,none⟩ (.int .i64 typ)).setCell ⟨gm,6,none⟩ (.slice av lv cv)) w2):=hb2
 clear hb2
 go_wp2_with fail
 simp [bodyPost,results,Tryz.results24]
 refine ⟨HD2.out.trans (Rd.of_below HB2.out (Nat.le_refl _)),.slice av lv cv,?_,?_⟩
 ·exact (HB2.out.block gm (by simp;exact hl1)).trans HG2.out
 ·exact HO2.out.below HB2.out
set_option maxHeartbeats 1600000 in
set_option maxRecDepth 100000 in
theorem read_any (id code typ:Int) (ans cut:Bool) (R t:ByteArray) (rs:List Rc.Rec) (w:World) (hr:ReadsR t id code typ ans cut R rs) (hl:t.size≤512) (hc:chkMsg id code typ R rs=0) :
 Calls Tryz.prog 11 #[.string t] w fun e w'=>∃ v,e=.returned (.tuple #[.agg #[.int .i64 id,.bool ans,.bool cut,.int .i64 code,.string R,.int .i64 typ,v],.int .i64 0])∧Below w.heap.size w w'∧Hid (Rc.Own w.heap.size w' v rs):=by
 have HW1:Hid (∀ (gs gm:Nat) (W:World),W.heap[gs]?=some (.cells #[.string t] 9 (0,0))→W.heap[gm]?=some (.cells zmsg 38 (0,0))→Calls Tryz.prog 24 #[.pointer (some ⟨gs,0,none⟩),.pointer (some ⟨gm,0,none⟩)] W fun r w'=>r=.returned (.tuple #[])∧Hid (Rd gm W w')∧∃ v,Hid (w'.heap[gm]?=some (.cells #[.int .i64 id,.bool ans,.bool cut,.int .i64 code,.string R,.int .i64 typ,v] 38 (0,0)))∧Hid (Rc.Own (W.heap.size+1) w' v rs)):=fun gs gm W hgs hgm=>read1_any gs gm id code typ ans cut R t rs W hr hgs hgm hc
 have ef:∀ args W,(callFunc 24 args).run Tryz.prog W=.ok (.enter 24 args) W:=enters_of Tryz.func24 (by kernel_rfl) rfl
 have hcmp:decide (512 < (t.size:Int))=false:=by simp;omega
 clear hl hr hc
 go_enter Tryz.func11,Tryz.ntmps11
 go_wp2_with fail
 obtain ⟨w0,hw0⟩:∃ w0,w0=((w.alloc (.cells #[.string t] 9)).alloc (.cells zmsg 38)).alloc (.cells zmsg 38):=⟨_,rfl⟩
 rw [← hw0]
 have hn0:w0.heap.size=w.heap.size+1+1+1:=by rw [hw0];simp
 have HB0:Hid (Below w.heap.size w w0):=(show Below _ _ _ by rw [hw0];exact (((Below.refl _ _).alloc (Nat.le_refl _) _).alloc (by simp) _).alloc (by simp;omega) _)
 have hgs:w0.heap[w.heap.size]?=some (.cells #[.string t] 9 (0,0)):=by
  rw [hw0]
  exact (Lib.alloc_old _ _ _ (by simp;omega)).trans ((Lib.alloc_old _ _ _ (by simp)).trans (heap_alloc_new w _))
 have hgq:w0.heap[w.heap.size+1]?=some (.cells zmsg 38 (0,0)):=by
  rw [hw0]
  have h:=heap_alloc_new (w.alloc (.cells #[.string t] 9)) (.cells zmsg 38)
  exact (Lib.alloc_old _ _ _ (by simp)).trans (by simpa using h)
 have hgm:w0.heap[w.heap.size+1+1]?=some (.cells zmsg 38 (0,0)):=by
  rw [hw0]
  have h:=heap_alloc_new ((w.alloc (.cells #[.string t] 9)).alloc (.cells zmsg 38)) (.cells zmsg 38)
  simpa using h
 clear hw0
 have hge:(w0.alloc (.cells #[.int .i64 0] 29)).heap[w0.heap.size]?=some (.cells #[.int .i64 0] 29 (0,0)):=heap_alloc_new w0 _
 have HAT:Hid (Calls Tryz.prog 20 #[.func (.func 24) #[] #[.pointer (some ⟨w.heap.size,0,none⟩),.pointer (some ⟨w.heap.size+1+1,0,none⟩)]] w0 fun r w'=>r=.returned (.int .i64 0)∧Hid (Rd (w.heap.size+1+1) w0 w')∧∃ v,Hid (w'.heap[w.heap.size+1+1]?=some (.cells #[.int .i64 id,.bool ans,.bool cut,.int .i64 code,.string R,.int .i64 typ,v] 38 (0,0)))∧Hid (Rc.Own (w.heap.size+1+1+1) w' v rs)):=(show Calls _ _ _ _ _ by
  refine (attempt_ok 24 #[.pointer (some ⟨w.heap.size,0,none⟩),.pointer (some ⟨w.heap.size+1+1,0,none⟩)] w0 (fun W=>Rd (w.heap.size+1+1) (w0.alloc (.cells #[.int .i64 0] 29)) W∧∃ v,W.heap[w.heap.size+1+1]?=some (.cells #[.int .i64 id,.bool ans,.bool cut,.int .i64 code,.string R,.int .i64 typ,v] 38 (0,0))∧Rc.Own (w0.heap.size+1+1) W v rs) ef ?_).mono ?_
  ·refine (HW1.out w.heap.size (w.heap.size+1+1) _ ((Lib.alloc_old w0 _ _ (by omega)).trans hgs) ((Lib.alloc_old w0 _ _ (by omega)).trans hgm)).mono ?_
   rintro r w' ⟨rfl,hb,v,hk2,ho⟩
   have hk:w'.heap[w0.heap.size]?=some (.cells #[.int .i64 0] 29 (0,0)):=(hb.out.block _ (by simp) (by omega)).trans hge
   exact ⟨rfl,⟨hb.out,v,hk2.out,by have:=ho.out;simpa using this⟩,cellsAt hk 0,frozenAt hk 0,(Array.getElem?_eq_some_iff.1 hk).1⟩
  ·rintro r w' ⟨rfl,w1,⟨hR,v,hk,ho⟩,_,rfl⟩
   refine ⟨rfl,(Rd.trans (Rd.ext ((World.Extends.refl w0).alloc _)) hR).put 0 _ (Nat.le_refl _),v,?_,?_⟩
   ·exact (Below.heap_setCell w1 _ _ _ (by simp;omega)).trans hk
   ·exact (own_put ho (by omega)).mono (by omega))
 clear hge hgs hgm HW1 ef
 refine HAT.out.mono ?_
 rintro e w1 ⟨rfl,HD1,v,HG1,HO1⟩
 obtain ⟨av,lv,cv,hvv⟩:∃ a l c,v=.slice a l c:=by
  rcases HO1.out.2 with ⟨hv,_⟩ | ⟨gq,cq,_,hv,_⟩
  ·exact ⟨_,_,_,hv⟩
  ·exact ⟨_,_,_,hv⟩
 subst hvv
 have HB1:Hid (Below w.heap.size w w1):=HB0.out.trans (HD1.out.below (by omega) (by omega))
 have hq1:w1.heap[w.heap.size+1]?=some (.cells zmsg 38 (0,0)):=(HD1.out.block _ (by omega) (by omega)).trans hgq
 have c0:w1.cell? ⟨w.heap.size+1+1,0,none⟩=some (.int .i64 id):=cellsAt HG1.out 0
 have q0:w1.cell? ⟨w.heap.size+1,0,none⟩=some (.int .i64 0):=cellsAt hq1 0
 have y0:w1.frozen? ⟨w.heap.size+1,0,none⟩=false:=frozenAt hq1 0
 have c1:w1.cell? ⟨w.heap.size+1+1,1,none⟩=some (.bool ans):=cellsAt HG1.out 1
 have q1:w1.cell? ⟨w.heap.size+1,1,none⟩=some (.bool false):=cellsAt hq1 1
 have y1:w1.frozen? ⟨w.heap.size+1,1,none⟩=false:=frozenAt hq1 1
 have c2:w1.cell? ⟨w.heap.size+1+1,2,none⟩=some (.bool cut):=cellsAt HG1.out 2
 have q2:w1.cell? ⟨w.heap.size+1,2,none⟩=some (.bool false):=cellsAt hq1 2
 have y2:w1.frozen? ⟨w.heap.size+1,2,none⟩=false:=frozenAt hq1 2
 have c3:w1.cell? ⟨w.heap.size+1+1,3,none⟩=some (.int .i64 code):=cellsAt HG1.out 3
 have q3:w1.cell? ⟨w.heap.size+1,3,none⟩=some (.int .i64 0):=cellsAt hq1 3
 have y3:w1.frozen? ⟨w.heap.size+1,3,none⟩=false:=frozenAt hq1 3
 have c4:w1.cell? ⟨w.heap.size+1+1,4,none⟩=some (.string R):=cellsAt HG1.out 4
 have q4:w1.cell? ⟨w.heap.size+1,4,none⟩=some (.string ⟨#[]⟩):=cellsAt hq1 4
 have y4:w1.frozen? ⟨w.heap.size+1,4,none⟩=false:=frozenAt hq1 4
 have c5:w1.cell? ⟨w.heap.size+1+1,5,none⟩=some (.int .i64 typ):=cellsAt HG1.out 5
 have q5:w1.cell? ⟨w.heap.size+1,5,none⟩=some (.int .i64 0):=cellsAt hq1 5
 have y5:w1.frozen? ⟨w.heap.size+1,5,none⟩=false:=frozenAt hq1 5
 have c6:w1.cell? ⟨w.heap.size+1+1,6,none⟩=some (.slice av lv cv):=cellsAt HG1.out 6
 have q6:w1.cell? ⟨w.heap.size+1,6,none⟩=some (.slice none 0 0):=cellsAt hq1 6
 have y6:w1.frozen? ⟨w.heap.size+1,6,none⟩=false:=frozenAt hq1 6
 clear HAT HB0 HD1 HG1 hq1 hgq
 go_wp2_with fail
 refine bodyPost_ret (v:=.tuple #[.agg #[.int .i64 id,.bool ans,.bool cut,.int .i64 code,.string R,.int .i64 typ,.slice av lv cv],.int .i64 0]) ?_ rfl ⟨.slice av lv cv,rfl,?_,?_⟩
 ·simp [results,Tryz.results11,go_sem,q0,q1,q2,q3,q4,q5,q6]
 ·exact (((((((HB1.out.setCell (p:=⟨w.heap.size+1,0,none⟩) (by simp) _).setCell (p:=⟨w.heap.size+1,1,none⟩) (by simp) _).setCell (p:=⟨w.heap.size+1,2,none⟩) (by simp) _).setCell (p:=⟨w.heap.size+1,3,none⟩) (by simp) _).setCell (p:=⟨w.heap.size+1,4,none⟩) (by simp) _).setCell (p:=⟨w.heap.size+1,5,none⟩) (by simp) _).setCell (p:=⟨w.heap.size+1,6,none⟩) (by simp) _)
 ·exact Rc.Own.mono (own_put (i:=6) (own_put (i:=5) (own_put (i:=4) (own_put (i:=3) (own_put (i:=2) (own_put (i:=1) (own_put (i:=0) HO1.out (by omega)) (by omega)) (by omega)) (by omega)) (by omega)) (by omega)) (by omega)) (by omega)
end Go.Proofs.YtignmeaeibaejaaGreatDoor
