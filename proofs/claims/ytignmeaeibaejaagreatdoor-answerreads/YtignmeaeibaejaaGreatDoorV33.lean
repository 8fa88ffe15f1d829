import Derived.Test.YtignmeaeibaejaaGreatDoorV32
import Derived.Test.YtignmeaeibaejaaGreatDoorV31
import Derived.Test.YtignmeaeibaejaaGreatDoorV2
import Derived.Lib.QuietBelow
import Derived.Test.YtignmeaeibaejaaGreatDoorV28
namespace Go.Proofs.YtignmeaeibaejaaGreatDoor
open Go.RowKit Go.Lib
def rdE (t:ByteArray):Int:=match msgF t with
 | none=>1
 | some M=>chkMsg M.id M.code M.typ M.R M.rs
theorem reads_of {t:ByteArray} {M:Ms} (h:msgF t=some M) (hs:t.size≤1000):ReadsR t M.id M.code M.typ M.ans M.cut M.R M.rs:=⟨fun g w hI=>by
 refine (rmsg_b g t w hI hs).mono ?_
 rintro e w' ⟨h1,⟨M',v,h2,_,h4,h5⟩ | ⟨h2,_⟩⟩
 ·have e1:M'=M:=Option.some.inj (h2.symm.trans h)
  subst e1
  exact ⟨v,h4,h1,h5⟩
 ·rw [h] at h2;cases h2⟩
set_option maxHeartbeats 1600000 in
set_option maxRecDepth 100000 in
theorem read1_no (gs gm:Nat) (t:ByteArray) (w:World) (hgs:w.heap[gs]?=some (.cells #[.string t] 9 (0,0))) (hgm:w.heap[gm]?=some (.cells zmsg 38 (0,0))) (hs:t.size≤1000) (hE:rdE t≠0) :
 Calls Tryz.prog 24 #[.pointer (some ⟨gs,0,none⟩),.pointer (some ⟨gm,0,none⟩)] w fun r w'=>r=outE (rdE t)∧Hid (Rd gm w w'):=by
 have HR:Hid (∀ g W,IsR g t 0 W→Calls Tryz.prog 25 #[.pointer (some ⟨g,0,none⟩)] W (MsP g W (msgF t))):=fun g W hW=>rmsg_b g t W hW hs
 have HEN:Hid (msgF t=none→rdE t=1):=fun h=>by unfold rdE;rw [h]
 have HES:Hid (∀ M,msgF t=some M→rdE t=chkMsg M.id M.code M.typ M.R M.rs):=fun M h=>by unfold rdE;rw [h]
 have cs:w.cell? ⟨gs,0,none⟩=some (.string t):=cellsAt hgs 0
 have HE0:Hid (rdE t≠0):=hE
 clear hgs hE
 have hlt:gm < w.heap.size:=(Array.getElem?_eq_some_iff.1 hgm).1
 have HGM:Hid (w.heap[gm]?=some (.cells zmsg 38 (0,0))):=hgm
 clear hgm
 generalize msgF t=F at *
 generalize rdE t=E at *
 go_enter Tryz.func24,Tryz.ntmps24
 go_wp2_with fail
 have hr0:(w.alloc (.cells #[.string t,.int .i64 0] 64)).heap[w.heap.size]?=some (.cells #[.string t,.int .i64 0] 64 (0,0)):=heap_alloc_new w _
 refine (HR.out w.heap.size _ ⟨cellsAt hr0 0,cellsAt hr0 1,frozenAt hr0 1,by simp⟩).mono ?_
 rintro e w1 ⟨h2,⟨M,v,hM,⟨hMR,hMo⟩,rfl,ho⟩ | ⟨hM,rfl⟩⟩
 rotate_left
 ·have hb1:Below w.heap.size w w1:=((Below.refl _ _).alloc (Nat.le_refl _) _).trans (h2.out.below (Nat.le_refl _) (by simp))
  exact ⟨rfl,by rw [HEN.out hM];rfl,Rd.of_below hb1 (Nat.le_refl _)⟩
 have HOK:Hid (∀ j,(M.rs.getD j Rc.dm).ok):=Rc.ns_get hMo
 have HES2:Hid (E=chkMsg M.id M.code M.typ M.R M.rs):=HES.out M hM
 have HC:Hid (∀ v W,Rc.Sl W v M.rs→Calls Tryz.prog 22 #[.agg #[.int .i64 M.id,.bool M.ans,.bool M.cut,.int .i64 M.code,.string M.R,.int .i64 M.typ,v]] W fun r w'=>r=outE E∧Below W.heap.size W w'):=fun v W hv=>by
  have h:=dcheck_any M.id M.code M.typ M.ans M.cut M.R M.rs v W (by unfold maxLen;omega) hv
  rw [← HES2.out] at h
  exact h
 clear HES HEN hM hMo
 have hb1:Below w.heap.size w w1:=((Below.refl _ _).alloc (Nat.le_refl _) _).trans (h2.out.below (Nat.le_refl _) (by simp))
 have HD1:Hid (Rd gm w w1):=Rd.of_below hb1 (Nat.le_refl _)
 have HO1:Hid (Rc.Own (w.heap.size+1) w1 v M.rs):=ho.out.mono (by simp<;>omega)
 obtain ⟨av,lv,cv,hvv⟩:∃ a l c,v=.slice a l c:=by
  rcases HO1.out.2 with ⟨hv,_⟩ | ⟨gq,cq,_,hv,_⟩
  ·exact ⟨_,_,_,hv⟩
  ·exact ⟨_,_,_,hv⟩
 subst hvv
 have hg1:w1.heap[gm]?=some (.cells zmsg 38 (0,0)):=(hb1.block gm hlt).trans HGM.out
 have hl1:gm < w1.heap.size:=(Array.getElem?_eq_some_iff.1 hg1).1
 have c0:w1.cell? ⟨gm,0,none⟩=some (.int .i64 0):=cellsAt hg1 0
 have z0:w1.frozen? ⟨gm,0,none⟩=false:=by simp [World.frozen?,hg1]
 have c1:w1.cell? ⟨gm,1,none⟩=some (.bool false):=cellsAt hg1 1
 have z1:w1.frozen? ⟨gm,1,none⟩=false:=by simp [World.frozen?,hg1]
 have c2:w1.cell? ⟨gm,2,none⟩=some (.bool false):=cellsAt hg1 2
 have z2:w1.frozen? ⟨gm,2,none⟩=false:=by simp [World.frozen?,hg1]
 have c3:w1.cell? ⟨gm,3,none⟩=some (.int .i64 0):=cellsAt hg1 3
 have z3:w1.frozen? ⟨gm,3,none⟩=false:=by simp [World.frozen?,hg1]
 have c4:w1.cell? ⟨gm,4,none⟩=some (.string ⟨#[]⟩):=cellsAt hg1 4
 have z4:w1.frozen? ⟨gm,4,none⟩=false:=by simp [World.frozen?,hg1]
 have c5:w1.cell? ⟨gm,5,none⟩=some (.int .i64 0):=cellsAt hg1 5
 have z5:w1.frozen? ⟨gm,5,none⟩=false:=by simp [World.frozen?,hg1]
 have c6:w1.cell? ⟨gm,6,none⟩=some (.slice none 0 0):=cellsAt hg1 6
 have z6:w1.frozen? ⟨gm,6,none⟩=false:=by simp [World.frozen?,hg1]
 have HG2:Hid ((((((((w1.setCell ⟨gm,0,none⟩ (.int .i64 M.id)).setCell ⟨gm,1,none⟩ (.bool M.ans)).setCell ⟨gm,2,none⟩ (.bool M.cut)).setCell ⟨gm,3,none⟩ (.int .i64 M.code)).setCell ⟨gm,4,none⟩ (.string M.R)).setCell ⟨gm,5,none⟩ (.int .i64 M.typ)).setCell ⟨gm,6,none⟩ (.slice av lv cv)).heap[gm]?=some (.cells #[.int .i64 M.id,.bool M.ans,.bool M.cut,.int .i64 M.code,.string M.R,.int .i64 M.typ,.slice av lv cv] 38 (0,0))):=(Joins.block_setCell (i:=6) (Joins.block_setCell (i:=5) (Joins.block_setCell (i:=4) (Joins.block_setCell (i:=3) (Joins.block_setCell (i:=2) (Joins.block_setCell (i:=1) (Joins.block_setCell (i:=0) hg1 (.int .i64 M.id)) (.bool M.ans)) (.bool M.cut)) (.int .i64 M.code)) (.string M.R)) (.int .i64 M.typ)) (.slice av lv cv))
 have HD2:Hid (Rd gm w (((((((w1.setCell ⟨gm,0,none⟩ (.int .i64 M.id)).setCell ⟨gm,1,none⟩ (.bool M.ans)).setCell ⟨gm,2,none⟩ (.bool M.cut)).setCell ⟨gm,3,none⟩ (.int .i64 M.code)).setCell ⟨gm,4,none⟩ (.string M.R)).setCell ⟨gm,5,none⟩ (.int .i64 M.typ)).setCell ⟨gm,6,none⟩ (.slice av lv cv))):=((((((((HD1.out).here 0 _).here 1 _).here 2 _).here 3 _).here 4 _).here 5 _).here 6 _)
 have HO2:Hid (Rc.Own (w.heap.size+1) (((((((w1.setCell ⟨gm,0,none⟩ (.int .i64 M.id)).setCell ⟨gm,1,none⟩ (.bool M.ans)).setCell ⟨gm,2,none⟩ (.bool M.cut)).setCell ⟨gm,3,none⟩ (.int .i64 M.code)).setCell ⟨gm,4,none⟩ (.string M.R)).setCell ⟨gm,5,none⟩ (.int .i64 M.typ)).setCell ⟨gm,6,none⟩ (.slice av lv cv)) (.slice av lv cv) M.rs):=(own_put (i:=6) (own_put (i:=5) (own_put (i:=4) (own_put (i:=3) (own_put (i:=2) (own_put (i:=1) (own_put (i:=0) HO1.out (by omega)) (by omega)) (by omega)) (by omega)) (by omega)) (by omega)) (by omega))
 clear h2 ho hb1 hr0 hg1 HD1
 rw [outE_ne HE0.out] at HC
 go_wp2_with fail
 refine (HC.out _ _ (HO2.out.sl HOK.out)).mono ?_
 rintro e w2 ⟨rfl,hb2⟩
 exact ⟨rfl,(outE_ne HE0.out).symm,HD2.out.trans (Rd.of_below hb2 (Nat.le_refl _))⟩
set_option maxHeartbeats 1600000 in
set_option maxRecDepth 100000 in
theorem read_no (t:ByteArray) (w:World) (hl:t.size≤512) (hE:rdE t≠0) :
 Calls Tryz.prog 11 #[.string t] w fun e w'=>e=.returned (.tuple #[.agg zmsg,.int .i64 1])∧Below w.heap.size w w':=by
 have HW1:Hid (∀ (gs gm:Nat) (W:World),W.heap[gs]?=some (.cells #[.string t] 9 (0,0))→W.heap[gm]?=some (.cells zmsg 38 (0,0))→Calls Tryz.prog 24 #[.pointer (some ⟨gs,0,none⟩),.pointer (some ⟨gm,0,none⟩)] W fun r w'=>r=outE (rdE t)∧Hid (Rd gm W w')):=fun gs gm W hgs hgm=>read1_no gs gm t W hgs hgm (by omega) hE
 have ef:∀ args W,(callFunc 24 args).run Tryz.prog W=.ok (.enter 24 args) W:=enters_of Tryz.func24 (by kernel_rfl) rfl
 have hcmp:decide (512 < (t.size:Int))=false:=by simp;omega
 have HE0:Hid (rdE t≠0):=hE
 have hE2:(rdE t == 0)=false:=by simpa using hE
 have hE3:(rdE t != 0)=true:=by simpa using hE
 clear hl hE
 generalize rdE t=E at *
 go_enter Tryz.func11,Tryz.ntmps11
 go_wp2_with fail
 obtain ⟨w0,hw0⟩:∃ w0,w0=((w.alloc (.cells #[.string t] 9)).alloc (.cells zmsg 38)).alloc (.cells zmsg 38):=⟨_,rfl⟩
 rw [← hw0]
 have hn0:w0.heap.size=w.heap.size+1+1+1:=by rw [hw0];simp
 have HB0:Hid (Below w.heap.size w w0):=(show Below _ _ _ by rw [hw0];exact (((Below.refl _ _).alloc (Nat.le_refl _) _).alloc (by simp) _).alloc (by simp;omega) _)
 have hgs:w0.heap[w.heap.size]?=some (.cells #[.string t] 9 (0,0)):=by
  rw [hw0]
  exact (Lib.alloc_old _ _ _ (by simp;omega)).trans ((Lib.alloc_old _ _ _ (by simp)).trans (heap_alloc_new w _))
 have hgq:w0.heap[w.heap.size+1]?=some (.cells zmsg 38 (0,0)):=by
  rw [hw0]
  have h:=heap_alloc_new (w.alloc (.cells #[.string t] 9)) (.cells zmsg 38)
  exact (Lib.alloc_old _ _ _ (by simp)).trans (by simpa using h)
 have hgm:w0.heap[w.heap.size+1+1]?=some (.cells zmsg 38 (0,0)):=by
  rw [hw0]
  have h:=heap_alloc_new ((w.alloc (.cells #[.string t] 9)).alloc (.cells zmsg 38)) (.cells zmsg 38)
  simpa using h
 clear hw0
 have hge:(w0.alloc (.cells #[.int .i64 0] 29)).heap[w0.heap.size]?=some (.cells #[.int .i64 0] 29 (0,0)):=heap_alloc_new w0 _
 have HAT:Hid (Calls Tryz.prog 20 #[.func (.func 24) #[] #[.pointer (some ⟨w.heap.size,0,none⟩),.pointer (some ⟨w.heap.size+1+1,0,none⟩)]] w0 fun r w'=>r=.returned (.int .i64 E)∧Hid (Rd (w.heap.size+1+1) w0 w')):=(show Calls _ _ _ _ _ by
  refine (attempt_no 24 #[.pointer (some ⟨w.heap.size,0,none⟩),.pointer (some ⟨w.heap.size+1+1,0,none⟩)] E w0 (fun W=>Rd (w.heap.size+1+1) (w0.alloc (.cells #[.int .i64 0] 29)) W) ef ?_).mono ?_
  ·refine (HW1.out w.heap.size (w.heap.size+1+1) _ ((Lib.alloc_old w0 _ _ (by omega)).trans hgs) ((Lib.alloc_old w0 _ _ (by omega)).trans hgm)).mono ?_
   rintro r w' ⟨rfl,hb⟩
   have hk:w'.heap[w0.heap.size]?=some (.cells #[.int .i64 0] 29 (0,0)):=(hb.out.block _ (by simp) (by omega)).trans hge
   exact ⟨outE_ne HE0.out,hb.out,cellsAt hk 0,frozenAt hk 0,(Array.getElem?_eq_some_iff.1 hk).1⟩
  ·rintro r w' ⟨rfl,w1,hR,_,hb⟩
   exact ⟨rfl,(Rd.trans (Rd.ext ((World.Extends.refl w0).alloc _)) hR).belowed hb⟩)
 clear hge hgs hgm HW1 ef
 refine HAT.out.mono ?_
 rintro e w1 ⟨rfl,HD1⟩
 have HB1:Hid (Below w.heap.size w w1):=HB0.out.trans (HD1.out.below (by omega) (by omega))
 have hq1:w1.heap[w.heap.size+1]?=some (.cells zmsg 38 (0,0)):=(HD1.out.block _ (by omega) (by omega)).trans hgq
 have q0:w1.cell? ⟨w.heap.size+1,0,none⟩=some (.int .i64 0):=cellsAt hq1 0
 have y0:w1.frozen? ⟨w.heap.size+1,0,none⟩=false:=frozenAt hq1 0
 have q1:w1.cell? ⟨w.heap.size+1,1,none⟩=some (.bool false):=cellsAt hq1 1
 have y1:w1.frozen? ⟨w.heap.size+1,1,none⟩=false:=frozenAt hq1 1
 have q2:w1.cell? ⟨w.heap.size+1,2,none⟩=some (.bool false):=cellsAt hq1 2
 have y2:w1.frozen? ⟨w.heap.size+1,2,none⟩=false:=frozenAt hq1 2
 have q3:w1.cell? ⟨w.heap.size+1,3,none⟩=some (.int .i64 0):=cellsAt hq1 3
 have y3:w1.frozen? ⟨w.heap.size+1,3,none⟩=false:=frozenAt hq1 3
 have q4:w1.cell? ⟨w.heap.size+1,4,none⟩=some (.string ⟨#[]⟩):=cellsAt hq1 4
 have y4:w1.frozen? ⟨w.heap.size+1,4,none⟩=false:=frozenAt hq1 4
 have q5:w1.cell? ⟨w.heap.size+1,5,none⟩=some (.int .i64 0):=cellsAt hq1 5
 have y5:w1.frozen? ⟨w.heap.size+1,5,none⟩=false:=frozenAt hq1 5
 have q6:w1.cell? ⟨w.heap.size+1,6,none⟩=some (.slice none 0 0):=cellsAt hq1 6
 have y6:w1.frozen? ⟨w.heap.size+1,6,none⟩=false:=frozenAt hq1 6
 clear HAT HB0 HD1 hq1 hgq
 go_wp2_with fail
 refine bodyPost_ret (v:=.tuple #[.agg zmsg,.int .i64 1]) ?_ rfl ⟨rfl,?_⟩
 ·simp [results,Tryz.results11,go_sem,q0,q1,q2,q3,q4,q5,q6]
 ·exact (((((((HB1.out.setCell (p:=⟨w.heap.size+1,0,none⟩) (by simp) _).setCell (p:=⟨w.heap.size+1,1,none⟩) (by simp) _).setCell (p:=⟨w.heap.size+1,2,none⟩) (by simp) _).setCell (p:=⟨w.heap.size+1,3,none⟩) (by simp) _).setCell (p:=⟨w.heap.size+1,4,none⟩) (by simp) _).setCell (p:=⟨w.heap.size+1,5,none⟩) (by simp) _).setCell (p:=⟨w.heap.size+1,6,none⟩) (by simp) _)
set_option maxHeartbeats 1600000 in
set_option maxRecDepth 100000 in
theorem read_long (t:ByteArray) (w:World) (hl:¬ t.size≤512) :
 Calls Tryz.prog 11 #[.string t] w fun e w'=>e=.returned (.tuple #[.agg zmsg,.int .i64 2])∧Below w.heap.size w w':=by
 have hcmp:decide (512 < (t.size:Int))=true:=by simp;omega
 clear hl
 go_enter Tryz.func11,Tryz.ntmps11
 go_wp2_with fail
 refine bodyPost_ret (v:=.tuple #[.agg zmsg,.int .i64 2]) ?_ rfl ⟨rfl,?_⟩
 ·simp [results,Tryz.results11,go_sem]
 ·exact ((Below.refl _ _).alloc (Nat.le_refl _) _).alloc (by simp) _
abbrev RdP (t:ByteArray) (w:World) (e:Ending) (w':World):Prop:=
 Below w.heap.size w w'∧((∃ M v,msgF t=some M∧t.size≤512∧chkMsg M.id M.code M.typ M.R M.rs=0∧e=.returned (.tuple #[.agg #[.int .i64 M.id,.bool M.ans,.bool M.cut,.int .i64 M.code,.string M.R,.int .i64 M.typ,v],.int .i64 0])∧Hid (Rc.Own w.heap.size w' v M.rs))∨(∃ E:Int,E=(if t.size≤512 then 1 else 2)∧(t.size≤512→rdE t≠0)∧e=.returned (.tuple #[.agg zmsg,.int .i64 E])))
theorem read_b (t:ByteArray) (w:World):Calls Tryz.prog 11 #[.string t] w (RdP t w):=by
 by_cases hl:t.size≤512
 ·by_cases hE:rdE t=0
  ·have h2:∃ M,msgF t=some M∧chkMsg M.id M.code M.typ M.R M.rs=0:=by
    unfold rdE at hE
    cases hM:msgF t with
    | none=>rw [hM] at hE;simp at hE
    | some M=>rw [hM] at hE;exact ⟨M,rfl,hE⟩
   obtain ⟨M,hM,hc⟩:=h2
   refine (read_any M.id M.code M.typ M.ans M.cut M.R t M.rs w (reads_of hM (by omega)) hl hc).mono ?_
   rintro e w' ⟨v,h1,h2,h3⟩
   exact ⟨h2,.inl ⟨M,v,hM,hl,hc,h1,h3⟩⟩
  ·refine (read_no t w hl hE).mono ?_
   rintro e w' ⟨h1,h2⟩
   exact ⟨h2,.inr ⟨1,by rw [if_pos hl],fun _=>hE,h1⟩⟩
 ·refine (read_long t w hl).mono ?_
  rintro e w' ⟨h1,h2⟩
  exact ⟨h2,.inr ⟨2,by rw [if_neg hl],fun h=>absurd h hl,h1⟩⟩
end Go.Proofs.YtignmeaeibaejaaGreatDoor
namespace Go.Proofs.YtignmeaeibaejaaGreatDoor
open Go.RowKit
def IsC (k:Nat) (t:ByteArray) (a:Nat) (bad:Bool) (W:World):Prop:=W.heap[k]?=some (.cells #[.string t,.int .i64 a,.bool bad] 76 (0,0))
theorem IsC.lt {k a:Nat} {t:ByteArray} {bad:Bool} {W:World} (h:IsC k t a bad W):k < W.heap.size:=(Array.getElem?_eq_some_iff.1 h).1
theorem IsC.rd {k g a:Nat} {t:ByteArray} {bad:Bool} {W W':World} (h:IsC k t a bad W) (h2:Rd g W W') (hne:k≠g):IsC k t a bad W':=(h2.block k h.lt hne).trans h
theorem IsC.drewN {k a:Nat} {t:ByteArray} {bad:Bool} {W:World} (h:IsC k t a bad W) (m:Nat):IsC k t a bad (W.drewN m):=h
theorem IsC.at {k a:Nat} {t:ByteArray} {bad:Bool} {W:World} (h:IsC k t a bad W) (b:Nat):IsC k t b bad (W.setCell ⟨k,1,none⟩ (.int .i64 b)):=Joins.block_setCell (i:=1) h (.int .i64 b)
def Lb (k b f:Nat) (t:ByteArray) (i:Nat) (x:ByteArray) (W:World):Prop:=x.size=i∧((b+1+i≤t.size∧x=lwS (t.extract (b+1) (b+1+i))∧IsC k t (b+1+i) false W)∨(¬ b+1+f≤t.size∧∃ q,q≤20000∧IsC k t q true W))
theorem Lb.ext {k b f i:Nat} {t x:ByteArray} {W W':World} (h:Lb k b f t i x W) (hx:W.Extends W'):Lb k b f t i x W':=by
 obtain ⟨h1,⟨h2,h3,h4⟩ | ⟨h2,q,h3,h4⟩⟩:=h
 ·exact ⟨h1,.inl ⟨h2,h3,(hx.block k h4.lt).trans h4⟩⟩
 ·exact ⟨h1,.inr ⟨h2,q,h3,(hx.block k h4.lt).trans h4⟩⟩
end Go.Proofs.YtignmeaeibaejaaGreatDoor
