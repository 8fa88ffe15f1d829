import Derived.Test.YtffdoiokmiklgaaGreatDoortr45
import Derived.Test.YtffdoiokmiklgaaGreatDoortr16
import Derived.Deep.RegionHeld3
import Derived.Test.YtffdoiokmiklgaaGreatDoortr39
import Derived.Test.YtffdoiokmiklgaaGreatDoortr37
import Derived.Test.YtffdoiokmiklgaaGreatDoortr44
import Derived.Test.YtffdoiokmiklgaaGreatDoortr40
namespace Go.Proofs.YtffdoiokmiklgaaGreatDoor
open Go.RowKit
def TellSays (n:Nd) (ne:Int) (w:World) (e:Ending) (w':World):Prop:=Below w.heap.size w w' ∧
 ((ne≠0∧e=.returned (.tuple #[.agg #[.string ⟨#[]⟩,.string ⟨#[]⟩,.slice none 0 0,.slice none 0 0,.slice none 0 0,.slice none 0 0,.int .i64 0,.int .i64 0,.int .i64 0,.int .i64 0,.int .i64 0,.slice none 0 0],.agg #[.string ⟨#[]⟩,.bool false,.slice none 0 0,.slice none 0 0,.slice none 0 0,.slice none 0 0],.int .i64 ne])) ∨
 (ne=0∧∃ n' um ur us ug uw a k c l,e=.returned (.tuple #[.agg (ndA n' um ur us ug uw),.agg #[.string n.name,.bool false,.slice a k c,.slice none 0 0,.slice none 0 0,.slice none 0 0],.int .i64 0])∧n'={ n with rs:=n'.rs }∧TellIs n l n'.rs∧NdOwn w.heap.size w' n' um ur us ug uw∧NdOk n'∧Own w.heap.size w' (.slice a k c) l))
def ToldBox (n:Nd) (tb B:Nat) (n':Nd) (W:World):Prop:=∃ a k c l,n'={ n with rs:=n'.rs }∧TellIs n l n'.rs∧W.heap[tb]?=some (.cells #[.string n.name,.bool false,.slice a k c,.slice none 0 0,.slice none 0 0,.slice none 0 0] 67 (0,0))∧Own B W (.slice a k c) l
set_option maxHeartbeats 25600000 in
set_option maxRecDepth 100000 in
theorem Tell_any (n:Nd) (vm vr vs vg vw:Value) (w:World) (h:NdIs w n vm vr vs vg vw) :
 Calls Tryz.prog 34 #[.agg (ndA n vm vr vs vg vw)] w fun e w'=>TellSays n n.e w e w':=by
 have HIS:Hid (NdIs w n vm vr vs vg vw):=h
 have HWS:Hid (∀ W0,Below w.heap.size w W0→W0.heap.size=w.heap.size+4→W0.heap[w.heap.size+3]?=some (.cells #[.string ⟨#[]⟩,.bool false,.slice none 0 0,.slice none 0 0,.slice none 0 0,.slice none 0 0] 67 (0,0))→Calls Tryz.prog 61 #[.agg (ndA n vm vr vs vg vw),.func (.func 66) #[] #[.pointer (some ⟨w.heap.size+3,0,none⟩)]] W0 fun e w'=>WorkSaysN n.e 0 (fun k=>k=w.heap.size+3) (ToldBox n (w.heap.size+3) (W0.heap.size+2)) W0 e w'):=fun W0 hb hs hc=>
  workN_any 66 #[.pointer (some ⟨w.heap.size+3,0,none⟩)] (enters_of Tryz.func66 (by kernel_rfl) rfl) n vm vr vs vg vw W0 (h.below hb) (fun k=>k=w.heap.size+3) 0 (ToldBox n (w.heap.size+3) (W0.heap.size+2))
   (fun he W b hW hb2 hk=>by
     refine (tellC_any (W0.heap.size+2) b (w.heap.size+3) n W hk (by omega) (Nd.sp he) ((hW.block _ (by omega)).trans hc)).mono ?_
     rintro e w' ⟨rfl,hs2,a,k,c,l,rest,HT,hbx,ho,hwk⟩
     have hbW:=hk.lt
     exact ⟨rfl,hs2.mono (fun k hk=>by omega),fun _=>⟨_,hwk,a,k,c,l,rfl,HT.out,hbx,ho.mono (by omega)⟩⟩)
   (fun n' W j x hR=>by
     obtain ⟨a,k,c,l,h1,h2,h3,h4⟩:=hR
     exact ⟨a,k,c,l,h1,h2,(Below.heap_setCell _ _ _ _ (by simp only;omega)).trans h3,ownsRow_setCell_below h4 (by simp only;omega) _⟩)
   (fun _ hk=>by omega)
 have HNM:Hid (∀ nd:Nd,nd=n→nd.name=n.name):=fun _ h=>by rw [h]
 generalize hne0:n.e=ne at *
 clear hne0
 have HN:Hid (∃ n0,n0=n):=⟨_,rfl⟩
 obtain ⟨N,hN⟩:∃ N,N=n:=⟨_,rfl⟩
 rw [← hN] at HWS ⊢
 have HNN:Hid (N.name=n.name):=by rw [hN];rfl
 obtain ⟨nm,ct,ms,rs,sv,gw,⟨px,py,pz,ph,pq⟩,wh⟩:=n
 obtain ⟨⟨em,cm,rfl,_,_⟩,⟨er_,cr,rfl,_,_⟩,⟨es,cs_,rfl,_,_⟩,⟨eg_,cg,rfl,_,_⟩,⟨eh,ch,rfl,_,_⟩,_,_⟩:=h
 have hA:ndA N (.slice em ms.length cm) (.slice er_ rs.length cr) (.slice es sv.length cs_) (.slice eg_ gw.length cg) (.slice eh wh.length ch)=#[.string nm,.string ct,.slice em ms.length cm,.slice er_ rs.length cr,.slice es sv.length cs_,.slice eg_ gw.length cg,.int .i64 px,.int .i64 py,.int .i64 pz,.int .i64 ph,.int .i64 pq,.slice eh wh.length ch]:=by rw [hN]
 simp only [hA] at HWS ⊢
 clear hA hN HN HNM
 simp only at HNN
 generalize ms.length=km at *
 generalize rs.length=kr at *
 generalize sv.length=ks at *
 generalize gw.length=kg at *
 generalize wh.length=kh at *
 obtain ⟨W0,hW0⟩:∃ W0,W0=((((w.alloc (.cells #[.string nm,.string ct,.slice em km cm,.slice er_ kr cr,.slice es ks cs_,.slice eg_ kg cg,.int .i64 px,.int .i64 py,.int .i64 pz,.int .i64 ph,.int .i64 pq,.slice eh kh ch] 51)).alloc (.cells #[.string ⟨#[]⟩,.string ⟨#[]⟩,.slice none 0 0,.slice none 0 0,.slice none 0 0,.slice none 0 0,.int .i64 0,.int .i64 0,.int .i64 0,.int .i64 0,.int .i64 0,.slice none 0 0] 51)).alloc (.cells #[.string ⟨#[]⟩,.bool false,.slice none 0 0,.slice none 0 0,.slice none 0 0,.slice none 0 0] 67)).alloc (.cells #[.string ⟨#[]⟩,.bool false,.slice none 0 0,.slice none 0 0,.slice none 0 0,.slice none 0 0] 67)):=⟨_,rfl⟩
 have hb0:Below w.heap.size w W0:=by rw [hW0];exact ((((Below.refl _ _).alloc (Nat.le_refl _) _).alloc (by simp<;>omega) _).alloc (by simp<;>omega) _).alloc (by simp<;>omega) _
 have hs0:W0.heap.size=w.heap.size+4:=by rw [hW0];simp
 have ht0:W0.heap[w.heap.size+3]?=some (.cells #[.string ⟨#[]⟩,.bool false,.slice none 0 0,.slice none 0 0,.slice none 0 0,.slice none 0 0] 67 (0,0)):=by
  have h:=heap_alloc_new (((w.alloc (.cells #[.string nm,.string ct,.slice em km cm,.slice er_ kr cr,.slice es ks cs_,.slice eg_ kg cg,.int .i64 px,.int .i64 py,.int .i64 pz,.int .i64 ph,.int .i64 pq,.slice eh kh ch] 51)).alloc (.cells #[.string ⟨#[]⟩,.string ⟨#[]⟩,.slice none 0 0,.slice none 0 0,.slice none 0 0,.slice none 0 0,.int .i64 0,.int .i64 0,.int .i64 0,.int .i64 0,.int .i64 0,.slice none 0 0] 51)).alloc (.cells #[.string ⟨#[]⟩,.bool false,.slice none 0 0,.slice none 0 0,.slice none 0 0,.slice none 0 0] 67)) (.cells #[.string ⟨#[]⟩,.bool false,.slice none 0 0,.slice none 0 0,.slice none 0 0,.slice none 0 0] 67)
  rw [hW0];simpa using h
 have hy0:W0.heap[w.heap.size+2]?=some (.cells #[.string ⟨#[]⟩,.bool false,.slice none 0 0,.slice none 0 0,.slice none 0 0,.slice none 0 0] 67 (0,0)):=by
  have h:=heap_alloc_new ((w.alloc (.cells #[.string nm,.string ct,.slice em km cm,.slice er_ kr cr,.slice es ks cs_,.slice eg_ kg cg,.int .i64 px,.int .i64 py,.int .i64 pz,.int .i64 ph,.int .i64 pq,.slice eh kh ch] 51)).alloc (.cells #[.string ⟨#[]⟩,.string ⟨#[]⟩,.slice none 0 0,.slice none 0 0,.slice none 0 0,.slice none 0 0,.int .i64 0,.int .i64 0,.int .i64 0,.int .i64 0,.int .i64 0,.slice none 0 0] 51)) (.cells #[.string ⟨#[]⟩,.bool false,.slice none 0 0,.slice none 0 0,.slice none 0 0,.slice none 0 0] 67)
  rw [hW0,Below.heap_alloc _ _ _ (by simp<;>omega)];simpa using h
 have hz0:W0.heap[w.heap.size+1]?=some (.cells #[.string ⟨#[]⟩,.string ⟨#[]⟩,.slice none 0 0,.slice none 0 0,.slice none 0 0,.slice none 0 0,.int .i64 0,.int .i64 0,.int .i64 0,.int .i64 0,.int .i64 0,.slice none 0 0] 51 (0,0)):=by
  have h:=heap_alloc_new (w.alloc (.cells #[.string nm,.string ct,.slice em km cm,.slice er_ kr cr,.slice es ks cs_,.slice eg_ kg cg,.int .i64 px,.int .i64 py,.int .i64 pz,.int .i64 ph,.int .i64 pq,.slice eh kh ch] 51)) (.cells #[.string ⟨#[]⟩,.string ⟨#[]⟩,.slice none 0 0,.slice none 0 0,.slice none 0 0,.slice none 0 0,.int .i64 0,.int .i64 0,.int .i64 0,.int .i64 0,.int .i64 0,.slice none 0 0] 51)
  rw [hW0,Below.heap_alloc _ _ _ (by simp<;>omega),Below.heap_alloc _ _ _ (by simp<;>omega)];simpa using h
 have HWC:=HWS.out W0 hb0 hs0 ht0
 have HB0:Hid (Below w.heap.size w W0):=hb0
 have HZ0:Hid (W0.heap[w.heap.size+1]?=some (.cells #[.string ⟨#[]⟩,.string ⟨#[]⟩,.slice none 0 0,.slice none 0 0,.slice none 0 0,.slice none 0 0,.int .i64 0,.int .i64 0,.int .i64 0,.int .i64 0,.int .i64 0,.slice none 0 0] 51 (0,0))):=hz0
 have HY0:Hid (W0.heap[w.heap.size+2]?=some (.cells #[.string ⟨#[]⟩,.bool false,.slice none 0 0,.slice none 0 0,.slice none 0 0,.slice none 0 0] 67 (0,0))):=hy0
 have HT0:Hid (W0.heap[w.heap.size+3]?=some (.cells #[.string ⟨#[]⟩,.bool false,.slice none 0 0,.slice none 0 0,.slice none 0 0,.slice none 0 0] 67 (0,0))):=ht0
 clear hb0 hz0 hy0 ht0 HWS
 go_enter Tryz.func34,Tryz.ntmps34
 go_wp2_with fail
 rw [← hW0]
 refine HWC.mono ?_
 rintro e w1 ⟨hsh,hor⟩
 have hs1:w.heap.size+4≤w1.heap.size:=by have:=hsh.size;omega
 have HB1:Hid (Below w.heap.size w w1):=HB0.out.trans (hsh.below (by omega) (fun k hk=>by omega))
 have HZ1:Hid (w1.heap[w.heap.size+1]?=some (.cells #[.string ⟨#[]⟩,.string ⟨#[]⟩,.slice none 0 0,.slice none 0 0,.slice none 0 0,.slice none 0 0,.int .i64 0,.int .i64 0,.int .i64 0,.int .i64 0,.int .i64 0,.slice none 0 0] 51 (0,0))):=(hsh.block _ (by omega) (by omega)).trans HZ0.out
 have HY1:Hid (w1.heap[w.heap.size+2]?=some (.cells #[.string ⟨#[]⟩,.bool false,.slice none 0 0,.slice none 0 0,.slice none 0 0,.slice none 0 0] 67 (0,0))):=(hsh.block _ (by omega) (by omega)).trans HY0.out
 clear hsh HWC hW0
 rcases hor with ⟨hne,hbw,rfl⟩ | ⟨_,hee,_⟩ | ⟨hne,_,n',um,ur,us,ug,uw,rfl,hown,hok,ta,tk,tc,l,hn',hT,hbx,hol⟩
 rotate_left
 ·exact absurd rfl hee
 rotate_left
 ·have HT1:Hid (w1.heap[w.heap.size+3]?=some (.cells #[.string ⟨#[]⟩,.bool false,.slice none 0 0,.slice none 0 0,.slice none 0 0,.slice none 0 0] 67 (0,0))):=(hbw.block _ (by omega)).trans HT0.out
  have HNE:Hid (ne≠0):=hne
  clear hne hbw
  obtain ⟨W5,hW5⟩:∃ W5,W5=w1.alloc (.cells #[.string ⟨#[]⟩,.string ⟨#[]⟩,.slice none 0 0,.slice none 0 0,.slice none 0 0,.slice none 0 0,.int .i64 0,.int .i64 0,.int .i64 0,.int .i64 0,.int .i64 0,.slice none 0 0] 51):=⟨_,rfl⟩
  have hb5:Below w1.heap.size w1 W5:=by rw [hW5];exact (Below.refl _ _).alloc (Nat.le_refl _) _
  have hg5:W5.heap[w1.heap.size]?=some (.cells #[.string ⟨#[]⟩,.string ⟨#[]⟩,.slice none 0 0,.slice none 0 0,.slice none 0 0,.slice none 0 0,.int .i64 0,.int .i64 0,.int .i64 0,.int .i64 0,.int .i64 0,.slice none 0 0] 51 (0,0)):=by rw [hW5];exact heap_alloc_new w1 _
  have hz5:W5.heap[w.heap.size+1]?=some (.cells #[.string ⟨#[]⟩,.string ⟨#[]⟩,.slice none 0 0,.slice none 0 0,.slice none 0 0,.slice none 0 0,.int .i64 0,.int .i64 0,.int .i64 0,.int .i64 0,.int .i64 0,.slice none 0 0] 51 (0,0)):=(hb5.block _ (by omega)).trans HZ1.out
  have hy5:W5.heap[w.heap.size+2]?=some (.cells #[.string ⟨#[]⟩,.bool false,.slice none 0 0,.slice none 0 0,.slice none 0 0,.slice none 0 0] 67 (0,0)):=(hb5.block _ (by omega)).trans HY1.out
  have ht5:W5.heap[w.heap.size+3]?=some (.cells #[.string ⟨#[]⟩,.bool false,.slice none 0 0,.slice none 0 0,.slice none 0 0,.slice none 0 0] 67 (0,0)):=(hb5.block _ (by omega)).trans HT1.out
  have hs5:w1.heap.size < W5.heap.size:=by rw [hW5];simp
  have HB5:Hid (Below w.heap.size w W5):=HB1.out.trans (hb5.mono HB1.out.size)
  have HZ5:Hid (W5.heap[w.heap.size+1]?=some (.cells #[.string ⟨#[]⟩,.string ⟨#[]⟩,.slice none 0 0,.slice none 0 0,.slice none 0 0,.slice none 0 0,.int .i64 0,.int .i64 0,.int .i64 0,.int .i64 0,.int .i64 0,.slice none 0 0] 51 (0,0))):=hz5
  have HY5:Hid (W5.heap[w.heap.size+1+1]?=some (.cells #[.string ⟨#[]⟩,.bool false,.slice none 0 0,.slice none 0 0,.slice none 0 0,.slice none 0 0] 67 (0,0))):=hy5
  have HB15:Hid (Below w1.heap.size w1 W5):=hb5
  obtain ⟨p0,p1,p2,p3,p4,p5,p6,p7,p8,p9,p10,p11⟩:=cells12 hg5
  obtain ⟨q0,q1,q2,q3,q4,q5,q6,q7,q8,q9,q10,q11⟩:=cells12 hz5
  obtain ⟨qz0,qz1,qz2,qz3,qz4,qz5,qz6,qz7,qz8,qz9,qz10,qz11⟩:=frz12 hz5
  obtain ⟨r0,r1,r2,r3,r4,r5⟩:=cells6 hy5
  obtain ⟨rz0,rz1,rz2,rz3,rz4,rz5⟩:=frz6 hy5
  obtain ⟨t0,t1,t2,t3,t4,t5⟩:=cells6 ht5
  clear hb5 hg5 hz5 hy5 ht5
  have ne1:w.heap.size+1≠w1.heap.size:=by omega
  have ne2:w.heap.size+2≠w1.heap.size:=by omega
  have ne3:w.heap.size+1≠w.heap.size+3:=by omega
  have ne4:w.heap.size+2≠w.heap.size+3:=by omega
  go_upto_region 3 with fail
  rw [← hW5]
  clear hW5
  go_region_held3 (fun w'=>w'.cell? ⟨w1.heap.size,0,none⟩=some (.string ⟨#[]⟩)∧w'.cell? ⟨w1.heap.size,1,none⟩=some (.string ⟨#[]⟩)∧w'.cell? ⟨w1.heap.size,2,none⟩=some (.slice none 0 0)∧w'.cell? ⟨w1.heap.size,3,none⟩=some (.slice none 0 0)∧w'.cell? ⟨w1.heap.size,4,none⟩=some (.slice none 0 0)∧w'.cell? ⟨w1.heap.size,5,none⟩=some (.slice none 0 0)∧w'.cell? ⟨w1.heap.size,6,none⟩=some (.int .i64 0)∧w'.cell? ⟨w1.heap.size,7,none⟩=some (.int .i64 0)∧w'.cell? ⟨w1.heap.size,8,none⟩=some (.int .i64 0)∧w'.cell? ⟨w1.heap.size,9,none⟩=some (.int .i64 0)∧w'.cell? ⟨w1.heap.size,10,none⟩=some (.int .i64 0)∧w'.cell? ⟨w1.heap.size,11,none⟩=some (.slice none 0 0)∧w'.cell? ⟨w.heap.size+3,0,none⟩=some (.string ⟨#[]⟩)∧w'.cell? ⟨w.heap.size+3,1,none⟩=some (.bool false)∧w'.cell? ⟨w.heap.size+3,2,none⟩=some (.slice none 0 0)∧w'.cell? ⟨w.heap.size+3,3,none⟩=some (.slice none 0 0)∧w'.cell? ⟨w.heap.size+3,4,none⟩=some (.slice none 0 0)∧w'.cell? ⟨w.heap.size+3,5,none⟩=some (.slice none 0 0)) (simp only [World.cell?_setCell_far,World.cell?_drew,ne_eq,ne1,ne2,ne3,ne4,not_false_eq_true,p0,p1,p2,p3,p4,p5,p6,p7,p8,p9,p10,p11,t0,t1,t2,t3,t4,t5,and_self]) (fail)
  all_goals go_wp2_with fail
  all_goals
   clear q0 qz0 q1 qz1 q2 qz2 q3 qz3 q4 qz4 q5 qz5 q6 qz6 q7 qz7 q8 qz8 q9 qz9 q10 qz10 q11 qz11 r0 rz0 r1 rz1 r2 rz2 r3 rz3 r4 rz4 r5 rz5 p0 p1 p2 p3 p4 p5 p6 p7 p8 p9 p10 p11 t0 t1 t2 t3 t4 t5
   first
   | (obtain ⟨WF,hWG⟩:∃ WF,WF=World.drew ((((((((((((((((((W5.setCell ⟨w.heap.size+1,0,none⟩ (.string ⟨#[]⟩)).setCell ⟨w.heap.size+1,1,none⟩ (.string ⟨#[]⟩)).setCell ⟨w.heap.size+1,2,none⟩ (.slice none 0 0)).setCell ⟨w.heap.size+1,3,none⟩ (.slice none 0 0)).setCell ⟨w.heap.size+1,4,none⟩ (.slice none 0 0)).setCell ⟨w.heap.size+1,5,none⟩ (.slice none 0 0)).setCell ⟨w.heap.size+1,6,none⟩ (.int .i64 0)).setCell ⟨w.heap.size+1,7,none⟩ (.int .i64 0)).setCell ⟨w.heap.size+1,8,none⟩ (.int .i64 0)).setCell ⟨w.heap.size+1,9,none⟩ (.int .i64 0)).setCell ⟨w.heap.size+1,10,none⟩ (.int .i64 0)).setCell ⟨w.heap.size+1,11,none⟩ (.slice none 0 0)).setCell ⟨w.heap.size+1+1,0,none⟩ (.string ⟨#[]⟩)).setCell ⟨w.heap.size+1+1,1,none⟩ (.bool false)).setCell ⟨w.heap.size+1+1,2,none⟩ (.slice none 0 0)).setCell ⟨w.heap.size+1+1,3,none⟩ (.slice none 0 0)).setCell ⟨w.heap.size+1+1,4,none⟩ (.slice none 0 0)).setCell ⟨w.heap.size+1+1,5,none⟩ (.slice none 0 0)):=⟨_,rfl⟩
      rw [← hWG]
      have hWF:WF=World.drew (setAll (w.heap.size+1+1) [.string ⟨#[]⟩,.bool false,.slice none 0 0,.slice none 0 0,.slice none 0 0,.slice none 0 0] 0 (setAll (w.heap.size+1) [.string ⟨#[]⟩,.string ⟨#[]⟩,.slice none 0 0,.slice none 0 0,.slice none 0 0,.slice none 0 0,.int .i64 0,.int .i64 0,.int .i64 0,.int .i64 0,.int .i64 0,.slice none 0 0] 0 W5)):=by rw [hWG];simp only [setAll,Nat.zero_add,Nat.reduceAdd]
      clear hWG
      have hz:WF.heap[w.heap.size+1]?=some (.cells #[.string ⟨#[]⟩,.string ⟨#[]⟩,.slice none 0 0,.slice none 0 0,.slice none 0 0,.slice none 0 0,.int .i64 0,.int .i64 0,.int .i64 0,.int .i64 0,.int .i64 0,.slice none 0 0] 51 (0,0)):=by rw [hWF];rw [drew_heap,setAll_other (by omega)];exact (setAll12 HZ5.out _ _ _ _ _ _ _ _ _ _ _ _)
      have hy:WF.heap[w.heap.size+1+1]?=some (.cells #[.string ⟨#[]⟩,.bool false,.slice none 0 0,.slice none 0 0,.slice none 0 0,.slice none 0 0] 67 (0,0)):=by rw [hWF];rw [drew_heap];exact setAll6 ((setAll_other (by omega) _ _ _).trans HY5.out) _ _ _ _ _ _
      have HB6:Hid (Below w.heap.size w WF):=by rw [hWF];exact drew_below (setAll_below (by omega) _ _ (setAll_below (by omega) _ _ HB5.out))
      have HOW:Hid (∀ {base n k:Nat} {T:TypeId} {v:Value} {xs:List Value},w.heap.size+1+1 < base→w1.ownsRow base T k v n xs→WF.ownsRow base T k v n xs):=fun hbs h=>by rw [hWF];exact drew_owns (setAll_owns (by omega) _ _ (setAll_owns (by omega) _ _ (owns_below h HB15.out)))
      clear hWF)
   | (obtain ⟨WF,hWG⟩:∃ WF,WF=World.drew ((((((((((((((((((W5.setCell ⟨w.heap.size+1+1,0,none⟩ (.string ⟨#[]⟩)).setCell ⟨w.heap.size+1+1,1,none⟩ (.bool false)).setCell ⟨w.heap.size+1+1,2,none⟩ (.slice none 0 0)).setCell ⟨w.heap.size+1+1,3,none⟩ (.slice none 0 0)).setCell ⟨w.heap.size+1+1,4,none⟩ (.slice none 0 0)).setCell ⟨w.heap.size+1+1,5,none⟩ (.slice none 0 0)).setCell ⟨w.heap.size+1,0,none⟩ (.string ⟨#[]⟩)).setCell ⟨w.heap.size+1,1,none⟩ (.string ⟨#[]⟩)).setCell ⟨w.heap.size+1,2,none⟩ (.slice none 0 0)).setCell ⟨w.heap.size+1,3,none⟩ (.slice none 0 0)).setCell ⟨w.heap.size+1,4,none⟩ (.slice none 0 0)).setCell ⟨w.heap.size+1,5,none⟩ (.slice none 0 0)).setCell ⟨w.heap.size+1,6,none⟩ (.int .i64 0)).setCell ⟨w.heap.size+1,7,none⟩ (.int .i64 0)).setCell ⟨w.heap.size+1,8,none⟩ (.int .i64 0)).setCell ⟨w.heap.size+1,9,none⟩ (.int .i64 0)).setCell ⟨w.heap.size+1,10,none⟩ (.int .i64 0)).setCell ⟨w.heap.size+1,11,none⟩ (.slice none 0 0)):=⟨_,rfl⟩
      rw [← hWG]
      have hWF:WF=World.drew (setAll (w.heap.size+1) [.string ⟨#[]⟩,.string ⟨#[]⟩,.slice none 0 0,.slice none 0 0,.slice none 0 0,.slice none 0 0,.int .i64 0,.int .i64 0,.int .i64 0,.int .i64 0,.int .i64 0,.slice none 0 0] 0 (setAll (w.heap.size+1+1) [.string ⟨#[]⟩,.bool false,.slice none 0 0,.slice none 0 0,.slice none 0 0,.slice none 0 0] 0 W5)):=by rw [hWG];simp only [setAll,Nat.zero_add,Nat.reduceAdd]
      clear hWG
      have hz:WF.heap[w.heap.size+1]?=some (.cells #[.string ⟨#[]⟩,.string ⟨#[]⟩,.slice none 0 0,.slice none 0 0,.slice none 0 0,.slice none 0 0,.int .i64 0,.int .i64 0,.int .i64 0,.int .i64 0,.int .i64 0,.slice none 0 0] 51 (0,0)):=by rw [hWF];rw [drew_heap];exact setAll12 ((setAll_other (by omega) _ _ _).trans HZ5.out) _ _ _ _ _ _ _ _ _ _ _ _
      have hy:WF.heap[w.heap.size+1+1]?=some (.cells #[.string ⟨#[]⟩,.bool false,.slice none 0 0,.slice none 0 0,.slice none 0 0,.slice none 0 0] 67 (0,0)):=by rw [hWF];rw [drew_heap,setAll_other (by omega)];exact (setAll6 HY5.out _ _ _ _ _ _)
      have HB6:Hid (Below w.heap.size w WF):=by rw [hWF];exact drew_below (setAll_below (by omega) _ _ (setAll_below (by omega) _ _ HB5.out))
      have HOW:Hid (∀ {base n k:Nat} {T:TypeId} {v:Value} {xs:List Value},w.heap.size+1+1 < base→w1.ownsRow base T k v n xs→WF.ownsRow base T k v n xs):=fun hbs h=>by rw [hWF];exact drew_owns (setAll_owns (by omega) _ _ (setAll_owns (by omega) _ _ (owns_below h HB15.out)))
      clear hWF)
   obtain ⟨q0,q1,q2,q3,q4,q5,q6,q7,q8,q9,q10,q11⟩:=cells12 hz
   obtain ⟨r0,r1,r2,r3,r4,r5⟩:=cells6 hy
   refine bodyPost_ret (v:=.tuple #[.agg #[.string ⟨#[]⟩,.string ⟨#[]⟩,.slice none 0 0,.slice none 0 0,.slice none 0 0,.slice none 0 0,.int .i64 0,.int .i64 0,.int .i64 0,.int .i64 0,.int .i64 0,.slice none 0 0],.agg #[.string ⟨#[]⟩,.bool false,.slice none 0 0,.slice none 0 0,.slice none 0 0,.slice none 0 0],.int .i64 ne]) ?_ rfl ?_
   ·simp [results,Tryz.results34,go_sem,q0,q1,q2,q3,q4,q5,q6,q7,q8,q9,q10,q11,r0,r1,r2,r3,r4,r5]
   ·unfold TellSays
    exact ⟨HB6.out,.inl ⟨HNE.out,rfl⟩⟩
 ·have HNE:Hid (ne=0):=hne
  rw [HNN.out] at hbx
  have HT1:Hid (w1.heap[w.heap.size+3]?=some (.cells #[.string nm,.bool false,.slice ta tk tc,.slice none 0 0,.slice none 0 0,.slice none 0 0] 67 (0,0))):=hbx
  have HTI:Hid (TellIs N l n'.rs):=hT
  have HN1:Hid (n'={ N with rs:=n'.rs }):=hn'
  have HOWN:Hid (NdOwn W0.heap.size w1 n' um ur us ug uw):=hown
  have HOL:Hid (Own (W0.heap.size+2) w1 (.slice ta tk tc) l):=hol
  have HOK2:Hid (NdOk n'):=hok
  obtain ⟨im2,jm2,hvm,_⟩:=own_slice hown.ms
  obtain ⟨ir2,jr2,hvr,_⟩:=own_slice hown.rs
  obtain ⟨is2,js2,hvs,_⟩:=own_slice hown.sv
  obtain ⟨ig2,jg2,hvg,_⟩:=own_slice hown.gw
  obtain ⟨ih2,jh2,hvh,_⟩:=own_slice hown.wh
  subst hvm hvr hvs hvg hvh
  clear hown hok hne hT hn' hbx hol
  obtain ⟨n2,c2,ms2,rs2,sv2,gw2,⟨qx,qy,qz,qh,qq⟩,wh2⟩:=n'
  obtain ⟨W5,hW5⟩:∃ W5,W5=w1.alloc (.cells #[.string n2,.string c2,.slice im2 ms2.length jm2,.slice ir2 rs2.length jr2,.slice is2 sv2.length js2,.slice ig2 gw2.length jg2,.int .i64 qx,.int .i64 qy,.int .i64 qz,.int .i64 qh,.int .i64 qq,.slice ih2 wh2.length jh2] 51):=⟨_,rfl⟩
  have hb5:Below w1.heap.size w1 W5:=by rw [hW5];exact (Below.refl _ _).alloc (Nat.le_refl _) _
  have hg5:W5.heap[w1.heap.size]?=some (.cells #[.string n2,.string c2,.slice im2 ms2.length jm2,.slice ir2 rs2.length jr2,.slice is2 sv2.length js2,.slice ig2 gw2.length jg2,.int .i64 qx,.int .i64 qy,.int .i64 qz,.int .i64 qh,.int .i64 qq,.slice ih2 wh2.length jh2] 51 (0,0)):=by rw [hW5];exact heap_alloc_new w1 _
  have hz5:W5.heap[w.heap.size+1]?=some (.cells #[.string ⟨#[]⟩,.string ⟨#[]⟩,.slice none 0 0,.slice none 0 0,.slice none 0 0,.slice none 0 0,.int .i64 0,.int .i64 0,.int .i64 0,.int .i64 0,.int .i64 0,.slice none 0 0] 51 (0,0)):=(hb5.block _ (by omega)).trans HZ1.out
  have hy5:W5.heap[w.heap.size+2]?=some (.cells #[.string ⟨#[]⟩,.bool false,.slice none 0 0,.slice none 0 0,.slice none 0 0,.slice none 0 0] 67 (0,0)):=(hb5.block _ (by omega)).trans HY1.out
  have ht5:W5.heap[w.heap.size+3]?=some (.cells #[.string nm,.bool false,.slice ta tk tc,.slice none 0 0,.slice none 0 0,.slice none 0 0] 67 (0,0)):=(hb5.block _ (by omega)).trans HT1.out
  have hs5:w1.heap.size < W5.heap.size:=by rw [hW5];simp
  have HB5:Hid (Below w.heap.size w W5):=HB1.out.trans (hb5.mono HB1.out.size)
  have HZ5:Hid (W5.heap[w.heap.size+1]?=some (.cells #[.string ⟨#[]⟩,.string ⟨#[]⟩,.slice none 0 0,.slice none 0 0,.slice none 0 0,.slice none 0 0,.int .i64 0,.int .i64 0,.int .i64 0,.int .i64 0,.int .i64 0,.slice none 0 0] 51 (0,0))):=hz5
  have HY5:Hid (W5.heap[w.heap.size+1+1]?=some (.cells #[.string ⟨#[]⟩,.bool false,.slice none 0 0,.slice none 0 0,.slice none 0 0,.slice none 0 0] 67 (0,0))):=hy5
  have HB15:Hid (Below w1.heap.size w1 W5):=hb5
  obtain ⟨p0,p1,p2,p3,p4,p5,p6,p7,p8,p9,p10,p11⟩:=cells12 hg5
  obtain ⟨q0,q1,q2,q3,q4,q5,q6,q7,q8,q9,q10,q11⟩:=cells12 hz5
  obtain ⟨qz0,qz1,qz2,qz3,qz4,qz5,qz6,qz7,qz8,qz9,qz10,qz11⟩:=frz12 hz5
  obtain ⟨r0,r1,r2,r3,r4,r5⟩:=cells6 hy5
  obtain ⟨rz0,rz1,rz2,rz3,rz4,rz5⟩:=frz6 hy5
  obtain ⟨t0,t1,t2,t3,t4,t5⟩:=cells6 ht5
  clear hb5 hg5 hz5 hy5 ht5
  have ne1:w.heap.size+1≠w1.heap.size:=by omega
  have ne2:w.heap.size+2≠w1.heap.size:=by omega
  have ne3:w.heap.size+1≠w.heap.size+3:=by omega
  have ne4:w.heap.size+2≠w.heap.size+3:=by omega
  go_upto_region 3 with fail
  rw [← hW5]
  clear hW5
  go_region_held3 (fun w'=>w'.cell? ⟨w1.heap.size,0,none⟩=some (.string n2)∧w'.cell? ⟨w1.heap.size,1,none⟩=some (.string c2)∧w'.cell? ⟨w1.heap.size,2,none⟩=some (.slice im2 ms2.length jm2)∧w'.cell? ⟨w1.heap.size,3,none⟩=some (.slice ir2 rs2.length jr2)∧w'.cell? ⟨w1.heap.size,4,none⟩=some (.slice is2 sv2.length js2)∧w'.cell? ⟨w1.heap.size,5,none⟩=some (.slice ig2 gw2.length jg2)∧w'.cell? ⟨w1.heap.size,6,none⟩=some (.int .i64 qx)∧w'.cell? ⟨w1.heap.size,7,none⟩=some (.int .i64 qy)∧w'.cell? ⟨w1.heap.size,8,none⟩=some (.int .i64 qz)∧w'.cell? ⟨w1.heap.size,9,none⟩=some (.int .i64 qh)∧w'.cell? ⟨w1.heap.size,10,none⟩=some (.int .i64 qq)∧w'.cell? ⟨w1.heap.size,11,none⟩=some (.slice ih2 wh2.length jh2)∧w'.cell? ⟨w.heap.size+3,0,none⟩=some (.string nm)∧w'.cell? ⟨w.heap.size+3,1,none⟩=some (.bool false)∧w'.cell? ⟨w.heap.size+3,2,none⟩=some (.slice ta tk tc)∧w'.cell? ⟨w.heap.size+3,3,none⟩=some (.slice none 0 0)∧w'.cell? ⟨w.heap.size+3,4,none⟩=some (.slice none 0 0)∧w'.cell? ⟨w.heap.size+3,5,none⟩=some (.slice none 0 0)) (simp only [World.cell?_setCell_far,World.cell?_drew,ne_eq,ne1,ne2,ne3,ne4,not_false_eq_true,p0,p1,p2,p3,p4,p5,p6,p7,p8,p9,p10,p11,t0,t1,t2,t3,t4,t5,and_self]) (fail)
  all_goals go_wp2_with fail
  all_goals
   clear q0 qz0 q1 qz1 q2 qz2 q3 qz3 q4 qz4 q5 qz5 q6 qz6 q7 qz7 q8 qz8 q9 qz9 q10 qz10 q11 qz11 r0 rz0 r1 rz1 r2 rz2 r3 rz3 r4 rz4 r5 rz5 p0 p1 p2 p3 p4 p5 p6 p7 p8 p9 p10 p11 t0 t1 t2 t3 t4 t5
   first
   | (obtain ⟨WF,hWG⟩:∃ WF,WF=World.drew ((((((((((((((((((W5.setCell ⟨w.heap.size+1,0,none⟩ (.string n2)).setCell ⟨w.heap.size+1,1,none⟩ (.string c2)).setCell ⟨w.heap.size+1,2,none⟩ (.slice im2 ms2.length jm2)).setCell ⟨w.heap.size+1,3,none⟩ (.slice ir2 rs2.length jr2)).setCell ⟨w.heap.size+1,4,none⟩ (.slice is2 sv2.length js2)).setCell ⟨w.heap.size+1,5,none⟩ (.slice ig2 gw2.length jg2)).setCell ⟨w.heap.size+1,6,none⟩ (.int .i64 qx)).setCell ⟨w.heap.size+1,7,none⟩ (.int .i64 qy)).setCell ⟨w.heap.size+1,8,none⟩ (.int .i64 qz)).setCell ⟨w.heap.size+1,9,none⟩ (.int .i64 qh)).setCell ⟨w.heap.size+1,10,none⟩ (.int .i64 qq)).setCell ⟨w.heap.size+1,11,none⟩ (.slice ih2 wh2.length jh2)).setCell ⟨w.heap.size+1+1,0,none⟩ (.string nm)).setCell ⟨w.heap.size+1+1,1,none⟩ (.bool false)).setCell ⟨w.heap.size+1+1,2,none⟩ (.slice ta tk tc)).setCell ⟨w.heap.size+1+1,3,none⟩ (.slice none 0 0)).setCell ⟨w.heap.size+1+1,4,none⟩ (.slice none 0 0)).setCell ⟨w.heap.size+1+1,5,none⟩ (.slice none 0 0)):=⟨_,rfl⟩
      rw [← hWG]
      have hWF:WF=World.drew (setAll (w.heap.size+1+1) [.string nm,.bool false,.slice ta tk tc,.slice none 0 0,.slice none 0 0,.slice none 0 0] 0 (setAll (w.heap.size+1) [.string n2,.string c2,.slice im2 ms2.length jm2,.slice ir2 rs2.length jr2,.slice is2 sv2.length js2,.slice ig2 gw2.length jg2,.int .i64 qx,.int .i64 qy,.int .i64 qz,.int .i64 qh,.int .i64 qq,.slice ih2 wh2.length jh2] 0 W5)):=by rw [hWG];simp only [setAll,Nat.zero_add,Nat.reduceAdd]
      clear hWG
      have hz:WF.heap[w.heap.size+1]?=some (.cells #[.string n2,.string c2,.slice im2 ms2.length jm2,.slice ir2 rs2.length jr2,.slice is2 sv2.length js2,.slice ig2 gw2.length jg2,.int .i64 qx,.int .i64 qy,.int .i64 qz,.int .i64 qh,.int .i64 qq,.slice ih2 wh2.length jh2] 51 (0,0)):=by rw [hWF];rw [drew_heap,setAll_other (by omega)];exact (setAll12 HZ5.out _ _ _ _ _ _ _ _ _ _ _ _)
      have hy:WF.heap[w.heap.size+1+1]?=some (.cells #[.string nm,.bool false,.slice ta tk tc,.slice none 0 0,.slice none 0 0,.slice none 0 0] 67 (0,0)):=by rw [hWF];rw [drew_heap];exact setAll6 ((setAll_other (by omega) _ _ _).trans HY5.out) _ _ _ _ _ _
      have HB6:Hid (Below w.heap.size w WF):=by rw [hWF];exact drew_below (setAll_below (by omega) _ _ (setAll_below (by omega) _ _ HB5.out))
      have HOW:Hid (∀ {base n k:Nat} {T:TypeId} {v:Value} {xs:List Value},w.heap.size+1+1 < base→w1.ownsRow base T k v n xs→WF.ownsRow base T k v n xs):=fun hbs h=>by rw [hWF];exact drew_owns (setAll_owns (by omega) _ _ (setAll_owns (by omega) _ _ (owns_below h HB15.out)))
      clear hWF)
   | (obtain ⟨WF,hWG⟩:∃ WF,WF=World.drew ((((((((((((((((((W5.setCell ⟨w.heap.size+1+1,0,none⟩ (.string nm)).setCell ⟨w.heap.size+1+1,1,none⟩ (.bool false)).setCell ⟨w.heap.size+1+1,2,none⟩ (.slice ta tk tc)).setCell ⟨w.heap.size+1+1,3,none⟩ (.slice none 0 0)).setCell ⟨w.heap.size+1+1,4,none⟩ (.slice none 0 0)).setCell ⟨w.heap.size+1+1,5,none⟩ (.slice none 0 0)).setCell ⟨w.heap.size+1,0,none⟩ (.string n2)).setCell ⟨w.heap.size+1,1,none⟩ (.string c2)).setCell ⟨w.heap.size+1,2,none⟩ (.slice im2 ms2.length jm2)).setCell ⟨w.heap.size+1,3,none⟩ (.slice ir2 rs2.length jr2)).setCell ⟨w.heap.size+1,4,none⟩ (.slice is2 sv2.length js2)).setCell ⟨w.heap.size+1,5,none⟩ (.slice ig2 gw2.length jg2)).setCell ⟨w.heap.size+1,6,none⟩ (.int .i64 qx)).setCell ⟨w.heap.size+1,7,none⟩ (.int .i64 qy)).setCell ⟨w.heap.size+1,8,none⟩ (.int .i64 qz)).setCell ⟨w.heap.size+1,9,none⟩ (.int .i64 qh)).setCell ⟨w.heap.size+1,10,none⟩ (.int .i64 qq)).setCell ⟨w.heap.size+1,11,none⟩ (.slice ih2 wh2.length jh2)):=⟨_,rfl⟩
      rw [← hWG]
      have hWF:WF=World.drew (setAll (w.heap.size+1) [.string n2,.string c2,.slice im2 ms2.length jm2,.slice ir2 rs2.length jr2,.slice is2 sv2.length js2,.slice ig2 gw2.length jg2,.int .i64 qx,.int .i64 qy,.int .i64 qz,.int .i64 qh,.int .i64 qq,.slice ih2 wh2.length jh2] 0 (setAll (w.heap.size+1+1) [.string nm,.bool false,.slice ta tk tc,.slice none 0 0,.slice none 0 0,.slice none 0 0] 0 W5)):=by rw [hWG];simp only [setAll,Nat.zero_add,Nat.reduceAdd]
      clear hWG
      have hz:WF.heap[w.heap.size+1]?=some (.cells #[.string n2,.string c2,.slice im2 ms2.length jm2,.slice ir2 rs2.length jr2,.slice is2 sv2.length js2,.slice ig2 gw2.length jg2,.int .i64 qx,.int .i64 qy,.int .i64 qz,.int .i64 qh,.int .i64 qq,.slice ih2 wh2.length jh2] 51 (0,0)):=by rw [hWF];rw [drew_heap];exact setAll12 ((setAll_other (by omega) _ _ _).trans HZ5.out) _ _ _ _ _ _ _ _ _ _ _ _
      have hy:WF.heap[w.heap.size+1+1]?=some (.cells #[.string nm,.bool false,.slice ta tk tc,.slice none 0 0,.slice none 0 0,.slice none 0 0] 67 (0,0)):=by rw [hWF];rw [drew_heap,setAll_other (by omega)];exact (setAll6 HY5.out _ _ _ _ _ _)
      have HB6:Hid (Below w.heap.size w WF):=by rw [hWF];exact drew_below (setAll_below (by omega) _ _ (setAll_below (by omega) _ _ HB5.out))
      have HOW:Hid (∀ {base n k:Nat} {T:TypeId} {v:Value} {xs:List Value},w.heap.size+1+1 < base→w1.ownsRow base T k v n xs→WF.ownsRow base T k v n xs):=fun hbs h=>by rw [hWF];exact drew_owns (setAll_owns (by omega) _ _ (setAll_owns (by omega) _ _ (owns_below h HB15.out)))
      clear hWF)
   obtain ⟨q0,q1,q2,q3,q4,q5,q6,q7,q8,q9,q10,q11⟩:=cells12 hz
   obtain ⟨r0,r1,r2,r3,r4,r5⟩:=cells6 hy
   refine bodyPost_ret (v:=.tuple #[.agg #[.string n2,.string c2,.slice im2 ms2.length jm2,.slice ir2 rs2.length jr2,.slice is2 sv2.length js2,.slice ig2 gw2.length jg2,.int .i64 qx,.int .i64 qy,.int .i64 qz,.int .i64 qh,.int .i64 qq,.slice ih2 wh2.length jh2],.agg #[.string nm,.bool false,.slice ta tk tc,.slice none 0 0,.slice none 0 0,.slice none 0 0],.int .i64 0]) ?_ rfl ?_
   ·simp [results,Tryz.results34,go_sem,q0,q1,q2,q3,q4,q5,q6,q7,q8,q9,q10,q11,r0,r1,r2,r3,r4,r5]
   ·unfold TellSays
    refine ⟨HB6.out,.inr ⟨HNE.out,_,_,_,_,_,_,ta,tk,tc,l,(by rw [HNN.out]),HN1.out,HTI.out,⟨?_,?_,?_,?_,?_⟩,HOK2.out,?_⟩⟩
    ·exact Own.mono (HOW.out (by omega) HOWN.out.ms) (by omega)
    ·exact ROwn.base (HOW.out (by omega) HOWN.out.rs) (by omega)
    ·exact Sv.Own.mono (HOW.out (by omega) HOWN.out.sv) (by omega)
    ·exact Gw.Own.mono (HOW.out (by omega) HOWN.out.gw) (by omega)
    ·exact Wh.Own.mono (HOW.out (by omega) HOWN.out.wh) (by omega)
    ·exact Own.mono (HOW.out (by omega) HOL.out) (by omega)
theorem Wh.fine_chk0 {wh:List Wh.Whe} (h:Wh.chk wh=0) (hk:∀ m∈wh,m.ok):Wh.Fine wh:=⟨(Wh.chk_zero h).2.1,(Wh.chk_zero h).1,hk⟩
set_option maxHeartbeats 3200000 in
theorem hearC_none (L b tb:Nat) (n:Nd) (frm:ByteArray) (whole:Bool) (pms:List Mem) (psv:List Sv.Svc) (pgw:List Gw.Gwy) (pwh:List Wh.Whe) (am aS aG aH:Option Addr) (bm bS bG bH:Nat) (w0 w:World) (h:Wk L w b n) (hL:L≤b) (he:n.e=0) (hok:NdOk n) (hx:PkIs w0 ⟨frm,whole,pms,psv,pgw,pwh⟩ (.slice am pms.length bm) (.slice aS psv.length bS) (.slice aG pgw.length bG) (.slice aH pwh.length bH)) (hB:Below w0.heap.size w0 w) (hBL:w0.heap.size≤L) (hlen:whole=true∨psv.length+pgw.length+pwh.length≤4611686018427387904) (hz1:n.sv=[]) (hz2:n.gw=[]) (hz3:psv=[]) (hz4:pgw=[]) (hz5:pwh=[])
 (hc:w.heap[tb]?=some (.cells #[.string frm,.bool whole,.slice am pms.length bm,.slice aS psv.length bS,.slice aG pgw.length bG,.slice aH pwh.length bH] 67 (0,0))) :
 Calls Tryz.prog 62 #[.pointer (some ⟨b,0,none⟩),.pointer (some ⟨tb,0,none⟩)] w fun e w'=>e=.returned (.int .i64 (hrE n ⟨frm,whole,pms,psv,pgw,pwh⟩))∧Sh (fun k=>L≤k) w w'∧Hid (hrE n ⟨frm,whole,pms,psv,pgw,pwh⟩=0→Wk L w' b (hrN n ⟨frm,whole,pms,psv,pgw,pwh⟩)):=by
 have hp:=Nd.parts (Nd.e_zero he).1
 have HC:Hid (Calls Tryz.prog 63 #[.pointer (some ⟨b,0,none⟩),.agg #[.string frm,.bool whole,.slice am pms.length bm,.slice aS psv.length bS,.slice aG pgw.length bG,.slice aH pwh.length bH]] w fun e w'=>e=.returned (.int .i64 (hrE n ⟨frm,whole,pms,psv,pgw,pwh⟩))∧Sh (fun k=>L≤k) w w'∧Hid (hrE n ⟨frm,whole,pms,psv,pgw,pwh⟩=0→Wk L w' b (hrN n ⟨frm,whole,pms,psv,pgw,pwh⟩))):=
  whear_none L b n ⟨frm,whole,pms,psv,pgw,pwh⟩ _ _ _ _ w0 w h hL (Nd.sp he) hp.sv hp.gw (Wh.fine_chk0 hp.wh hok.wh) hx hB hBL hlen hz1 hz2 hz3 hz4 hz5
 obtain ⟨y0,y1,y2,y3,y4,y5⟩:=cells6 hc
 clear h hp hc hx hz1 hz2 hz3 hz4 hz5
 generalize hrE n ⟨frm,whole,pms,psv,pgw,pwh⟩=we at *
 generalize hrN n ⟨frm,whole,pms,psv,pgw,pwh⟩=nn at *
 generalize pms.length=k1 at *
 generalize psv.length=k2 at *
 generalize pgw.length=k3 at *
 generalize pwh.length=k4 at *
 go_enter Tryz.func62,Tryz.ntmps62
 go_wp2_with fail
 refine HC.out.mono ?_
 rintro e w1 ⟨rfl,hs,hk⟩
 have HS:Hid (Sh (fun k=>L≤k) w w1):=hs
 clear hs
 go_wp2_with fail
 go_ret
 exact ⟨rfl,HS.out,hk⟩
set_option maxHeartbeats 25600000 in
set_option maxRecDepth 100000 in
theorem Hear_none (n:Nd) (p:Pk) (zm zs zg zw:Value) (vm vr vs vg vw:Value) (w:World) (h:NdIs w n vm vr vs vg vw) (hx:PkIs w p zm zs zg zw) (hlen:p.whole=true∨p.sv.length+p.gw.length+p.wh.length≤4611686018427387904) (hz1:n.sv=[]) (hz2:n.gw=[]) (hz3:p.sv=[]) (hz4:p.gw=[]) (hz5:p.wh=[]) :
 Calls Tryz.prog 32 #[.agg (ndA n vm vr vs vg vw),.agg #[.string p.frm,.bool p.whole,zm,zs,zg,zw]] w fun e w'=>OpSays n.e (hrE n p) (hrN n p) w e w':=by
 have HIS:Hid (NdIs w n vm vr vs vg vw):=h
 have HX:Hid (PkIs w p zm zs zg zw):=hx
 obtain ⟨frm,whole,pms,psv,pgw,pwh⟩:=p
 obtain ⟨⟨am,bm,rfl,_,_⟩,⟨aS,bS,rfl,_,_⟩,⟨aG,bG,rfl,_,_⟩,⟨aH,bH,rfl,_,_⟩,_,_⟩:=hx
 simp only at hlen HX ⊢
 obtain ⟨W0,hW0⟩:∃ W0,W0=w.heap.size:=⟨_,rfl⟩
 clear hW0 W0
 have HWS:Hid (∀ W0,Below w.heap.size w W0→W0.heap.size=w.heap.size+3→W0.heap[w.heap.size+1]?=some (.cells #[.string frm,.bool whole,.slice am pms.length bm,.slice aS psv.length bS,.slice aG pgw.length bG,.slice aH pwh.length bH] 67 (0,0))→Calls Tryz.prog 61 #[.agg (ndA n vm vr vs vg vw),.func (.func 62) #[] #[.pointer (some ⟨w.heap.size+1,0,none⟩)]] W0 fun e w'=>WorkSays n.e (hrE n ⟨frm,whole,pms,psv,pgw,pwh⟩) (hrN n ⟨frm,whole,pms,psv,pgw,pwh⟩) (fun _=>False) (fun _=>True) W0 e w'):=fun W0 hb hs hc1=>
  work_any 62 #[.pointer (some ⟨w.heap.size+1,0,none⟩)] (enters_of Tryz.func62 (by kernel_rfl) rfl) n vm vr vs vg vw W0 (h.below hb) (fun _=>False) (hrE n ⟨frm,whole,pms,psv,pgw,pwh⟩) (hrN n ⟨frm,whole,pms,psv,pgw,pwh⟩) (fun _=>True)
   (fun he W b hW hb2 hk=>by
     refine (hearC_none (W0.heap.size+2) b (w.heap.size+1) n frm whole pms psv pgw pwh am aS aG aH bm bS bG bH W0 W hk (by omega) he h.ok (HX.out.below hb) hW (by omega) hlen hz1 hz2 hz3 hz4 hz5 ((hW.block _ (by omega)).trans hc1)).mono ?_
     rintro e w' ⟨rfl,hs,hh⟩
     exact ⟨rfl,hs.mono (fun k hk=>.inl hk),fun h=>⟨hh.out h,trivial⟩⟩
   ) (fun _ _ _ _=>trivial) (fun _ hk=>hk.elim)
 obtain ⟨nm,ct,ms,rs,sv,gw,⟨px,py,pz,ph,pq⟩,wh⟩:=n
 obtain ⟨⟨em,cm,rfl,_,_⟩,⟨er_,cr,rfl,_,_⟩,⟨es,cs_,rfl,_,_⟩,⟨eg_,cg,rfl,_,_⟩,⟨eh,ch,rfl,_,_⟩,_,_⟩:=h
 simp only [ndA] at HWS ⊢
 generalize ms.length=km at *
 generalize rs.length=kr at *
 generalize sv.length=ks at *
 generalize gw.length=kg at *
 generalize wh.length=kh at *
 generalize pms.length=k1 at *
 generalize psv.length=k2 at *
 generalize pgw.length=k3 at *
 generalize pwh.length=k4 at *
 generalize Nd.e ⟨nm,ct,ms,rs,sv,gw,⟨px,py,pz,ph,pq⟩,wh⟩=ne at *
 generalize hrE ⟨nm,ct,ms,rs,sv,gw,⟨px,py,pz,ph,pq⟩,wh⟩ ⟨frm,whole,pms,psv,pgw,pwh⟩=er at *
 generalize hrN ⟨nm,ct,ms,rs,sv,gw,⟨px,py,pz,ph,pq⟩,wh⟩ ⟨frm,whole,pms,psv,pgw,pwh⟩=n' at *
 obtain ⟨W0,hW0⟩:∃ W0,W0=(((w.alloc (.cells #[.string nm,.string ct,.slice em km cm,.slice er_ kr cr,.slice es ks cs_,.slice eg_ kg cg,.int .i64 px,.int .i64 py,.int .i64 pz,.int .i64 ph,.int .i64 pq,.slice eh kh ch] 51)).alloc (.cells #[.string frm,.bool whole,.slice am k1 bm,.slice aS k2 bS,.slice aG k3 bG,.slice aH k4 bH] 67)).alloc (.cells #[.string ⟨#[]⟩,.string ⟨#[]⟩,.slice none 0 0,.slice none 0 0,.slice none 0 0,.slice none 0 0,.int .i64 0,.int .i64 0,.int .i64 0,.int .i64 0,.int .i64 0,.slice none 0 0] 51)):=⟨_,rfl⟩
 have hb0:Below w.heap.size w W0:=by rw [hW0];exact (((Below.refl _ _).alloc (Nat.le_refl _) _).alloc (by simp<;>omega) _).alloc (by simp<;>omega) _
 have hs0:W0.heap.size=w.heap.size+3:=by rw [hW0];simp
 have hc1:W0.heap[w.heap.size+1]?=some (.cells #[.string frm,.bool whole,.slice am k1 bm,.slice aS k2 bS,.slice aG k3 bG,.slice aH k4 bH] 67 (0,0)):=by
  have h:=heap_alloc_new (w.alloc (.cells #[.string nm,.string ct,.slice em km cm,.slice er_ kr cr,.slice es ks cs_,.slice eg_ kg cg,.int .i64 px,.int .i64 py,.int .i64 pz,.int .i64 ph,.int .i64 pq,.slice eh kh ch] 51)) (.cells #[.string frm,.bool whole,.slice am k1 bm,.slice aS k2 bS,.slice aG k3 bG,.slice aH k4 bH] 67)
  rw [hW0,Below.heap_alloc _ _ _ (by simp<;>omega)];simpa using h
 have hz0:W0.heap[w.heap.size+2]?=some (.cells #[.string ⟨#[]⟩,.string ⟨#[]⟩,.slice none 0 0,.slice none 0 0,.slice none 0 0,.slice none 0 0,.int .i64 0,.int .i64 0,.int .i64 0,.int .i64 0,.int .i64 0,.slice none 0 0] 51 (0,0)):=by
  have h:=heap_alloc_new ((w.alloc (.cells #[.string nm,.string ct,.slice em km cm,.slice er_ kr cr,.slice es ks cs_,.slice eg_ kg cg,.int .i64 px,.int .i64 py,.int .i64 pz,.int .i64 ph,.int .i64 pq,.slice eh kh ch] 51)).alloc (.cells #[.string frm,.bool whole,.slice am k1 bm,.slice aS k2 bS,.slice aG k3 bG,.slice aH k4 bH] 67)) (.cells #[.string ⟨#[]⟩,.string ⟨#[]⟩,.slice none 0 0,.slice none 0 0,.slice none 0 0,.slice none 0 0,.int .i64 0,.int .i64 0,.int .i64 0,.int .i64 0,.int .i64 0,.slice none 0 0] 51)
  rw [hW0];simpa using h
 have HWC:=HWS.out W0 hb0 hs0 hc1
 have HB0:Hid (Below w.heap.size w W0):=hb0
 have HZ0:Hid (W0.heap[w.heap.size+2]?=some (.cells #[.string ⟨#[]⟩,.string ⟨#[]⟩,.slice none 0 0,.slice none 0 0,.slice none 0 0,.slice none 0 0,.int .i64 0,.int .i64 0,.int .i64 0,.int .i64 0,.int .i64 0,.slice none 0 0] 51 (0,0))):=hz0
 clear hb0 hz0 HWS hc1
 go_enter Tryz.func32,Tryz.ntmps32
 go_wp2_with fail
 rw [← hW0]
 refine HWC.mono ?_
 rintro e w1 ⟨hsh,hor⟩
 have hb1:Below W0.heap.size W0 w1:=hsh.below (Nat.le_refl _) (fun _ hk=>hk.elim)
 have hz1:w1.heap[w.heap.size+2]?=_:=(hb1.block _ (by omega)).trans HZ0.out
 have HB1:Hid (Below w.heap.size w w1):=HB0.out.trans (hb1.mono (by omega))
 have hs1:w.heap.size+2 < w1.heap.size:=(Array.getElem?_eq_some_iff.1 hz1).1
 obtain ⟨q0,q1,q2,q3,q4,q5,q6,q7,q8,q9,q10,q11⟩:=cells12 hz1
 obtain ⟨qz0,qz1,qz2,qz3,qz4,qz5,qz6,qz7,qz8,qz9,qz10,qz11⟩:=frz12 hz1
 clear hsh hb1 hz1 HWC hW0
 rcases hor with ⟨hne,rfl⟩ | ⟨hne,hee,rfl⟩ | ⟨hne,hee,um,ur,us,ug,uw,rfl,hown,hok,_⟩
 ·have HNE:Hid (ne≠0):=hne
  clear hne
  go_wp2_with fail
  refine bodyPost_ret (v:=.tuple #[.agg #[.string ⟨#[]⟩,.string ⟨#[]⟩,.slice none 0 0,.slice none 0 0,.slice none 0 0,.slice none 0 0,.int .i64 0,.int .i64 0,.int .i64 0,.int .i64 0,.int .i64 0,.slice none 0 0],.int .i64 ne]) ?_ rfl ?_
  ·simp [results,Tryz.results32,go_sem,q0,q1,q2,q3,q4,q5,q6,q7,q8,q9,q10,q11]
  ·unfold OpSays
   exact ⟨below_set12 HB1.out (by omega) _ _ _ _ _ _ _ _ _ _ _ _,.inl ⟨HNE.out,rfl⟩⟩
 ·have HNE:Hid (ne=0∧er≠0):=⟨hne,hee⟩
  clear hne hee
  go_wp2_with fail
  refine bodyPost_ret (v:=.tuple #[.agg #[.string ⟨#[]⟩,.string ⟨#[]⟩,.slice none 0 0,.slice none 0 0,.slice none 0 0,.slice none 0 0,.int .i64 0,.int .i64 0,.int .i64 0,.int .i64 0,.int .i64 0,.slice none 0 0],.int .i64 er]) ?_ rfl ?_
  ·simp [results,Tryz.results32,go_sem,q0,q1,q2,q3,q4,q5,q6,q7,q8,q9,q10,q11]
  ·unfold OpSays
   exact ⟨below_set12 HB1.out (by omega) _ _ _ _ _ _ _ _ _ _ _ _,.inr (.inl ⟨HNE.out.1,HNE.out.2,rfl⟩)⟩
 ·have HNE:Hid (ne=0∧er=0):=⟨hne,hee⟩
  have HOWN:Hid (NdOwn W0.heap.size w1 n' um ur us ug uw):=hown
  have HOK2:Hid (NdOk n'):=hok
  obtain ⟨im2,jm2,hvm,_⟩:=own_slice hown.ms
  obtain ⟨ir2,jr2,hvr,_⟩:=own_slice hown.rs
  obtain ⟨is2,js2,hvs,_⟩:=own_slice hown.sv
  obtain ⟨ig2,jg2,hvg,_⟩:=own_slice hown.gw
  obtain ⟨ih2,jh2,hvh,_⟩:=own_slice hown.wh
  subst hvm hvr hvs hvg hvh
  clear hown hok hne hee
  obtain ⟨n2,c2,ms2,rs2,sv2,gw2,⟨qx,qy,qz,qh,qq⟩,wh2⟩:=n'
  go_wp2_with fail
  refine bodyPost_ret (v:=.tuple #[.agg #[.string n2,.string c2,.slice im2 ms2.length jm2,.slice ir2 rs2.length jr2,.slice is2 sv2.length js2,.slice ig2 gw2.length jg2,.int .i64 qx,.int .i64 qy,.int .i64 qz,.int .i64 qh,.int .i64 qq,.slice ih2 wh2.length jh2],.int .i64 0]) ?_ rfl ?_
  ·simp [results,Tryz.results32,go_sem,q0,q1,q2,q3,q4,q5,q6,q7,q8,q9,q10,q11]
  ·unfold OpSays
   refine ⟨below_set12 HB1.out (by omega) _ _ _ _ _ _ _ _ _ _ _ _,.inr (.inr ⟨HNE.out.1,HNE.out.2,_,_,_,_,_,rfl,⟨?_,?_,?_,?_,?_⟩,HOK2.out⟩)⟩
   ·exact Own.mono (owns_set12 (HOWN.out.ms) (by omega) _ _ _ _ _ _ _ _ _ _ _ _) (by omega)
   ·exact ROwn.base (owns_set12 (HOWN.out.rs) (by omega) _ _ _ _ _ _ _ _ _ _ _ _) (by omega)
   ·exact Sv.Own.mono (owns_set12 (HOWN.out.sv) (by omega) _ _ _ _ _ _ _ _ _ _ _ _) (by omega)
   ·exact Gw.Own.mono (owns_set12 (HOWN.out.gw) (by omega) _ _ _ _ _ _ _ _ _ _ _ _) (by omega)
   ·exact Wh.Own.mono (owns_set12 (HOWN.out.wh) (by omega) _ _ _ _ _ _ _ _ _ _ _ _) (by omega)
def bgA:Nd:=nwN ⟨#[97]⟩ ⟨#[99]⟩ 1 false
def bgB:Nd:=nwN ⟨#[98]⟩ ⟨#[99]⟩ 2 true
def bgP:Pk:=⟨⟨#[98]⟩,true,bgB.ms,bgB.sv,bgB.gw,bgB.wh⟩
def bg3:Nd:=hrN bgA bgP
def bg4:Nd:=wsN bg3 ⟨#[98]⟩ 2
def bgM:Mem:=⟨⟨#[98]⟩,2,1,2,true⟩
theorem bg_e1:nwE ⟨#[97]⟩ ⟨#[99]⟩ 1=0:=by kernel_rfl
theorem bg_e2:nwE ⟨#[98]⟩ ⟨#[99]⟩ 2=0:=by kernel_rfl
theorem bg_eA:bgA.e=0:=by kernel_rfl
theorem bg_eB:bgB.e=0:=by kernel_rfl
theorem bg_e3:hrE bgA bgP=0:=by kernel_rfl
theorem bg_n3:bg3.e=0:=by kernel_rfl
theorem bg_e4:wsE bg3 ⟨#[98]⟩ 1 2=0:=by kernel_rfl
theorem bg_n4:bg4.e=0:=by kernel_rfl
theorem bg_m4:bg4.ms.length=2:=by kernel_rfl
theorem bg_r4:bg4.rs=[⟨bgM,0⟩]:=by kernel_rfl
theorem bg_tell {l:List Mem} {rest:List Rum} (h:TellIs bg4 l rest):l=[bgM]:=by
 obtain ⟨told,ht,hp,_⟩:=h
 rw [bg_r4] at ht
 rcases ht with ⟨h,_⟩ | ⟨_,ord,ho,rfl,_⟩
 ·cases h
 ·have h1:ord=[0]:=by
   have:=ho.perm
   rw [show List.range [(⟨bgM,0⟩:Rum)].length=[0] from rfl] at this
   exact List.perm_singleton.1 this
  subst h1
  have h2:toldL [(⟨bgM,0⟩:Rum)] [0] (min 5 [(⟨bgM,0⟩:Rum)].length)=[bgM]:=by kernel_rfl
  rw [h2] at hp
  exact List.perm_singleton.1 hp
def OwnNd (B:Nat) (w:World) (n:Nd) (A:Array Value):Prop:=∃ vm vr vs vg vw,A=ndA n vm vr vs vg vw∧NdOwn B w n vm vr vs vg vw∧NdOk n
theorem OwnNd.is {B:Nat} {w:World} {n:Nd} {A:Array Value} (h:OwnNd B w n A):IsNd w n A:=by
 obtain ⟨a,b,c,d,e,h1,h2,h3⟩:=h
 exact ⟨a,b,c,d,e,h1,h2.is h3⟩
theorem OpSays.ok {ne er:Int} {n':Nd} {w w':World} {e:Ending} (h:OpSays ne er n' w e w') (h1:ne=0) (h2:er=0):∃ A,e=.returned (.tuple #[.agg A,.int .i64 0])∧OwnNd w.heap.size w' n' A∧Below w.heap.size w w':=by
 obtain ⟨hb,⟨h3,_⟩ | ⟨_,h3,_⟩ | ⟨_,_,um,ur,us,ug,uw,rfl,ho,hk⟩⟩:=h
 ·exact absurd h1 h3
 ·exact absurd h2 h3
 ·exact ⟨_,rfl,⟨_,_,_,_,_,rfl,ho,hk⟩,hb⟩
def pkV (t0:ByteArray) (b1:Bool) (p2:Option Addr) (k2 c2:Nat) (p3:Option Addr) (k3 c3:Nat) (p4:Option Addr) (k4 c4:Nat) (p5:Option Addr) (k5 c5:Nat):Array Value:=
 #[.string t0,.bool b1,.slice p2 k2 c2,.slice p3 k3 c3,.slice p4 k4 c4,.slice p5 k5 c5]
def IsPkR (w:World) (p:Pk) (A:Array Value):Prop:=∃ vm vs vg vw,A=#[.string p.frm,.bool p.whole,vm,vs,vg,vw]∧PkIs w p vm vs vg vw
theorem IsPkR.below {w w':World} {p:Pk} {A:Array Value} (h:IsPkR w p A) (hb:Below w.heap.size w w'):IsPkR w' p A:=by
 obtain ⟨a,b,c,d,h1,h2⟩:=h
 exact ⟨a,b,c,d,h1,h2.below hb⟩
theorem IsPkR.is {w:World} {p:Pk} {A:Array Value} (h:IsPkR w p A):IsPk w p A:=by
 obtain ⟨a,b,c,d,h1,h2⟩:=h
 exact ⟨a,b,c,d,h1,h2.ms,h2.sv,h2.gw,h2.wh⟩
theorem IsPk.letters {w:World} {p:Pk} {A:Array Value} (h:IsPk w p A):∃ t0 b1 p2 k2 c2 p3 k3 c3 p4 k4 c4 p5 k5 c5,A=pkV t0 b1 p2 k2 c2 p3 k3 c3 p4 k4 c4 p5 k5 c5:=by
 obtain ⟨vm,vs,vg,vw,rfl,⟨pm,cm,rfl,_⟩,⟨ps,cs,rfl,_⟩,⟨pg,cg,rfl,_⟩,⟨pw,cw,rfl,_⟩⟩:=h
 exact ⟨_,_,_,_,_,_,_,_,_,_,_,_,_,_,rfl⟩
theorem own_roomy {base n k:Nat} {T:TypeId} {w:World} {v:Value} {xs:List Value} (h:w.ownsRow base T k v n xs):Roomy v:=by
 obtain ⟨a,c,rfl,hn⟩:=own_slice h
 exact hn
def Nd.pk (n:Nd):Pk:=⟨n.name,true,n.ms,n.sv,n.gw,n.wh⟩
theorem WholeSays.ok {n:Nd} {ne:Int} {w w':World} {e:Ending} (h:WholeSays n ne w e w') (h1:ne=0) (hk:NdOk n):∃ A,e=.returned (.tuple #[.agg A,.int .i64 0])∧IsPkR w' n.pk A∧Below w.heap.size w w':=by
 obtain ⟨hb,⟨h3,_⟩ | ⟨_,um,us,ug,uw,rfl,o1,o2,o3,o4⟩⟩:=h
 ·exact absurd h1 h3
 ·exact ⟨_,rfl,⟨_,_,_,_,rfl,o1.sl (ns_get hk.ms),o2.sl (Sv.ns_get hk.sv),o3.sl (Gw.ns_get hk.gw),o4.sl (Wh.ns_get hk.wh),hk.name,own_roomy o1⟩,hb⟩
theorem IsNd.ok {w:World} {n:Nd} {A:Array Value} (h:IsNd w n A):NdOk n:=by
 obtain ⟨_,_,_,_,_,_,h⟩:=h
 exact h.ok
theorem whole_is {w:World} {n:Nd} {A:Array Value} (h:IsNd w n A):Calls Tryz.prog 31 #[.agg A] w fun e w'=>WholeSays n n.e w e w':=by
 obtain ⟨_,_,_,_,_,rfl,h⟩:=h
 exact Whole_any n _ _ _ _ _ w h
theorem doubt_is {w:World} {n:Nd} {A:Array Value} (h:IsNd w n A) (t:ByteArray) (ht:t.size≤maxLen):Calls Tryz.prog 33 #[.agg A,.string t] w fun e w'=>OpSays n.e (wsE n t 1 2) (wsN n t 2) w e w':=by
 obtain ⟨_,_,_,_,_,rfl,h⟩:=h
 exact Doubt_any n t _ _ _ _ _ w h ht
theorem tell_is {w:World} {n:Nd} {A:Array Value} (h:IsNd w n A):Calls Tryz.prog 34 #[.agg A] w fun e w'=>TellSays n n.e w e w':=by
 obtain ⟨_,_,_,_,_,rfl,h⟩:=h
 exact Tell_any n _ _ _ _ _ w h
theorem TellSays.ok {n:Nd} {ne:Int} {w w':World} {e:Ending} (h:TellSays n ne w e w') (h1:ne=0):∃ A a k c l rest,e=.returned (.tuple #[.agg A,.agg #[.string n.name,.bool false,.slice a k c,.slice none 0 0,.slice none 0 0,.slice none 0 0],.int .i64 0])∧TellIs n l rest∧OwnNd w.heap.size w' { n with rs:=rest } A∧Own w.heap.size w' (.slice a k c) l∧Below w.heap.size w w':=by
 obtain ⟨hb,⟨h3,_⟩ | ⟨_,n',um,ur,us,ug,uw,a,k,c,l,rfl,hn,ht,ho,hk,hl⟩⟩:=h
 ·exact absurd h1 h3
 ·refine ⟨_,a,k,c,l,n'.rs,rfl,ht,?_,hl,hb⟩
  rw [← hn]
  exact ⟨_,_,_,_,_,rfl,ho,hk⟩
theorem OwnNd.setAll {B:Nat} {w:World} {n:Nd} {A:Array Value} (h:OwnNd B w n A) {b:Nat} (hb:b < B) (L:List Value) (j:Nat):OwnNd B (setAll b L j w) n A:=by
 obtain ⟨v1,v2,v3,v4,v5,h1,h2,h3⟩:=h
 exact ⟨v1,v2,v3,v4,v5,h1,⟨setAll_owns hb L j h2.ms,setAll_owns hb L j h2.rs,setAll_owns hb L j h2.sv,setAll_owns hb L j h2.gw,setAll_owns hb L j h2.wh⟩,h3⟩
theorem IsNd.len {w:World} {n:Nd} {A:Array Value} (h:IsNd w n A):∃ p c,A[2]?=some (.slice p n.ms.length c):=by
 obtain ⟨vm,vr,vs,vg,vw,rfl,⟨pm,cm,rfl,_⟩,_⟩:=h
 exact ⟨pm,cm,rfl⟩
theorem hear_is0 {w:World} {n:Nd} {p:Pk} {A P:Array Value} (h:IsNd w n A) (hp:IsPkR w p P) (hlen:p.whole=true∨p.sv.length+p.gw.length+p.wh.length≤4611686018427387904) (hz1:n.sv=[]) (hz2:n.gw=[]) (hz3:p.sv=[]) (hz4:p.gw=[]) (hz5:p.wh=[]):Calls Tryz.prog 32 #[.agg A,.agg P] w fun e w'=>OpSays n.e (hrE n p) (hrN n p) w e w':=by
 obtain ⟨_,_,_,_,_,rfl,h⟩:=h
 obtain ⟨_,_,_,_,rfl,hp⟩:=hp
 exact Hear_none n p _ _ _ _ _ _ _ _ _ w h hp hlen hz1 hz2 hz3 hz4 hz5
theorem one_le:(1:Nat)≤maxLen:=by decide
set_option maxHeartbeats 25600000 in
set_option maxRecDepth 100000 in
theorem nodeBegun0_any (w:World):Calls Tryz.prog 13 #[] w fun e w'=>e=.returned (.bool true)∧Below w.heap.size w w':=by
 go_enter Tryz.func13,Tryz.ntmps13
 go_wp2_with fail
 refine (New_any ⟨#[97]⟩ ⟨#[99]⟩ 1 false w one_le one_le).mono ?_
 intro e w1 h
 obtain ⟨A1,rfl,hA,hb1⟩:=h.ok bg_e1 rfl
 obtain ⟨t0a,t1a,p2a,k2a,c2a,p3a,k3a,c3a,p4a,k4a,c4a,p5a,k5a,c5a,i6a,i7a,i8a,i9a,i10a,p11a,k11a,c11a,rfl⟩:=hA.is.letters
 simp only [ndV] at hA ⊢
 have HA1:Hid (IsNd w1 bgA #[.string t0a,.string t1a,.slice p2a k2a c2a,.slice p3a k3a c3a,.slice p4a k4a c4a,.slice p5a k5a c5a,.int .i64 i6a,.int .i64 i7a,.int .i64 i8a,.int .i64 i9a,.int .i64 i10a,.slice p11a k11a c11a]):=hA.is
 have HB1:Hid (Below w.heap.size w w1):=hb1
 have hz1:w.heap.size≤w1.heap.size:=hb1.size
 clear h hA hb1
 obtain ⟨W1,hW1⟩:∃ W1,W1=w1.alloc (.cells #[.string t0a,.string t1a,.slice p2a k2a c2a,.slice p3a k3a c3a,.slice p4a k4a c4a,.slice p5a k5a c5a,.int .i64 i6a,.int .i64 i7a,.int .i64 i8a,.int .i64 i9a,.int .i64 i10a,.slice p11a k11a c11a] 51):=⟨_,rfl⟩
 have ha1:Below w1.heap.size w1 W1:=by rw [hW1];exact (Below.refl _ _).alloc (Nat.le_refl _) _
 have HG1:Hid (W1.heap[w1.heap.size]?=some (.cells #[.string t0a,.string t1a,.slice p2a k2a c2a,.slice p3a k3a c3a,.slice p4a k4a c4a,.slice p5a k5a c5a,.int .i64 i6a,.int .i64 i7a,.int .i64 i8a,.int .i64 i9a,.int .i64 i10a,.slice p11a k11a c11a] 51 (0,0))):=by rw [hW1];exact heap_alloc_new w1 _
 have hs1:W1.heap.size=w1.heap.size+1:=by rw [hW1];simp
 have HA2:Hid (IsNd W1 bgA #[.string t0a,.string t1a,.slice p2a k2a c2a,.slice p3a k3a c3a,.slice p4a k4a c4a,.slice p5a k5a c5a,.int .i64 i6a,.int .i64 i7a,.int .i64 i8a,.int .i64 i9a,.int .i64 i10a,.slice p11a k11a c11a]):=HA1.out.below ha1
 have HB2:Hid (Below w.heap.size w W1):=HB1.out.trans (ha1.mono hz1)
 clear ha1 HA1
 go_upto_region 2 with fail
 rw [← hW1]
 clear hW1
 go_wp2_with fail
 refine (New_any ⟨#[98]⟩ ⟨#[99]⟩ 2 true W1 one_le one_le).mono ?_
 intro e w2 h
 obtain ⟨A1,rfl,hA,hb1⟩:=h.ok bg_e2 rfl
 obtain ⟨t0b,t1b,p2b,k2b,c2b,p3b,k3b,c3b,p4b,k4b,c4b,p5b,k5b,c5b,i6b,i7b,i8b,i9b,i10b,p11b,k11b,c11b,rfl⟩:=hA.is.letters
 simp only [ndV] at hA ⊢
 have HN1:Hid (IsNd w2 bgB #[.string t0b,.string t1b,.slice p2b k2b c2b,.slice p3b k3b c3b,.slice p4b k4b c4b,.slice p5b k5b c5b,.int .i64 i6b,.int .i64 i7b,.int .i64 i8b,.int .i64 i9b,.int .i64 i10b,.slice p11b k11b c11b]):=hA.is
 have HA3:Hid (IsNd w2 bgA #[.string t0a,.string t1a,.slice p2a k2a c2a,.slice p3a k3a c3a,.slice p4a k4a c4a,.slice p5a k5a c5a,.int .i64 i6a,.int .i64 i7a,.int .i64 i8a,.int .i64 i9a,.int .i64 i10a,.slice p11a k11a c11a]):=HA2.out.below hb1
 have HB3:Hid (Below w.heap.size w w2):=HB2.out.trans (hb1.mono (by omega))
 have HG11:Hid (w2.heap[w1.heap.size]?=some (.cells #[.string t0a,.string t1a,.slice p2a k2a c2a,.slice p3a k3a c3a,.slice p4a k4a c4a,.slice p5a k5a c5a,.int .i64 i6a,.int .i64 i7a,.int .i64 i8a,.int .i64 i9a,.int .i64 i10a,.slice p11a k11a c11a] 51 (0,0))):=(hb1.block _ (by omega)).trans HG1.out
 have hz2:w1.heap.size < w2.heap.size:=by have:=hb1.size;omega
 clear h hA hb1 HA2
 obtain ⟨W2,hW2⟩:∃ W2,W2=w2.alloc (.cells #[.string t0b,.string t1b,.slice p2b k2b c2b,.slice p3b k3b c3b,.slice p4b k4b c4b,.slice p5b k5b c5b,.int .i64 i6b,.int .i64 i7b,.int .i64 i8b,.int .i64 i9b,.int .i64 i10b,.slice p11b k11b c11b] 51):=⟨_,rfl⟩
 have ha2:Below w2.heap.size w2 W2:=by rw [hW2];exact (Below.refl _ _).alloc (Nat.le_refl _) _
 have HG2:Hid (W2.heap[w2.heap.size]?=some (.cells #[.string t0b,.string t1b,.slice p2b k2b c2b,.slice p3b k3b c3b,.slice p4b k4b c4b,.slice p5b k5b c5b,.int .i64 i6b,.int .i64 i7b,.int .i64 i8b,.int .i64 i9b,.int .i64 i10b,.slice p11b k11b c11b] 51 (0,0))):=by rw [hW2];exact heap_alloc_new w2 _
 have hs2:W2.heap.size=w2.heap.size+1:=by rw [hW2];simp
 have HA4:Hid (IsNd W2 bgA #[.string t0a,.string t1a,.slice p2a k2a c2a,.slice p3a k3a c3a,.slice p4a k4a c4a,.slice p5a k5a c5a,.int .i64 i6a,.int .i64 i7a,.int .i64 i8a,.int .i64 i9a,.int .i64 i10a,.slice p11a k11a c11a]):=HA3.out.below ha2
 have HN2:Hid (IsNd W2 bgB #[.string t0b,.string t1b,.slice p2b k2b c2b,.slice p3b k3b c3b,.slice p4b k4b c4b,.slice p5b k5b c5b,.int .i64 i6b,.int .i64 i7b,.int .i64 i8b,.int .i64 i9b,.int .i64 i10b,.slice p11b k11b c11b]):=HN1.out.below ha2
 have HB4:Hid (Below w.heap.size w W2):=HB3.out.trans (ha2.mono (by omega))
 have HG12:Hid (W2.heap[w1.heap.size]?=some (.cells #[.string t0a,.string t1a,.slice p2a k2a c2a,.slice p3a k3a c3a,.slice p4a k4a c4a,.slice p5a k5a c5a,.int .i64 i6a,.int .i64 i7a,.int .i64 i8a,.int .i64 i9a,.int .i64 i10a,.slice p11a k11a c11a] 51 (0,0))):=(ha2.block _ hz2).trans HG11.out
 have hg:=HG2.out
 obtain ⟨y0,y1,y2,y3,y4,y5,y6,y7,y8,y9,y10,y11⟩:=cells12 hg
 clear ha2 HA3 HN1 hg
 go_upto_region 3 with fail
 rw [← hW2]
 clear hW2
 go_wp2_with fail
 refine (whole_is HN2.out).mono ?_
 intro e w3 h
 obtain ⟨A1,rfl,hP,hb1⟩:=h.ok bg_eB HN2.out.ok
 obtain ⟨t0p,b1p,p2p,k2p,c2p,p3p,k3p,c3p,p4p,k4p,c4p,p5p,k5p,c5p,rfl⟩:=hP.is.letters
 simp only [pkV] at hP ⊢
 have HP1:Hid (IsPkR w3 bgP #[.string t0p,.bool b1p,.slice p2p k2p c2p,.slice p3p k3p c3p,.slice p4p k4p c4p,.slice p5p k5p c5p]):=hP
 have HA5:Hid (IsNd w3 bgA #[.string t0a,.string t1a,.slice p2a k2a c2a,.slice p3a k3a c3a,.slice p4a k4a c4a,.slice p5a k5a c5a,.int .i64 i6a,.int .i64 i7a,.int .i64 i8a,.int .i64 i9a,.int .i64 i10a,.slice p11a k11a c11a]):=HA4.out.below hb1
 have HB5:Hid (Below w.heap.size w w3):=HB4.out.trans (hb1.mono (by omega))
 have HG13:Hid (w3.heap[w1.heap.size]?=some (.cells #[.string t0a,.string t1a,.slice p2a k2a c2a,.slice p3a k3a c3a,.slice p4a k4a c4a,.slice p5a k5a c5a,.int .i64 i6a,.int .i64 i7a,.int .i64 i8a,.int .i64 i9a,.int .i64 i10a,.slice p11a k11a c11a] 51 (0,0))):=(hb1.block _ (by omega)).trans HG12.out
 have hz3:w1.heap.size < w3.heap.size:=by have:=hb1.size;omega
 clear h hP hb1 HA4 HN2 y0 y1 y2 y3 y4 y5 y6 y7 y8 y9 y10 y11
 obtain ⟨W3,hW3⟩:∃ W3,W3=w3.alloc (.cells #[.string t0p,.bool b1p,.slice p2p k2p c2p,.slice p3p k3p c3p,.slice p4p k4p c4p,.slice p5p k5p c5p] 67):=⟨_,rfl⟩
 have ha3:Below w3.heap.size w3 W3:=by rw [hW3];exact (Below.refl _ _).alloc (Nat.le_refl _) _
 have HG3:Hid (W3.heap[w3.heap.size]?=some (.cells #[.string t0p,.bool b1p,.slice p2p k2p c2p,.slice p3p k3p c3p,.slice p4p k4p c4p,.slice p5p k5p c5p] 67 (0,0))):=by rw [hW3];exact heap_alloc_new w3 _
 have hs3:W3.heap.size=w3.heap.size+1:=by rw [hW3];simp
 have HA6:Hid (IsNd W3 bgA #[.string t0a,.string t1a,.slice p2a k2a c2a,.slice p3a k3a c3a,.slice p4a k4a c4a,.slice p5a k5a c5a,.int .i64 i6a,.int .i64 i7a,.int .i64 i8a,.int .i64 i9a,.int .i64 i10a,.slice p11a k11a c11a]):=HA5.out.below ha3
 have HP2:Hid (IsPkR W3 bgP #[.string t0p,.bool b1p,.slice p2p k2p c2p,.slice p3p k3p c3p,.slice p4p k4p c4p,.slice p5p k5p c5p]):=HP1.out.below ha3
 have HB6:Hid (Below w.heap.size w W3):=HB5.out.trans (ha3.mono (by omega))
 have hg:=HG3.out
 have hg1:W3.heap[w1.heap.size]?=some (.cells #[.string t0a,.string t1a,.slice p2a k2a c2a,.slice p3a k3a c3a,.slice p4a k4a c4a,.slice p5a k5a c5a,.int .i64 i6a,.int .i64 i7a,.int .i64 i8a,.int .i64 i9a,.int .i64 i10a,.slice p11a k11a c11a] 51 (0,0)):=(ha3.block _ hz3).trans HG13.out
 have HG14:Hid (W3.heap[w1.heap.size]?=some (.cells #[.string t0a,.string t1a,.slice p2a k2a c2a,.slice p3a k3a c3a,.slice p4a k4a c4a,.slice p5a k5a c5a,.int .i64 i6a,.int .i64 i7a,.int .i64 i8a,.int .i64 i9a,.int .i64 i10a,.slice p11a k11a c11a] 51 (0,0))):=hg1
 obtain ⟨y0,y1,y2,y3,y4,y5⟩:=cells6 hg
 obtain ⟨x0,x1,x2,x3,x4,x5,x6,x7,x8,x9,x10,x11⟩:=cells12 hg1
 clear ha3 HA5 HP1 hg hg1
 go_upto_region 4 with fail
 rw [← hW3]
 clear hW3
 go_wp2_with fail
 refine (hear_is0 HA6.out HP2.out (.inl rfl) rfl rfl rfl rfl rfl).mono ?_
 intro e w4 h
 obtain ⟨A1,rfl,hA,hb1⟩:=h.ok bg_eA bg_e3
 obtain ⟨t0c,t1c,p2c,k2c,c2c,p3c,k3c,c3c,p4c,k4c,c4c,p5c,k5c,c5c,i6c,i7c,i8c,i9c,i10c,p11c,k11c,c11c,rfl⟩:=hA.is.letters
 simp only [ndV] at hA ⊢
 have HA7:Hid (OwnNd W3.heap.size w4 bg3 #[.string t0c,.string t1c,.slice p2c k2c c2c,.slice p3c k3c c3c,.slice p4c k4c c4c,.slice p5c k5c c5c,.int .i64 i6c,.int .i64 i7c,.int .i64 i8c,.int .i64 i9c,.int .i64 i10c,.slice p11c k11c c11c]):=hA
 have HB7:Hid (Below w.heap.size w w4):=HB6.out.trans (hb1.mono (by omega))
 have hg1:w4.heap[w1.heap.size]?=some (.cells #[.string t0a,.string t1a,.slice p2a k2a c2a,.slice p3a k3a c3a,.slice p4a k4a c4a,.slice p5a k5a c5a,.int .i64 i6a,.int .i64 i7a,.int .i64 i8a,.int .i64 i9a,.int .i64 i10a,.slice p11a k11a c11a] 51 (0,0)):=(hb1.block _ (by omega)).trans HG14.out
 have hz4:W3.heap.size≤w4.heap.size:=hb1.size
 clear h hA hb1 HA6 HP2 y0 y1 y2 y3 y4 y5 x0 x1 x2 x3 x4 x5 x6 x7 x8 x9 x10 x11
 obtain ⟨x0,x1,x2,x3,x4,x5,x6,x7,x8,x9,x10,x11⟩:=cells12 hg1
 obtain ⟨xz0,xz1,xz2,xz3,xz4,xz5,xz6,xz7,xz8,xz9,xz10,xz11⟩:=frz12 hg1
 obtain ⟨W4,hW4⟩:∃ W4,W4=((((((((((((w4.setCell ⟨w1.heap.size,0,none⟩ (.string t0c)).setCell ⟨w1.heap.size,1,none⟩ (.string t1c)).setCell ⟨w1.heap.size,2,none⟩ (.slice p2c k2c c2c)).setCell ⟨w1.heap.size,3,none⟩ (.slice p3c k3c c3c)).setCell ⟨w1.heap.size,4,none⟩ (.slice p4c k4c c4c)).setCell ⟨w1.heap.size,5,none⟩ (.slice p5c k5c c5c)).setCell ⟨w1.heap.size,6,none⟩ (.int .i64 i6c)).setCell ⟨w1.heap.size,7,none⟩ (.int .i64 i7c)).setCell ⟨w1.heap.size,8,none⟩ (.int .i64 i8c)).setCell ⟨w1.heap.size,9,none⟩ (.int .i64 i9c)).setCell ⟨w1.heap.size,10,none⟩ (.int .i64 i10c)).setCell ⟨w1.heap.size,11,none⟩ (.slice p11c k11c c11c)):=⟨_,rfl⟩
 have hF4:W4=setAll w1.heap.size [.string t0c,.string t1c,.slice p2c k2c c2c,.slice p3c k3c c3c,.slice p4c k4c c4c,.slice p5c k5c c5c,.int .i64 i6c,.int .i64 i7c,.int .i64 i8c,.int .i64 i9c,.int .i64 i10c,.slice p11c k11c c11c] 0 w4:=by rw [hW4];simp only [setAll,Nat.zero_add,Nat.reduceAdd]
 have hg2:W4.heap[w1.heap.size]?=some (.cells #[.string t0c,.string t1c,.slice p2c k2c c2c,.slice p3c k3c c3c,.slice p4c k4c c4c,.slice p5c k5c c5c,.int .i64 i6c,.int .i64 i7c,.int .i64 i8c,.int .i64 i9c,.int .i64 i10c,.slice p11c k11c c11c] 51 (0,0)):=by rw [hF4];exact setAll12 hg1 _ _ _ _ _ _ _ _ _ _ _ _
 have HG15:Hid (W4.heap[w1.heap.size]?=some (.cells #[.string t0c,.string t1c,.slice p2c k2c c2c,.slice p3c k3c c3c,.slice p4c k4c c4c,.slice p5c k5c c5c,.int .i64 i6c,.int .i64 i7c,.int .i64 i8c,.int .i64 i9c,.int .i64 i10c,.slice p11c k11c c11c] 51 (0,0))):=hg2
 have HB8:Hid (Below w.heap.size w W4):=by rw [hF4];exact setAll_below hz1 _ _ HB7.out
 have HA8:Hid (IsNd W4 bg3 #[.string t0c,.string t1c,.slice p2c k2c c2c,.slice p3c k3c c3c,.slice p4c k4c c4c,.slice p5c k5c c5c,.int .i64 i6c,.int .i64 i7c,.int .i64 i8c,.int .i64 i9c,.int .i64 i10c,.slice p11c k11c c11c]):=by rw [hF4];exact (HA7.out.setAll (by omega) _ _).is
 have hs4:W4.heap.size=w4.heap.size:=by rw [hF4];exact setAll_size _ _ _ _
 obtain ⟨u0,u1,u2,u3,u4,u5,u6,u7,u8,u9,u10,u11⟩:=cells12 hg2
 clear hF4 hg1 hg2 HA7
 go_upto_region 5 with fail
 rw [← hW4]
 clear hW4 x0 xz0 x1 xz1 x2 xz2 x3 xz3 x4 xz4 x5 xz5 x6 xz6 x7 xz7 x8 xz8 x9 xz9 x10 xz10 x11 xz11
 go_wp2_with fail
 refine (doubt_is HA8.out ⟨#[98]⟩ one_le).mono ?_
 intro e w5 h
 obtain ⟨A1,rfl,hA,hb1⟩:=h.ok bg_n3 bg_e4
 obtain ⟨t0d,t1d,p2d,k2d,c2d,p3d,k3d,c3d,p4d,k4d,c4d,p5d,k5d,c5d,i6d,i7d,i8d,i9d,i10d,p11d,k11d,c11d,rfl⟩:=hA.is.letters
 simp only [ndV] at hA ⊢
 have HA9:Hid (OwnNd W4.heap.size w5 bg4 #[.string t0d,.string t1d,.slice p2d k2d c2d,.slice p3d k3d c3d,.slice p4d k4d c4d,.slice p5d k5d c5d,.int .i64 i6d,.int .i64 i7d,.int .i64 i8d,.int .i64 i9d,.int .i64 i10d,.slice p11d k11d c11d]):=hA
 have hk2:k2d=2:=by
  obtain ⟨p,c,hp⟩:=hA.is.len
  have hp2:some (Value.slice p2d k2d c2d)=some (Value.slice p bg4.ms.length c):=hp
  rw [bg_m4] at hp2
  injection hp2 with hp2
  injection hp2
 have HB9:Hid (Below w.heap.size w w5):=HB8.out.trans (hb1.mono (by omega))
 have hg1:w5.heap[w1.heap.size]?=some (.cells #[.string t0c,.string t1c,.slice p2c k2c c2c,.slice p3c k3c c3c,.slice p4c k4c c4c,.slice p5c k5c c5c,.int .i64 i6c,.int .i64 i7c,.int .i64 i8c,.int .i64 i9c,.int .i64 i10c,.slice p11c k11c c11c] 51 (0,0)):=(hb1.block _ (by omega)).trans HG15.out
 have hz5:W4.heap.size≤w5.heap.size:=hb1.size
 clear h hA hb1 HA8 u0 u1 u2 u3 u4 u5 u6 u7 u8 u9 u10 u11
 obtain ⟨x0,x1,x2,x3,x4,x5,x6,x7,x8,x9,x10,x11⟩:=cells12 hg1
 obtain ⟨xz0,xz1,xz2,xz3,xz4,xz5,xz6,xz7,xz8,xz9,xz10,xz11⟩:=frz12 hg1
 obtain ⟨W5,hW5⟩:∃ W5,W5=((((((((((((w5.setCell ⟨w1.heap.size,0,none⟩ (.string t0d)).setCell ⟨w1.heap.size,1,none⟩ (.string t1d)).setCell ⟨w1.heap.size,2,none⟩ (.slice p2d k2d c2d)).setCell ⟨w1.heap.size,3,none⟩ (.slice p3d k3d c3d)).setCell ⟨w1.heap.size,4,none⟩ (.slice p4d k4d c4d)).setCell ⟨w1.heap.size,5,none⟩ (.slice p5d k5d c5d)).setCell ⟨w1.heap.size,6,none⟩ (.int .i64 i6d)).setCell ⟨w1.heap.size,7,none⟩ (.int .i64 i7d)).setCell ⟨w1.heap.size,8,none⟩ (.int .i64 i8d)).setCell ⟨w1.heap.size,9,none⟩ (.int .i64 i9d)).setCell ⟨w1.heap.size,10,none⟩ (.int .i64 i10d)).setCell ⟨w1.heap.size,11,none⟩ (.slice p11d k11d c11d)):=⟨_,rfl⟩
 have hF5:W5=setAll w1.heap.size [.string t0d,.string t1d,.slice p2d k2d c2d,.slice p3d k3d c3d,.slice p4d k4d c4d,.slice p5d k5d c5d,.int .i64 i6d,.int .i64 i7d,.int .i64 i8d,.int .i64 i9d,.int .i64 i10d,.slice p11d k11d c11d] 0 w5:=by rw [hW5];simp only [setAll,Nat.zero_add,Nat.reduceAdd]
 have hg2:W5.heap[w1.heap.size]?=some (.cells #[.string t0d,.string t1d,.slice p2d k2d c2d,.slice p3d k3d c3d,.slice p4d k4d c4d,.slice p5d k5d c5d,.int .i64 i6d,.int .i64 i7d,.int .i64 i8d,.int .i64 i9d,.int .i64 i10d,.slice p11d k11d c11d] 51 (0,0)):=by rw [hF5];exact setAll12 hg1 _ _ _ _ _ _ _ _ _ _ _ _
 have HG16:Hid (W5.heap[w1.heap.size]?=some (.cells #[.string t0d,.string t1d,.slice p2d k2d c2d,.slice p3d k3d c3d,.slice p4d k4d c4d,.slice p5d k5d c5d,.int .i64 i6d,.int .i64 i7d,.int .i64 i8d,.int .i64 i9d,.int .i64 i10d,.slice p11d k11d c11d] 51 (0,0))):=hg2
 have HB10:Hid (Below w.heap.size w W5):=by rw [hF5];exact setAll_below hz1 _ _ HB9.out
 have HA10:Hid (IsNd W5 bg4 #[.string t0d,.string t1d,.slice p2d k2d c2d,.slice p3d k3d c3d,.slice p4d k4d c4d,.slice p5d k5d c5d,.int .i64 i6d,.int .i64 i7d,.int .i64 i8d,.int .i64 i9d,.int .i64 i10d,.slice p11d k11d c11d]):=by rw [hF5];exact (HA9.out.setAll (by omega) _ _).is
 have hs5:W5.heap.size=w5.heap.size:=by rw [hF5];exact setAll_size _ _ _ _
 obtain ⟨u0,u1,u2,u3,u4,u5,u6,u7,u8,u9,u10,u11⟩:=cells12 hg2
 clear hF5 hg1 hg2 HA9
 have hk3:=hk2
 clear hk2
 have HK2:Hid (k2d=2):=hk3
 clear hk3
 go_upto_region 6 with fail
 rw [← hW5]
 clear hW5 x0 xz0 x1 xz1 x2 xz2 x3 xz3 x4 xz4 x5 xz5 x6 xz6 x7 xz7 x8 xz8 x9 xz9 x10 xz10 x11 xz11
 go_wp2_with fail
 refine (tell_is HA10.out).mono ?_
 intro e w6 h
 obtain ⟨A1,ta,tk,tc,l,rest,rfl,hT,hA,hol,hb1⟩:=h.ok bg_n4
 obtain ⟨t0e,t1e,p2e,k2e,c2e,p3e,k3e,c3e,p4e,k4e,c4e,p5e,k5e,c5e,i6e,i7e,i8e,i9e,i10e,p11e,k11e,c11e,rfl⟩:=hA.is.letters
 simp only [ndV] at hA ⊢
 have hl:=bg_tell hT
 subst hl
 have hb6:w1.heap.size < w6.heap.size:=by have:=hb1.size;omega
 have hg1:w6.heap[w1.heap.size]?=some (.cells #[.string t0d,.string t1d,.slice p2d k2d c2d,.slice p3d k3d c3d,.slice p4d k4d c4d,.slice p5d k5d c5d,.int .i64 i6d,.int .i64 i7d,.int .i64 i8d,.int .i64 i9d,.int .i64 i10d,.slice p11d k11d c11d] 51 (0,0)):=(hb1.block _ (by omega)).trans HG16.out
 have HB11:Hid (Below w.heap.size w w6):=HB10.out.trans (hb1.mono (by omega))
 obtain ⟨a,cap,hv,_,hrow⟩:=hol.sl (ns_get (by intro m hm;rw [List.mem_singleton.1 hm];exact one_le))
 injection hv with hv1 hv2 hv3
 rcases hrow with h0 | ⟨g,off,hp,hlt,hrow⟩
 ·cases h0
 have hc:=(hrow 0 (by simp)).2.1
 have hc2:w6.cell? ⟨g,off+1,none⟩=some (.int .i64 2):=by simpa [bgM] using hc
 have HC:Hid (w6.cell? ⟨g,off+1,none⟩=some (.int .i64 2)):=hc2
 clear hc2
 subst hv1 hp
 have hv2':tk=1:=hv2
 subst hv2'
 clear hv2 hv3 hrow hc hT hA hol h hb1 HA10 u0 u1 u2 u3 u4 u5 u6 u7 u8 u9 u10 u11
 generalize bg4.name=qn at *
 obtain ⟨W6,hW6⟩:∃ W6,W6=(w6.alloc (.cells #[.string t0e,.string t1e,.slice p2e k2e c2e,.slice p3e k3e c3e,.slice p4e k4e c4e,.slice p5e k5e c5e,.int .i64 i6e,.int .i64 i7e,.int .i64 i8e,.int .i64 i9e,.int .i64 i10e,.slice p11e k11e c11e] 51)).alloc (.cells #[.string qn,.bool false,.slice (some ⟨g,off,none⟩) 1 tc,.slice none 0 0,.slice none 0 0,.slice none 0 0] 67):=⟨_,rfl⟩
 have hb7:Below w6.heap.size w6 W6:=by rw [hW6];exact ((Below.refl _ _).alloc (Nat.le_refl _) _).alloc (by simp) _
 have hgq:W6.heap[w6.heap.size+1]?=some (.cells #[.string qn,.bool false,.slice (some ⟨g,off,none⟩) 1 tc,.slice none 0 0,.slice none 0 0,.slice none 0 0] 67 (0,0)):=by
  have h:=heap_alloc_new (w6.alloc (.cells #[.string t0e,.string t1e,.slice p2e k2e c2e,.slice p3e k3e c3e,.slice p4e k4e c4e,.slice p5e k5e c5e,.int .i64 i6e,.int .i64 i7e,.int .i64 i8e,.int .i64 i9e,.int .i64 i10e,.slice p11e k11e c11e] 51)) (.cells #[.string qn,.bool false,.slice (some ⟨g,off,none⟩) 1 tc,.slice none 0 0,.slice none 0 0,.slice none 0 0] 67)
  rw [hW6];simpa using h
 have hgd:W6.heap[w1.heap.size]?=some (.cells #[.string t0d,.string t1d,.slice p2d k2d c2d,.slice p3d k3d c3d,.slice p4d k4d c4d,.slice p5d k5d c5d,.int .i64 i6d,.int .i64 i7d,.int .i64 i8d,.int .i64 i9d,.int .i64 i10d,.slice p11d k11d c11d] 51 (0,0)):=(hb7.block _ hb6).trans hg1
 have z1:W6.cell? ⟨w1.heap.size,2,none⟩=some (.slice p2d 2 c2d):=(cellsAt hgd 2).trans (by rw [HK2.out];rfl)
 have z2:W6.cell? ⟨w6.heap.size+1,2,none⟩=some (.slice (some ⟨g,off,none⟩) 1 tc):=cellsAt hgq 2
 have z3:W6.cell? ⟨g,off+1,none⟩=some (.int .i64 2):=(hb7.cell hlt).trans HC.out
 have HB12:Hid (Below w.heap.size w W6):=HB11.out.trans (hb7.mono HB11.out.size)
 clear hb7 hgq hgd hg1 hlt
 go_upto_region 7 with fail
 rw [← hW6]
 clear hW6
 go_wp2_with fail
 go_ret
 exact ⟨rfl,HB12.out⟩
end Go.Proofs.YtffdoiokmiklgaaGreatDoor
