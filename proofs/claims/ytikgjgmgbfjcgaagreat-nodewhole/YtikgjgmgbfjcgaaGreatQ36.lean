import Derived.Test.YtikgjgmgbfjcgaaGreatQ34
import Derived.Test.YtikgjgmgbfjcgaaGreatQ21
import Derived.Deep.RegionHeld3
import Derived.Test.YtikgjgmgbfjcgaaGreatQ28
import Derived.Test.YtikgjgmgbfjcgaaGreatQ29
import Derived.Test.YtikgjgmgbfjcgaaGreatQ35
namespace Go.Proofs.YtikgjgmgbfjcgaaGreat
open Go.RowKit
def TellSays (n:Nd) (ne:Int) (w:World) (e:Ending) (w':World):Prop:=Below w.heap.size w w' ∧
 ((ne≠0∧e=.returned (.tuple #[.agg #[.string ⟨#[]⟩,.string ⟨#[]⟩,.slice none 0 0,.slice none 0 0,.slice none 0 0,.slice none 0 0,.int .i64 0,.int .i64 0,.int .i64 0,.int .i64 0,.int .i64 0,.slice none 0 0],.agg #[.string ⟨#[]⟩,.bool false,.slice none 0 0,.slice none 0 0,.slice none 0 0,.slice none 0 0],.int .i64 ne])) ∨
 (ne=0∧∃ n' um ur us ug uw a k c l,e=.returned (.tuple #[.agg (ndA n' um ur us ug uw),.agg #[.string n.name,.bool false,.slice a k c,.slice none 0 0,.slice none 0 0,.slice none 0 0],.int .i64 0])∧n'={ n with rs:=n'.rs }∧TellIs n l n'.rs∧NdOwn w.heap.size w' n' um ur us ug uw∧NdOk n'∧Own w.heap.size w' (.slice a k c) l))
def ToldBox (n:Nd) (tb B:Nat) (n':Nd) (W:World):Prop:=∃ a k c l,n'={ n with rs:=n'.rs }∧TellIs n l n'.rs∧W.heap[tb]?=some (.cells #[.string n.name,.bool false,.slice a k c,.slice none 0 0,.slice none 0 0,.slice none 0 0] 44 (0,0))∧Own B W (.slice a k c) l
set_option maxHeartbeats 25600000 in
set_option maxRecDepth 100000 in
theorem Tell_any (n:Nd) (vm vr vs vg vw:Value) (w:World) (h:NdIs w n vm vr vs vg vw) :
 Calls Tryz.prog 19 #[.agg (ndA n vm vr vs vg vw)] w fun e w'=>TellSays n n.e w e w':=by
 have HIS:Hid (NdIs w n vm vr vs vg vw):=h
 have HWS:Hid (∀ W0,Below w.heap.size w W0→W0.heap.size=w.heap.size+4→W0.heap[w.heap.size+3]?=some (.cells #[.string ⟨#[]⟩,.bool false,.slice none 0 0,.slice none 0 0,.slice none 0 0,.slice none 0 0] 44 (0,0))→Calls Tryz.prog 54 #[.agg (ndA n vm vr vs vg vw),.func (.func 55) #[] #[.pointer (some ⟨w.heap.size+3,0,none⟩)]] W0 fun e w'=>WorkSaysN n.e 0 (fun k=>k=w.heap.size+3) (ToldBox n (w.heap.size+3) (W0.heap.size+2)) W0 e w'):=fun W0 hb hs hc=>
  workN_any 55 #[.pointer (some ⟨w.heap.size+3,0,none⟩)] (enters_of Tryz.func55 (by kernel_rfl) rfl) n vm vr vs vg vw W0 (h.below hb) (fun k=>k=w.heap.size+3) 0 (ToldBox n (w.heap.size+3) (W0.heap.size+2))
   (fun he W b hW hb2 hk=>by
     refine (tellC_any (W0.heap.size+2) b (w.heap.size+3) n W hk (by omega) (Nd.sp he) ((hW.block _ (by omega)).trans hc)).mono ?_
     rintro e w' ⟨rfl,hs2,a,k,c,l,rest,HT,hbx,ho,hwk⟩
     have hbW:=hk.lt
     exact ⟨rfl,hs2.mono (fun k hk=>by omega),fun _=>⟨_,hwk,a,k,c,l,rfl,HT.out,hbx,ho.mono (by omega)⟩⟩)
   (fun n' W j x hR=>by
     obtain ⟨a,k,c,l,h1,h2,h3,h4⟩:=hR
     exact ⟨a,k,c,l,h1,h2,(Below.heap_setCell _ _ _ _ (by simp only;omega)).trans h3,ownsRow_setCell_below h4 (by simp only;omega) _⟩)
   (fun _ hk=>by omega)
 have HNM:Hid (∀ nd:Nd,nd=n→nd.name=n.name):=fun _ h=>by rw [h]
 generalize hne0:n.e=ne at *
 clear hne0
 have HN:Hid (∃ n0,n0=n):=⟨_,rfl⟩
 obtain ⟨N,hN⟩:∃ N,N=n:=⟨_,rfl⟩
 rw [← hN] at HWS ⊢
 have HNN:Hid (N.name=n.name):=by rw [hN];rfl
 obtain ⟨nm,ct,ms,rs,sv,gw,⟨px,py,pz,ph,pq⟩,wh⟩:=n
 obtain ⟨⟨em,cm,rfl,_,_⟩,⟨er_,cr,rfl,_,_⟩,⟨es,cs_,rfl,_,_⟩,⟨eg_,cg,rfl,_,_⟩,⟨eh,ch,rfl,_,_⟩,_,_⟩:=h
 have hA:ndA N (.slice em ms.length cm) (.slice er_ rs.length cr) (.slice es sv.length cs_) (.slice eg_ gw.length cg) (.slice eh wh.length ch)=#[.string nm,.string ct,.slice em ms.length cm,.slice er_ rs.length cr,.slice es sv.length cs_,.slice eg_ gw.length cg,.int .i64 px,.int .i64 py,.int .i64 pz,.int .i64 ph,.int .i64 pq,.slice eh wh.length ch]:=by rw [hN]
 simp only [hA] at HWS ⊢
 clear hA hN HN HNM
 simp only at HNN
 generalize ms.length=km at *
 generalize rs.length=kr at *
 generalize sv.length=ks at *
 generalize gw.length=kg at *
 generalize wh.length=kh at *
 obtain ⟨W0,hW0⟩:∃ W0,W0=((((w.alloc (.cells #[.string nm,.string ct,.slice em km cm,.slice er_ kr cr,.slice es ks cs_,.slice eg_ kg cg,.int .i64 px,.int .i64 py,.int .i64 pz,.int .i64 ph,.int .i64 pq,.slice eh kh ch] 30)).alloc (.cells #[.string ⟨#[]⟩,.string ⟨#[]⟩,.slice none 0 0,.slice none 0 0,.slice none 0 0,.slice none 0 0,.int .i64 0,.int .i64 0,.int .i64 0,.int .i64 0,.int .i64 0,.slice none 0 0] 30)).alloc (.cells #[.string ⟨#[]⟩,.bool false,.slice none 0 0,.slice none 0 0,.slice none 0 0,.slice none 0 0] 44)).alloc (.cells #[.string ⟨#[]⟩,.bool false,.slice none 0 0,.slice none 0 0,.slice none 0 0,.slice none 0 0] 44)):=⟨_,rfl⟩
 have hb0:Below w.heap.size w W0:=by rw [hW0];exact ((((Below.refl _ _).alloc (Nat.le_refl _) _).alloc (by simp<;>omega) _).alloc (by simp<;>omega) _).alloc (by simp<;>omega) _
 have hs0:W0.heap.size=w.heap.size+4:=by rw [hW0];simp
 have ht0:W0.heap[w.heap.size+3]?=some (.cells #[.string ⟨#[]⟩,.bool false,.slice none 0 0,.slice none 0 0,.slice none 0 0,.slice none 0 0] 44 (0,0)):=by
  have h:=heap_alloc_new (((w.alloc (.cells #[.string nm,.string ct,.slice em km cm,.slice er_ kr cr,.slice es ks cs_,.slice eg_ kg cg,.int .i64 px,.int .i64 py,.int .i64 pz,.int .i64 ph,.int .i64 pq,.slice eh kh ch] 30)).alloc (.cells #[.string ⟨#[]⟩,.string ⟨#[]⟩,.slice none 0 0,.slice none 0 0,.slice none 0 0,.slice none 0 0,.int .i64 0,.int .i64 0,.int .i64 0,.int .i64 0,.int .i64 0,.slice none 0 0] 30)).alloc (.cells #[.string ⟨#[]⟩,.bool false,.slice none 0 0,.slice none 0 0,.slice none 0 0,.slice none 0 0] 44)) (.cells #[.string ⟨#[]⟩,.bool false,.slice none 0 0,.slice none 0 0,.slice none 0 0,.slice none 0 0] 44)
  rw [hW0];simpa using h
 have hy0:W0.heap[w.heap.size+2]?=some (.cells #[.string ⟨#[]⟩,.bool false,.slice none 0 0,.slice none 0 0,.slice none 0 0,.slice none 0 0] 44 (0,0)):=by
  have h:=heap_alloc_new ((w.alloc (.cells #[.string nm,.string ct,.slice em km cm,.slice er_ kr cr,.slice es ks cs_,.slice eg_ kg cg,.int .i64 px,.int .i64 py,.int .i64 pz,.int .i64 ph,.int .i64 pq,.slice eh kh ch] 30)).alloc (.cells #[.string ⟨#[]⟩,.string ⟨#[]⟩,.slice none 0 0,.slice none 0 0,.slice none 0 0,.slice none 0 0,.int .i64 0,.int .i64 0,.int .i64 0,.int .i64 0,.int .i64 0,.slice none 0 0] 30)) (.cells #[.string ⟨#[]⟩,.bool false,.slice none 0 0,.slice none 0 0,.slice none 0 0,.slice none 0 0] 44)
  rw [hW0,Below.heap_alloc _ _ _ (by simp<;>omega)];simpa using h
 have hz0:W0.heap[w.heap.size+1]?=some (.cells #[.string ⟨#[]⟩,.string ⟨#[]⟩,.slice none 0 0,.slice none 0 0,.slice none 0 0,.slice none 0 0,.int .i64 0,.int .i64 0,.int .i64 0,.int .i64 0,.int .i64 0,.slice none 0 0] 30 (0,0)):=by
  have h:=heap_alloc_new (w.alloc (.cells #[.string nm,.string ct,.slice em km cm,.slice er_ kr cr,.slice es ks cs_,.slice eg_ kg cg,.int .i64 px,.int .i64 py,.int .i64 pz,.int .i64 ph,.int .i64 pq,.slice eh kh ch] 30)) (.cells #[.string ⟨#[]⟩,.string ⟨#[]⟩,.slice none 0 0,.slice none 0 0,.slice none 0 0,.slice none 0 0,.int .i64 0,.int .i64 0,.int .i64 0,.int .i64 0,.int .i64 0,.slice none 0 0] 30)
  rw [hW0,Below.heap_alloc _ _ _ (by simp<;>omega),Below.heap_alloc _ _ _ (by simp<;>omega)];simpa using h
 have HWC:=HWS.out W0 hb0 hs0 ht0
 have HB0:Hid (Below w.heap.size w W0):=hb0
 have HZ0:Hid (W0.heap[w.heap.size+1]?=some (.cells #[.string ⟨#[]⟩,.string ⟨#[]⟩,.slice none 0 0,.slice none 0 0,.slice none 0 0,.slice none 0 0,.int .i64 0,.int .i64 0,.int .i64 0,.int .i64 0,.int .i64 0,.slice none 0 0] 30 (0,0))):=hz0
 have HY0:Hid (W0.heap[w.heap.size+2]?=some (.cells #[.string ⟨#[]⟩,.bool false,.slice none 0 0,.slice none 0 0,.slice none 0 0,.slice none 0 0] 44 (0,0))):=hy0
 have HT0:Hid (W0.heap[w.heap.size+3]?=some (.cells #[.string ⟨#[]⟩,.bool false,.slice none 0 0,.slice none 0 0,.slice none 0 0,.slice none 0 0] 44 (0,0))):=ht0
 clear hb0 hz0 hy0 ht0 HWS
 go_enter Tryz.func19,Tryz.ntmps19
 go_wp2_with fail
 rw [← hW0]
 refine HWC.mono ?_
 rintro e w1 ⟨hsh,hor⟩
 have hs1:w.heap.size+4≤w1.heap.size:=by have:=hsh.size;omega
 have HB1:Hid (Below w.heap.size w w1):=HB0.out.trans (hsh.below (by omega) (fun k hk=>by omega))
 have HZ1:Hid (w1.heap[w.heap.size+1]?=some (.cells #[.string ⟨#[]⟩,.string ⟨#[]⟩,.slice none 0 0,.slice none 0 0,.slice none 0 0,.slice none 0 0,.int .i64 0,.int .i64 0,.int .i64 0,.int .i64 0,.int .i64 0,.slice none 0 0] 30 (0,0))):=(hsh.block _ (by omega) (by omega)).trans HZ0.out
 have HY1:Hid (w1.heap[w.heap.size+2]?=some (.cells #[.string ⟨#[]⟩,.bool false,.slice none 0 0,.slice none 0 0,.slice none 0 0,.slice none 0 0] 44 (0,0))):=(hsh.block _ (by omega) (by omega)).trans HY0.out
 clear hsh HWC hW0
 rcases hor with ⟨hne,hbw,rfl⟩ | ⟨_,hee,_⟩ | ⟨hne,_,n',um,ur,us,ug,uw,rfl,hown,hok,ta,tk,tc,l,hn',hT,hbx,hol⟩
 rotate_left
 ·exact absurd rfl hee
 rotate_left
 ·have HT1:Hid (w1.heap[w.heap.size+3]?=some (.cells #[.string ⟨#[]⟩,.bool false,.slice none 0 0,.slice none 0 0,.slice none 0 0,.slice none 0 0] 44 (0,0))):=(hbw.block _ (by omega)).trans HT0.out
  have HNE:Hid (ne≠0):=hne
  clear hne hbw
  obtain ⟨W5,hW5⟩:∃ W5,W5=w1.alloc (.cells #[.string ⟨#[]⟩,.string ⟨#[]⟩,.slice none 0 0,.slice none 0 0,.slice none 0 0,.slice none 0 0,.int .i64 0,.int .i64 0,.int .i64 0,.int .i64 0,.int .i64 0,.slice none 0 0] 30):=⟨_,rfl⟩
  have hb5:Below w1.heap.size w1 W5:=by rw [hW5];exact (Below.refl _ _).alloc (Nat.le_refl _) _
  have hg5:W5.heap[w1.heap.size]?=some (.cells #[.string ⟨#[]⟩,.string ⟨#[]⟩,.slice none 0 0,.slice none 0 0,.slice none 0 0,.slice none 0 0,.int .i64 0,.int .i64 0,.int .i64 0,.int .i64 0,.int .i64 0,.slice none 0 0] 30 (0,0)):=by rw [hW5];exact heap_alloc_new w1 _
  have hz5:W5.heap[w.heap.size+1]?=some (.cells #[.string ⟨#[]⟩,.string ⟨#[]⟩,.slice none 0 0,.slice none 0 0,.slice none 0 0,.slice none 0 0,.int .i64 0,.int .i64 0,.int .i64 0,.int .i64 0,.int .i64 0,.slice none 0 0] 30 (0,0)):=(hb5.block _ (by omega)).trans HZ1.out
  have hy5:W5.heap[w.heap.size+2]?=some (.cells #[.string ⟨#[]⟩,.bool false,.slice none 0 0,.slice none 0 0,.slice none 0 0,.slice none 0 0] 44 (0,0)):=(hb5.block _ (by omega)).trans HY1.out
  have ht5:W5.heap[w.heap.size+3]?=some (.cells #[.string ⟨#[]⟩,.bool false,.slice none 0 0,.slice none 0 0,.slice none 0 0,.slice none 0 0] 44 (0,0)):=(hb5.block _ (by omega)).trans HT1.out
  have hs5:w1.heap.size < W5.heap.size:=by rw [hW5];simp
  have HB5:Hid (Below w.heap.size w W5):=HB1.out.trans (hb5.mono HB1.out.size)
  have HZ5:Hid (W5.heap[w.heap.size+1]?=some (.cells #[.string ⟨#[]⟩,.string ⟨#[]⟩,.slice none 0 0,.slice none 0 0,.slice none 0 0,.slice none 0 0,.int .i64 0,.int .i64 0,.int .i64 0,.int .i64 0,.int .i64 0,.slice none 0 0] 30 (0,0))):=hz5
  have HY5:Hid (W5.heap[w.heap.size+1+1]?=some (.cells #[.string ⟨#[]⟩,.bool false,.slice none 0 0,.slice none 0 0,.slice none 0 0,.slice none 0 0] 44 (0,0))):=hy5
  have HB15:Hid (Below w1.heap.size w1 W5):=hb5
  obtain ⟨p0,p1,p2,p3,p4,p5,p6,p7,p8,p9,p10,p11⟩:=cells12 hg5
  obtain ⟨q0,q1,q2,q3,q4,q5,q6,q7,q8,q9,q10,q11⟩:=cells12 hz5
  obtain ⟨qz0,qz1,qz2,qz3,qz4,qz5,qz6,qz7,qz8,qz9,qz10,qz11⟩:=frz12 hz5
  obtain ⟨r0,r1,r2,r3,r4,r5⟩:=cells6 hy5
  obtain ⟨rz0,rz1,rz2,rz3,rz4,rz5⟩:=frz6 hy5
  obtain ⟨t0,t1,t2,t3,t4,t5⟩:=cells6 ht5
  clear hb5 hg5 hz5 hy5 ht5
  have ne1:w.heap.size+1≠w1.heap.size:=by omega
  have ne2:w.heap.size+2≠w1.heap.size:=by omega
  have ne3:w.heap.size+1≠w.heap.size+3:=by omega
  have ne4:w.heap.size+2≠w.heap.size+3:=by omega
  go_upto_region 3 with fail
  rw [← hW5]
  clear hW5
  go_region_held3 (fun w'=>w'.cell? ⟨w1.heap.size,0,none⟩=some (.string ⟨#[]⟩)∧w'.cell? ⟨w1.heap.size,1,none⟩=some (.string ⟨#[]⟩)∧w'.cell? ⟨w1.heap.size,2,none⟩=some (.slice none 0 0)∧w'.cell? ⟨w1.heap.size,3,none⟩=some (.slice none 0 0)∧w'.cell? ⟨w1.heap.size,4,none⟩=some (.slice none 0 0)∧w'.cell? ⟨w1.heap.size,5,none⟩=some (.slice none 0 0)∧w'.cell? ⟨w1.heap.size,6,none⟩=some (.int .i64 0)∧w'.cell? ⟨w1.heap.size,7,none⟩=some (.int .i64 0)∧w'.cell? ⟨w1.heap.size,8,none⟩=some (.int .i64 0)∧w'.cell? ⟨w1.heap.size,9,none⟩=some (.int .i64 0)∧w'.cell? ⟨w1.heap.size,10,none⟩=some (.int .i64 0)∧w'.cell? ⟨w1.heap.size,11,none⟩=some (.slice none 0 0)∧w'.cell? ⟨w.heap.size+3,0,none⟩=some (.string ⟨#[]⟩)∧w'.cell? ⟨w.heap.size+3,1,none⟩=some (.bool false)∧w'.cell? ⟨w.heap.size+3,2,none⟩=some (.slice none 0 0)∧w'.cell? ⟨w.heap.size+3,3,none⟩=some (.slice none 0 0)∧w'.cell? ⟨w.heap.size+3,4,none⟩=some (.slice none 0 0)∧w'.cell? ⟨w.heap.size+3,5,none⟩=some (.slice none 0 0)) (simp only [World.cell?_setCell_far,World.cell?_drew,ne_eq,ne1,ne2,ne3,ne4,not_false_eq_true,p0,p1,p2,p3,p4,p5,p6,p7,p8,p9,p10,p11,t0,t1,t2,t3,t4,t5,and_self]) (fail)
  all_goals go_wp2_with fail
  all_goals
   clear q0 qz0 q1 qz1 q2 qz2 q3 qz3 q4 qz4 q5 qz5 q6 qz6 q7 qz7 q8 qz8 q9 qz9 q10 qz10 q11 qz11 r0 rz0 r1 rz1 r2 rz2 r3 rz3 r4 rz4 r5 rz5 p0 p1 p2 p3 p4 p5 p6 p7 p8 p9 p10 p11 t0 t1 t2 t3 t4 t5
   first
   | (obtain ⟨WF,hWG⟩:∃ WF,WF=World.drew ((((((((((((((((((W5.setCell ⟨w.heap.size+1,0,none⟩ (.string ⟨#[]⟩)).setCell ⟨w.heap.size+1,1,none⟩ (.string ⟨#[]⟩)).setCell ⟨w.heap.size+1,2,none⟩ (.slice none 0 0)).setCell ⟨w.heap.size+1,3,none⟩ (.slice none 0 0)).setCell ⟨w.heap.size+1,4,none⟩ (.slice none 0 0)).setCell ⟨w.heap.size+1,5,none⟩ (.slice none 0 0)).setCell ⟨w.heap.size+1,6,none⟩ (.int .i64 0)).setCell ⟨w.heap.size+1,7,none⟩ (.int .i64 0)).setCell ⟨w.heap.size+1,8,none⟩ (.int .i64 0)).setCell ⟨w.heap.size+1,9,none⟩ (.int .i64 0)).setCell ⟨w.heap.size+1,10,none⟩ (.int .i64 0)).setCell ⟨w.heap.size+1,11,none⟩ (.slice none 0 0)).setCell ⟨w.heap.size+1+1,0,none⟩ (.string ⟨#[]⟩)).setCell ⟨w.heap.size+1+1,1,none⟩ (.bool false)).setCell ⟨w.heap.size+1+1,2,none⟩ (.slice none 0 0)).setCell ⟨w.heap.size+1+1,3,none⟩ (.slice none 0 0)).setCell ⟨w.heap.size+1+1,4,none⟩ (.slice none 0 0)).setCell ⟨w.heap.size+1+1,5,none⟩ (.slice none 0 0)):=⟨_,rfl⟩
      rw [← hWG]
      have hWF:WF=World.drew (setAll (w.heap.size+1+1) [.string ⟨#[]⟩,.bool false,.slice none 0 0,.slice none 0 0,.slice none 0 0,.slice none 0 0] 0 (setAll (w.heap.size+1) [.string ⟨#[]⟩,.string ⟨#[]⟩,.slice none 0 0,.slice none 0 0,.slice none 0 0,.slice none 0 0,.int .i64 0,.int .i64 0,.int .i64 0,.int .i64 0,.int .i64 0,.slice none 0 0] 0 W5)):=by rw [hWG];simp only [setAll,Nat.zero_add,Nat.reduceAdd]
      clear hWG
      have hz:WF.heap[w.heap.size+1]?=some (.cells #[.string ⟨#[]⟩,.string ⟨#[]⟩,.slice none 0 0,.slice none 0 0,.slice none 0 0,.slice none 0 0,.int .i64 0,.int .i64 0,.int .i64 0,.int .i64 0,.int .i64 0,.slice none 0 0] 30 (0,0)):=by rw [hWF];rw [drew_heap,setAll_other (by omega)];exact (setAll12 HZ5.out _ _ _ _ _ _ _ _ _ _ _ _)
      have hy:WF.heap[w.heap.size+1+1]?=some (.cells #[.string ⟨#[]⟩,.bool false,.slice none 0 0,.slice none 0 0,.slice none 0 0,.slice none 0 0] 44 (0,0)):=by rw [hWF];rw [drew_heap];exact setAll6 ((setAll_other (by omega) _ _ _).trans HY5.out) _ _ _ _ _ _
      have HB6:Hid (Below w.heap.size w WF):=by rw [hWF];exact drew_below (setAll_below (by omega) _ _ (setAll_below (by omega) _ _ HB5.out))
      have HOW:Hid (∀ {base n k:Nat} {T:TypeId} {v:Value} {xs:List Value},w.heap.size+1+1 < base→w1.ownsRow base T k v n xs→WF.ownsRow base T k v n xs):=fun hbs h=>by rw [hWF];exact drew_owns (setAll_owns (by omega) _ _ (setAll_owns (by omega) _ _ (owns_below h HB15.out)))
      clear hWF)
   | (obtain ⟨WF,hWG⟩:∃ WF,WF=World.drew ((((((((((((((((((W5.setCell ⟨w.heap.size+1+1,0,none⟩ (.string ⟨#[]⟩)).setCell ⟨w.heap.size+1+1,1,none⟩ (.bool false)).setCell ⟨w.heap.size+1+1,2,none⟩ (.slice none 0 0)).setCell ⟨w.heap.size+1+1,3,none⟩ (.slice none 0 0)).setCell ⟨w.heap.size+1+1,4,none⟩ (.slice none 0 0)).setCell ⟨w.heap.size+1+1,5,none⟩ (.slice none 0 0)).setCell ⟨w.heap.size+1,0,none⟩ (.string ⟨#[]⟩)).setCell ⟨w.heap.size+1,1,none⟩ (.string ⟨#[]⟩)).setCell ⟨w.heap.size+1,2,none⟩ (.slice none 0 0)).setCell ⟨w.heap.size+1,3,none⟩ (.slice none 0 0)).setCell ⟨w.heap.size+1,4,none⟩ (.slice none 0 0)).setCell ⟨w.heap.size+1,5,none⟩ (.slice none 0 0)).setCell ⟨w.heap.size+1,6,none⟩ (.int .i64 0)).setCell ⟨w.heap.size+1,7,none⟩ (.int .i64 0)).setCell ⟨w.heap.size+1,8,none⟩ (.int .i64 0)).setCell ⟨w.heap.size+1,9,none⟩ (.int .i64 0)).setCell ⟨w.heap.size+1,10,none⟩ (.int .i64 0)).setCell ⟨w.heap.size+1,11,none⟩ (.slice none 0 0)):=⟨_,rfl⟩
      rw [← hWG]
      have hWF:WF=World.drew (setAll (w.heap.size+1) [.string ⟨#[]⟩,.string ⟨#[]⟩,.slice none 0 0,.slice none 0 0,.slice none 0 0,.slice none 0 0,.int .i64 0,.int .i64 0,.int .i64 0,.int .i64 0,.int .i64 0,.slice none 0 0] 0 (setAll (w.heap.size+1+1) [.string ⟨#[]⟩,.bool false,.slice none 0 0,.slice none 0 0,.slice none 0 0,.slice none 0 0] 0 W5)):=by rw [hWG];simp only [setAll,Nat.zero_add,Nat.reduceAdd]
      clear hWG
      have hz:WF.heap[w.heap.size+1]?=some (.cells #[.string ⟨#[]⟩,.string ⟨#[]⟩,.slice none 0 0,.slice none 0 0,.slice none 0 0,.slice none 0 0,.int .i64 0,.int .i64 0,.int .i64 0,.int .i64 0,.int .i64 0,.slice none 0 0] 30 (0,0)):=by rw [hWF];rw [drew_heap];exact setAll12 ((setAll_other (by omega) _ _ _).trans HZ5.out) _ _ _ _ _ _ _ _ _ _ _ _
      have hy:WF.heap[w.heap.size+1+1]?=some (.cells #[.string ⟨#[]⟩,.bool false,.slice none 0 0,.slice none 0 0,.slice none 0 0,.slice none 0 0] 44 (0,0)):=by rw [hWF];rw [drew_heap,setAll_other (by omega)];exact (setAll6 HY5.out _ _ _ _ _ _)
      have HB6:Hid (Below w.heap.size w WF):=by rw [hWF];exact drew_below (setAll_below (by omega) _ _ (setAll_below (by omega) _ _ HB5.out))
      have HOW:Hid (∀ {base n k:Nat} {T:TypeId} {v:Value} {xs:List Value},w.heap.size+1+1 < base→w1.ownsRow base T k v n xs→WF.ownsRow base T k v n xs):=fun hbs h=>by rw [hWF];exact drew_owns (setAll_owns (by omega) _ _ (setAll_owns (by omega) _ _ (owns_below h HB15.out)))
      clear hWF)
   obtain ⟨q0,q1,q2,q3,q4,q5,q6,q7,q8,q9,q10,q11⟩:=cells12 hz
   obtain ⟨r0,r1,r2,r3,r4,r5⟩:=cells6 hy
   refine bodyPost_ret (v:=.tuple #[.agg #[.string ⟨#[]⟩,.string ⟨#[]⟩,.slice none 0 0,.slice none 0 0,.slice none 0 0,.slice none 0 0,.int .i64 0,.int .i64 0,.int .i64 0,.int .i64 0,.int .i64 0,.slice none 0 0],.agg #[.string ⟨#[]⟩,.bool false,.slice none 0 0,.slice none 0 0,.slice none 0 0,.slice none 0 0],.int .i64 ne]) ?_ rfl ?_
   ·simp [results,Tryz.results19,go_sem,q0,q1,q2,q3,q4,q5,q6,q7,q8,q9,q10,q11,r0,r1,r2,r3,r4,r5]
   ·unfold TellSays
    exact ⟨HB6.out,.inl ⟨HNE.out,rfl⟩⟩
 ·have HNE:Hid (ne=0):=hne
  rw [HNN.out] at hbx
  have HT1:Hid (w1.heap[w.heap.size+3]?=some (.cells #[.string nm,.bool false,.slice ta tk tc,.slice none 0 0,.slice none 0 0,.slice none 0 0] 44 (0,0))):=hbx
  have HTI:Hid (TellIs N l n'.rs):=hT
  have HN1:Hid (n'={ N with rs:=n'.rs }):=hn'
  have HOWN:Hid (NdOwn W0.heap.size w1 n' um ur us ug uw):=hown
  have HOL:Hid (Own (W0.heap.size+2) w1 (.slice ta tk tc) l):=hol
  have HOK2:Hid (NdOk n'):=hok
  obtain ⟨im2,jm2,hvm,_⟩:=own_slice hown.ms
  obtain ⟨ir2,jr2,hvr,_⟩:=own_slice hown.rs
  obtain ⟨is2,js2,hvs,_⟩:=own_slice hown.sv
  obtain ⟨ig2,jg2,hvg,_⟩:=own_slice hown.gw
  obtain ⟨ih2,jh2,hvh,_⟩:=own_slice hown.wh
  subst hvm hvr hvs hvg hvh
  clear hown hok hne hT hn' hbx hol
  obtain ⟨n2,c2,ms2,rs2,sv2,gw2,⟨qx,qy,qz,qh,qq⟩,wh2⟩:=n'
  obtain ⟨W5,hW5⟩:∃ W5,W5=w1.alloc (.cells #[.string n2,.string c2,.slice im2 ms2.length jm2,.slice ir2 rs2.length jr2,.slice is2 sv2.length js2,.slice ig2 gw2.length jg2,.int .i64 qx,.int .i64 qy,.int .i64 qz,.int .i64 qh,.int .i64 qq,.slice ih2 wh2.length jh2] 30):=⟨_,rfl⟩
  have hb5:Below w1.heap.size w1 W5:=by rw [hW5];exact (Below.refl _ _).alloc (Nat.le_refl _) _
  have hg5:W5.heap[w1.heap.size]?=some (.cells #[.string n2,.string c2,.slice im2 ms2.length jm2,.slice ir2 rs2.length jr2,.slice is2 sv2.length js2,.slice ig2 gw2.length jg2,.int .i64 qx,.int .i64 qy,.int .i64 qz,.int .i64 qh,.int .i64 qq,.slice ih2 wh2.length jh2] 30 (0,0)):=by rw [hW5];exact heap_alloc_new w1 _
  have hz5:W5.heap[w.heap.size+1]?=some (.cells #[.string ⟨#[]⟩,.string ⟨#[]⟩,.slice none 0 0,.slice none 0 0,.slice none 0 0,.slice none 0 0,.int .i64 0,.int .i64 0,.int .i64 0,.int .i64 0,.int .i64 0,.slice none 0 0] 30 (0,0)):=(hb5.block _ (by omega)).trans HZ1.out
  have hy5:W5.heap[w.heap.size+2]?=some (.cells #[.string ⟨#[]⟩,.bool false,.slice none 0 0,.slice none 0 0,.slice none 0 0,.slice none 0 0] 44 (0,0)):=(hb5.block _ (by omega)).trans HY1.out
  have ht5:W5.heap[w.heap.size+3]?=some (.cells #[.string nm,.bool false,.slice ta tk tc,.slice none 0 0,.slice none 0 0,.slice none 0 0] 44 (0,0)):=(hb5.block _ (by omega)).trans HT1.out
  have hs5:w1.heap.size < W5.heap.size:=by rw [hW5];simp
  have HB5:Hid (Below w.heap.size w W5):=HB1.out.trans (hb5.mono HB1.out.size)
  have HZ5:Hid (W5.heap[w.heap.size+1]?=some (.cells #[.string ⟨#[]⟩,.string ⟨#[]⟩,.slice none 0 0,.slice none 0 0,.slice none 0 0,.slice none 0 0,.int .i64 0,.int .i64 0,.int .i64 0,.int .i64 0,.int .i64 0,.slice none 0 0] 30 (0,0))):=hz5
  have HY5:Hid (W5.heap[w.heap.size+1+1]?=some (.cells #[.string ⟨#[]⟩,.bool false,.slice none 0 0,.slice none 0 0,.slice none 0 0,.slice none 0 0] 44 (0,0))):=hy5
  have HB15:Hid (Below w1.heap.size w1 W5):=hb5
  obtain ⟨p0,p1,p2,p3,p4,p5,p6,p7,p8,p9,p10,p11⟩:=cells12 hg5
  obtain ⟨q0,q1,q2,q3,q4,q5,q6,q7,q8,q9,q10,q11⟩:=cells12 hz5
  obtain ⟨qz0,qz1,qz2,qz3,qz4,qz5,qz6,qz7,qz8,qz9,qz10,qz11⟩:=frz12 hz5
  obtain ⟨r0,r1,r2,r3,r4,r5⟩:=cells6 hy5
  obtain ⟨rz0,rz1,rz2,rz3,rz4,rz5⟩:=frz6 hy5
  obtain ⟨t0,t1,t2,t3,t4,t5⟩:=cells6 ht5
  clear hb5 hg5 hz5 hy5 ht5
  have ne1:w.heap.size+1≠w1.heap.size:=by omega
  have ne2:w.heap.size+2≠w1.heap.size:=by omega
  have ne3:w.heap.size+1≠w.heap.size+3:=by omega
  have ne4:w.heap.size+2≠w.heap.size+3:=by omega
  go_upto_region 3 with fail
  rw [← hW5]
  clear hW5
  go_region_held3 (fun w'=>w'.cell? ⟨w1.heap.size,0,none⟩=some (.string n2)∧w'.cell? ⟨w1.heap.size,1,none⟩=some (.string c2)∧w'.cell? ⟨w1.heap.size,2,none⟩=some (.slice im2 ms2.length jm2)∧w'.cell? ⟨w1.heap.size,3,none⟩=some (.slice ir2 rs2.length jr2)∧w'.cell? ⟨w1.heap.size,4,none⟩=some (.slice is2 sv2.length js2)∧w'.cell? ⟨w1.heap.size,5,none⟩=some (.slice ig2 gw2.length jg2)∧w'.cell? ⟨w1.heap.size,6,none⟩=some (.int .i64 qx)∧w'.cell? ⟨w1.heap.size,7,none⟩=some (.int .i64 qy)∧w'.cell? ⟨w1.heap.size,8,none⟩=some (.int .i64 qz)∧w'.cell? ⟨w1.heap.size,9,none⟩=some (.int .i64 qh)∧w'.cell? ⟨w1.heap.size,10,none⟩=some (.int .i64 qq)∧w'.cell? ⟨w1.heap.size,11,none⟩=some (.slice ih2 wh2.length jh2)∧w'.cell? ⟨w.heap.size+3,0,none⟩=some (.string nm)∧w'.cell? ⟨w.heap.size+3,1,none⟩=some (.bool false)∧w'.cell? ⟨w.heap.size+3,2,none⟩=some (.slice ta tk tc)∧w'.cell? ⟨w.heap.size+3,3,none⟩=some (.slice none 0 0)∧w'.cell? ⟨w.heap.size+3,4,none⟩=some (.slice none 0 0)∧w'.cell? ⟨w.heap.size+3,5,none⟩=some (.slice none 0 0)) (simp only [World.cell?_setCell_far,World.cell?_drew,ne_eq,ne1,ne2,ne3,ne4,not_false_eq_true,p0,p1,p2,p3,p4,p5,p6,p7,p8,p9,p10,p11,t0,t1,t2,t3,t4,t5,and_self]) (fail)
  all_goals go_wp2_with fail
  all_goals
   clear q0 qz0 q1 qz1 q2 qz2 q3 qz3 q4 qz4 q5 qz5 q6 qz6 q7 qz7 q8 qz8 q9 qz9 q10 qz10 q11 qz11 r0 rz0 r1 rz1 r2 rz2 r3 rz3 r4 rz4 r5 rz5 p0 p1 p2 p3 p4 p5 p6 p7 p8 p9 p10 p11 t0 t1 t2 t3 t4 t5
   first
   | (obtain ⟨WF,hWG⟩:∃ WF,WF=World.drew ((((((((((((((((((W5.setCell ⟨w.heap.size+1,0,none⟩ (.string n2)).setCell ⟨w.heap.size+1,1,none⟩ (.string c2)).setCell ⟨w.heap.size+1,2,none⟩ (.slice im2 ms2.length jm2)).setCell ⟨w.heap.size+1,3,none⟩ (.slice ir2 rs2.length jr2)).setCell ⟨w.heap.size+1,4,none⟩ (.slice is2 sv2.length js2)).setCell ⟨w.heap.size+1,5,none⟩ (.slice ig2 gw2.length jg2)).setCell ⟨w.heap.size+1,6,none⟩ (.int .i64 qx)).setCell ⟨w.heap.size+1,7,none⟩ (.int .i64 qy)).setCell ⟨w.heap.size+1,8,none⟩ (.int .i64 qz)).setCell ⟨w.heap.size+1,9,none⟩ (.int .i64 qh)).setCell ⟨w.heap.size+1,10,none⟩ (.int .i64 qq)).setCell ⟨w.heap.size+1,11,none⟩ (.slice ih2 wh2.length jh2)).setCell ⟨w.heap.size+1+1,0,none⟩ (.string nm)).setCell ⟨w.heap.size+1+1,1,none⟩ (.bool false)).setCell ⟨w.heap.size+1+1,2,none⟩ (.slice ta tk tc)).setCell ⟨w.heap.size+1+1,3,none⟩ (.slice none 0 0)).setCell ⟨w.heap.size+1+1,4,none⟩ (.slice none 0 0)).setCell ⟨w.heap.size+1+1,5,none⟩ (.slice none 0 0)):=⟨_,rfl⟩
      rw [← hWG]
      have hWF:WF=World.drew (setAll (w.heap.size+1+1) [.string nm,.bool false,.slice ta tk tc,.slice none 0 0,.slice none 0 0,.slice none 0 0] 0 (setAll (w.heap.size+1) [.string n2,.string c2,.slice im2 ms2.length jm2,.slice ir2 rs2.length jr2,.slice is2 sv2.length js2,.slice ig2 gw2.length jg2,.int .i64 qx,.int .i64 qy,.int .i64 qz,.int .i64 qh,.int .i64 qq,.slice ih2 wh2.length jh2] 0 W5)):=by rw [hWG];simp only [setAll,Nat.zero_add,Nat.reduceAdd]
      clear hWG
      have hz:WF.heap[w.heap.size+1]?=some (.cells #[.string n2,.string c2,.slice im2 ms2.length jm2,.slice ir2 rs2.length jr2,.slice is2 sv2.length js2,.slice ig2 gw2.length jg2,.int .i64 qx,.int .i64 qy,.int .i64 qz,.int .i64 qh,.int .i64 qq,.slice ih2 wh2.length jh2] 30 (0,0)):=by rw [hWF];rw [drew_heap,setAll_other (by omega)];exact (setAll12 HZ5.out _ _ _ _ _ _ _ _ _ _ _ _)
      have hy:WF.heap[w.heap.size+1+1]?=some (.cells #[.string nm,.bool false,.slice ta tk tc,.slice none 0 0,.slice none 0 0,.slice none 0 0] 44 (0,0)):=by rw [hWF];rw [drew_heap];exact setAll6 ((setAll_other (by omega) _ _ _).trans HY5.out) _ _ _ _ _ _
      have HB6:Hid (Below w.heap.size w WF):=by rw [hWF];exact drew_below (setAll_below (by omega) _ _ (setAll_below (by omega) _ _ HB5.out))
      have HOW:Hid (∀ {base n k:Nat} {T:TypeId} {v:Value} {xs:List Value},w.heap.size+1+1 < base→w1.ownsRow base T k v n xs→WF.ownsRow base T k v n xs):=fun hbs h=>by rw [hWF];exact drew_owns (setAll_owns (by omega) _ _ (setAll_owns (by omega) _ _ (owns_below h HB15.out)))
      clear hWF)
   | (obtain ⟨WF,hWG⟩:∃ WF,WF=World.drew ((((((((((((((((((W5.setCell ⟨w.heap.size+1+1,0,none⟩ (.string nm)).setCell ⟨w.heap.size+1+1,1,none⟩ (.bool false)).setCell ⟨w.heap.size+1+1,2,none⟩ (.slice ta tk tc)).setCell ⟨w.heap.size+1+1,3,none⟩ (.slice none 0 0)).setCell ⟨w.heap.size+1+1,4,none⟩ (.slice none 0 0)).setCell ⟨w.heap.size+1+1,5,none⟩ (.slice none 0 0)).setCell ⟨w.heap.size+1,0,none⟩ (.string n2)).setCell ⟨w.heap.size+1,1,none⟩ (.string c2)).setCell ⟨w.heap.size+1,2,none⟩ (.slice im2 ms2.length jm2)).setCell ⟨w.heap.size+1,3,none⟩ (.slice ir2 rs2.length jr2)).setCell ⟨w.heap.size+1,4,none⟩ (.slice is2 sv2.length js2)).setCell ⟨w.heap.size+1,5,none⟩ (.slice ig2 gw2.length jg2)).setCell ⟨w.heap.size+1,6,none⟩ (.int .i64 qx)).setCell ⟨w.heap.size+1,7,none⟩ (.int .i64 qy)).setCell ⟨w.heap.size+1,8,none⟩ (.int .i64 qz)).setCell ⟨w.heap.size+1,9,none⟩ (.int .i64 qh)).setCell ⟨w.heap.size+1,10,none⟩ (.int .i64 qq)).setCell ⟨w.heap.size+1,11,none⟩ (.slice ih2 wh2.length jh2)):=⟨_,rfl⟩
      rw [← hWG]
      have hWF:WF=World.drew (setAll (w.heap.size+1) [.string n2,.string c2,.slice im2 ms2.length jm2,.slice ir2 rs2.length jr2,.slice is2 sv2.length js2,.slice ig2 gw2.length jg2,.int .i64 qx,.int .i64 qy,.int .i64 qz,.int .i64 qh,.int .i64 qq,.slice ih2 wh2.length jh2] 0 (setAll (w.heap.size+1+1) [.string nm,.bool false,.slice ta tk tc,.slice none 0 0,.slice none 0 0,.slice none 0 0] 0 W5)):=by rw [hWG];simp only [setAll,Nat.zero_add,Nat.reduceAdd]
      clear hWG
      have hz:WF.heap[w.heap.size+1]?=some (.cells #[.string n2,.string c2,.slice im2 ms2.length jm2,.slice ir2 rs2.length jr2,.slice is2 sv2.length js2,.slice ig2 gw2.length jg2,.int .i64 qx,.int .i64 qy,.int .i64 qz,.int .i64 qh,.int .i64 qq,.slice ih2 wh2.length jh2] 30 (0,0)):=by rw [hWF];rw [drew_heap];exact setAll12 ((setAll_other (by omega) _ _ _).trans HZ5.out) _ _ _ _ _ _ _ _ _ _ _ _
      have hy:WF.heap[w.heap.size+1+1]?=some (.cells #[.string nm,.bool false,.slice ta tk tc,.slice none 0 0,.slice none 0 0,.slice none 0 0] 44 (0,0)):=by rw [hWF];rw [drew_heap,setAll_other (by omega)];exact (setAll6 HY5.out _ _ _ _ _ _)
      have HB6:Hid (Below w.heap.size w WF):=by rw [hWF];exact drew_below (setAll_below (by omega) _ _ (setAll_below (by omega) _ _ HB5.out))
      have HOW:Hid (∀ {base n k:Nat} {T:TypeId} {v:Value} {xs:List Value},w.heap.size+1+1 < base→w1.ownsRow base T k v n xs→WF.ownsRow base T k v n xs):=fun hbs h=>by rw [hWF];exact drew_owns (setAll_owns (by omega) _ _ (setAll_owns (by omega) _ _ (owns_below h HB15.out)))
      clear hWF)
   obtain ⟨q0,q1,q2,q3,q4,q5,q6,q7,q8,q9,q10,q11⟩:=cells12 hz
   obtain ⟨r0,r1,r2,r3,r4,r5⟩:=cells6 hy
   refine bodyPost_ret (v:=.tuple #[.agg #[.string n2,.string c2,.slice im2 ms2.length jm2,.slice ir2 rs2.length jr2,.slice is2 sv2.length js2,.slice ig2 gw2.length jg2,.int .i64 qx,.int .i64 qy,.int .i64 qz,.int .i64 qh,.int .i64 qq,.slice ih2 wh2.length jh2],.agg #[.string nm,.bool false,.slice ta tk tc,.slice none 0 0,.slice none 0 0,.slice none 0 0],.int .i64 0]) ?_ rfl ?_
   ·simp [results,Tryz.results19,go_sem,q0,q1,q2,q3,q4,q5,q6,q7,q8,q9,q10,q11,r0,r1,r2,r3,r4,r5]
   ·unfold TellSays
    refine ⟨HB6.out,.inr ⟨HNE.out,_,_,_,_,_,_,ta,tk,tc,l,(by rw [HNN.out]),HN1.out,HTI.out,⟨?_,?_,?_,?_,?_⟩,HOK2.out,?_⟩⟩
    ·exact Own.mono (HOW.out (by omega) HOWN.out.ms) (by omega)
    ·exact ROwn.base (HOW.out (by omega) HOWN.out.rs) (by omega)
    ·exact Sv.Own.mono (HOW.out (by omega) HOWN.out.sv) (by omega)
    ·exact Gw.Own.mono (HOW.out (by omega) HOWN.out.gw) (by omega)
    ·exact Wh.Own.mono (HOW.out (by omega) HOWN.out.wh) (by omega)
    ·exact Own.mono (HOW.out (by omega) HOL.out) (by omega)
def bgA:Nd:=nwN ⟨#[97]⟩ ⟨#[99]⟩ 1 false
def bgB:Nd:=nwN ⟨#[98]⟩ ⟨#[99]⟩ 2 true
def bgP:Pk:=⟨⟨#[98]⟩,true,bgB.ms,bgB.sv,bgB.gw,bgB.wh⟩
def bg3:Nd:=hrN bgA bgP
def bg4:Nd:=wsN bg3 ⟨#[98]⟩ 2
def bgM:Mem:=⟨⟨#[98]⟩,2,1,2,true⟩
theorem bg_e1:nwE ⟨#[97]⟩ ⟨#[99]⟩ 1=0:=by kernel_rfl
theorem bg_e2:nwE ⟨#[98]⟩ ⟨#[99]⟩ 2=0:=by kernel_rfl
theorem bg_eA:bgA.e=0:=by kernel_rfl
theorem bg_eB:bgB.e=0:=by kernel_rfl
theorem bg_e3:hrE bgA bgP=0:=by kernel_rfl
theorem bg_n3:bg3.e=0:=by kernel_rfl
theorem bg_e4:wsE bg3 ⟨#[98]⟩ 1 2=0:=by kernel_rfl
theorem bg_n4:bg4.e=0:=by kernel_rfl
theorem bg_m4:bg4.ms.length=2:=by kernel_rfl
theorem bg_r4:bg4.rs=[⟨bgM,0⟩]:=by kernel_rfl
theorem bg_tell {l:List Mem} {rest:List Rum} (h:TellIs bg4 l rest):l=[bgM]:=by
 obtain ⟨told,ht,hp,_⟩:=h
 rw [bg_r4] at ht
 rcases ht with ⟨h,_⟩ | ⟨_,ord,ho,rfl,_⟩
 ·cases h
 ·have h1:ord=[0]:=by
   have:=ho.perm
   rw [show List.range [(⟨bgM,0⟩:Rum)].length=[0] from rfl] at this
   exact List.perm_singleton.1 this
  subst h1
  have h2:toldL [(⟨bgM,0⟩:Rum)] [0] (min 5 [(⟨bgM,0⟩:Rum)].length)=[bgM]:=by kernel_rfl
  rw [h2] at hp
  exact List.perm_singleton.1 hp
def OwnNd (B:Nat) (w:World) (n:Nd) (A:Array Value):Prop:=∃ vm vr vs vg vw,A=ndA n vm vr vs vg vw∧NdOwn B w n vm vr vs vg vw∧NdOk n
theorem OwnNd.is {B:Nat} {w:World} {n:Nd} {A:Array Value} (h:OwnNd B w n A):IsNd w n A:=by
 obtain ⟨a,b,c,d,e,h1,h2,h3⟩:=h
 exact ⟨a,b,c,d,e,h1,h2.is h3⟩
theorem OwnNd.below {B:Nat} {w w':World} {n:Nd} {A:Array Value} (h:OwnNd B w n A) (hb:Below w.heap.size w w'):OwnNd B w' n A:=by
 obtain ⟨a,b,c,d,e,h1,h2,h3⟩:=h
 exact ⟨a,b,c,d,e,h1,h2.below hb,h3⟩
theorem OwnNd.mono {B C:Nat} {w:World} {n:Nd} {A:Array Value} (h:OwnNd B w n A) (hc:C≤B):OwnNd C w n A:=by
 obtain ⟨a,b,c,d,e,h1,h2,h3⟩:=h
 exact ⟨a,b,c,d,e,h1,⟨h2.ms.mono hc,h2.rs.base hc,h2.sv.mono hc,h2.gw.mono hc,h2.wh.mono hc⟩,h3⟩
theorem OwnNd.setCell {B:Nat} {w:World} {n:Nd} {A:Array Value} (h:OwnNd B w n A) {b:Nat} (hb:b < B) (j:Nat) (x:Value):OwnNd B (w.setCell ⟨b,j,none⟩ x) n A:=by
 obtain ⟨v1,v2,v3,v4,v5,h1,h2,h3⟩:=h
 exact ⟨v1,v2,v3,v4,v5,h1,⟨ownsRow_setCell_below h2.ms hb _,ownsRow_setCell_below h2.rs hb _,ownsRow_setCell_below h2.sv hb _,ownsRow_setCell_below h2.gw hb _,ownsRow_setCell_below h2.wh hb _⟩,h3⟩
theorem OpSays.ok {ne er:Int} {n':Nd} {w w':World} {e:Ending} (h:OpSays ne er n' w e w') (h1:ne=0) (h2:er=0):∃ A,e=.returned (.tuple #[.agg A,.int .i64 0])∧OwnNd w.heap.size w' n' A∧Below w.heap.size w w':=by
 obtain ⟨hb,⟨h3,_⟩ | ⟨_,h3,_⟩ | ⟨_,_,um,ur,us,ug,uw,rfl,ho,hk⟩⟩:=h
 ·exact absurd h1 h3
 ·exact absurd h2 h3
 ·exact ⟨_,rfl,⟨_,_,_,_,_,rfl,ho,hk⟩,hb⟩
def pkV (t0:ByteArray) (b1:Bool) (p2:Option Addr) (k2 c2:Nat) (p3:Option Addr) (k3 c3:Nat) (p4:Option Addr) (k4 c4:Nat) (p5:Option Addr) (k5 c5:Nat):Array Value:=
 #[.string t0,.bool b1,.slice p2 k2 c2,.slice p3 k3 c3,.slice p4 k4 c4,.slice p5 k5 c5]
def IsPkR (w:World) (p:Pk) (A:Array Value):Prop:=∃ vm vs vg vw,A=#[.string p.frm,.bool p.whole,vm,vs,vg,vw]∧PkIs w p vm vs vg vw
theorem IsPkR.below {w w':World} {p:Pk} {A:Array Value} (h:IsPkR w p A) (hb:Below w.heap.size w w'):IsPkR w' p A:=by
 obtain ⟨a,b,c,d,h1,h2⟩:=h
 exact ⟨a,b,c,d,h1,h2.below hb⟩
theorem IsPkR.is {w:World} {p:Pk} {A:Array Value} (h:IsPkR w p A):IsPk w p A:=by
 obtain ⟨a,b,c,d,h1,h2⟩:=h
 exact ⟨a,b,c,d,h1,h2.ms,h2.sv,h2.gw,h2.wh⟩
theorem IsPk.letters {w:World} {p:Pk} {A:Array Value} (h:IsPk w p A):∃ t0 b1 p2 k2 c2 p3 k3 c3 p4 k4 c4 p5 k5 c5,A=pkV t0 b1 p2 k2 c2 p3 k3 c3 p4 k4 c4 p5 k5 c5:=by
 obtain ⟨vm,vs,vg,vw,rfl,⟨pm,cm,rfl,_⟩,⟨ps,cs,rfl,_⟩,⟨pg,cg,rfl,_⟩,⟨pw,cw,rfl,_⟩⟩:=h
 exact ⟨_,_,_,_,_,_,_,_,_,_,_,_,_,_,rfl⟩
theorem own_roomy {base n k:Nat} {T:TypeId} {w:World} {v:Value} {xs:List Value} (h:w.ownsRow base T k v n xs):Roomy v:=by
 obtain ⟨a,c,rfl,hn⟩:=own_slice h
 exact hn
def Nd.pk (n:Nd):Pk:=⟨n.name,true,n.ms,n.sv,n.gw,n.wh⟩
theorem WholeSays.ok {n:Nd} {ne:Int} {w w':World} {e:Ending} (h:WholeSays n ne w e w') (h1:ne=0) (hk:NdOk n):∃ A,e=.returned (.tuple #[.agg A,.int .i64 0])∧IsPkR w' n.pk A∧Below w.heap.size w w':=by
 obtain ⟨hb,⟨h3,_⟩ | ⟨_,um,us,ug,uw,rfl,o1,o2,o3,o4⟩⟩:=h
 ·exact absurd h1 h3
 ·exact ⟨_,rfl,⟨_,_,_,_,rfl,o1.sl (ns_get hk.ms),o2.sl (Sv.ns_get hk.sv),o3.sl (Gw.ns_get hk.gw),o4.sl (Wh.ns_get hk.wh),hk.name,own_roomy o1⟩,hb⟩
theorem IsNd.ok {w:World} {n:Nd} {A:Array Value} (h:IsNd w n A):NdOk n:=by
 obtain ⟨_,_,_,_,_,_,h⟩:=h
 exact h.ok
theorem whole_is {w:World} {n:Nd} {A:Array Value} (h:IsNd w n A):Calls Tryz.prog 20 #[.agg A] w fun e w'=>WholeSays n n.e w e w':=by
 obtain ⟨_,_,_,_,_,rfl,h⟩:=h
 exact Whole_any n _ _ _ _ _ w h
theorem hear_is {w:World} {n:Nd} {p:Pk} {A P:Array Value} (h:IsNd w n A) (hp:IsPkR w p P) (hlen:p.whole=true∨p.sv.length+p.gw.length+p.wh.length≤4611686018427387904):Calls Tryz.prog 24 #[.agg A,.agg P] w fun e w'=>OpSays n.e (hrE n p) (hrN n p) w e w':=by
 obtain ⟨_,_,_,_,_,rfl,h⟩:=h
 obtain ⟨_,_,_,_,rfl,hp⟩:=hp
 exact Hear_any n p _ _ _ _ _ _ _ _ _ w h hp hlen
theorem doubt_is {w:World} {n:Nd} {A:Array Value} (h:IsNd w n A) (t:ByteArray) (ht:t.size≤maxLen):Calls Tryz.prog 26 #[.agg A,.string t] w fun e w'=>OpSays n.e (wsE n t 1 2) (wsN n t 2) w e w':=by
 obtain ⟨_,_,_,_,_,rfl,h⟩:=h
 exact Doubt_any n t _ _ _ _ _ w h ht
theorem tell_is {w:World} {n:Nd} {A:Array Value} (h:IsNd w n A):Calls Tryz.prog 19 #[.agg A] w fun e w'=>TellSays n n.e w e w':=by
 obtain ⟨_,_,_,_,_,rfl,h⟩:=h
 exact Tell_any n _ _ _ _ _ w h
theorem TellSays.ok {n:Nd} {ne:Int} {w w':World} {e:Ending} (h:TellSays n ne w e w') (h1:ne=0):∃ A a k c l rest,e=.returned (.tuple #[.agg A,.agg #[.string n.name,.bool false,.slice a k c,.slice none 0 0,.slice none 0 0,.slice none 0 0],.int .i64 0])∧TellIs n l rest∧OwnNd w.heap.size w' { n with rs:=rest } A∧Own w.heap.size w' (.slice a k c) l∧Below w.heap.size w w':=by
 obtain ⟨hb,⟨h3,_⟩ | ⟨_,n',um,ur,us,ug,uw,a,k,c,l,rfl,hn,ht,ho,hk,hl⟩⟩:=h
 ·exact absurd h1 h3
 ·refine ⟨_,a,k,c,l,n'.rs,rfl,ht,?_,hl,hb⟩
  rw [← hn]
  exact ⟨_,_,_,_,_,rfl,ho,hk⟩
end Go.Proofs.YtikgjgmgbfjcgaaGreat
