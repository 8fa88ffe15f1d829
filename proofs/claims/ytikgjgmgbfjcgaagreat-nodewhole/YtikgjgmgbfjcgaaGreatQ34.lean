import Derived.Test.YtikgjgmgbfjcgaaGreatQ32
import Derived.Test.YtikgjgmgbfjcgaaGreatQ31
import Derived.Test.YtikgjgmgbfjcgaaGreatQ33
import Derived.Test.YtikgjgmgbfjcgaaGreatQ22
namespace Go.Proofs.YtikgjgmgbfjcgaaGreat
open Go.RowKit
def TakeIs (rs:List Rum) (times:Int) (told:List Mem) (rest:List Rum):Prop:=
 (rs=[]∧told=[]∧rest=[])∨(0 < rs.length∧∃ ord,IsOrd rs ord∧told=toldL rs ord (min 5 rs.length)∧rest=(bump rs ord (min 5 rs.length)).filter (keepR times))
theorem takeIs_len {rs:List Rum} {times:Int} {told:List Mem} {rest:List Rum} (h:TakeIs rs times told rest):told.length≤5:=by
 rcases h with ⟨_,rfl,_⟩ | ⟨_,ord,_,rfl,_⟩
 ·simp
 ·unfold toldL;rw [List.length_map,List.length_take];omega
theorem toldL_mem {rs:List Rum} {ord:List Nat} {k:Nat} (h:IsOrd rs ord) {m:Mem} (hm:m∈toldL rs ord k):∃ r∈rs,r.m=m:=by
 unfold toldL at hm
 obtain ⟨i,hi,rfl⟩:=List.mem_map.1 hm
 have hb:=h.bd i (List.mem_of_mem_take hi)
 refine ⟨rs[i],List.getElem_mem _,?_⟩
 simp [List.getD,List.getElem?_eq_getElem hb]
theorem bump_mem (rs:List Rum):∀ (is:List Nat) (r:Rum),r∈is.foldl bumpOne rs→(∃ x∈rs,x.m=r.m)∨r.m=dm
 | [],r,h=>.inl ⟨r,h,rfl⟩
 | i :: is,r,h=>by
   rw [List.foldl_cons] at h
   rcases bump_mem (bumpOne rs i) is r h with ⟨x,hx,e⟩ | e
   ·unfold bumpOne at hx
    rcases List.mem_or_eq_of_mem_set hx with hx | rfl
    ·exact .inl ⟨x,hx,e⟩
    ·by_cases hi:i < rs.length
     ·exact .inl ⟨rs[i],List.getElem_mem _,by rw [← e];simp [List.getD,List.getElem?_eq_getElem hi]⟩
     ·exact .inr (by rw [← e];simp [List.getD,List.getElem?_eq_none (Nat.le_of_not_lt hi),dr])
   ·exact .inr e
theorem takeIs_ok {rs:List Rum} {times:Int} {told:List Mem} {rest:List Rum} (h:TakeIs rs times told rest) (hr:∀ r∈rs,r.m.name.size≤maxLen):(∀ m∈told,m.name.size≤maxLen)∧∀ r∈rest,r.m.name.size≤maxLen:=by
 rcases h with ⟨_,rfl,rfl⟩ | ⟨_,ord,ho,rfl,rfl⟩
 ·exact ⟨fun m hm=>by simp at hm,fun m hm=>by simp at hm⟩
 ·refine ⟨fun m hm=>?_,fun r hrr=>?_⟩
  ·obtain ⟨r,h1,rfl⟩:=toldL_mem ho hm;exact hr r h1
  ·have h1:=(List.mem_filter.1 hrr).1
   rcases bump_mem rs _ r h1 with ⟨x,hx,e⟩ | e
   ·rw [← e];exact hr x hx
   ·rw [e];simp [dm]
theorem take5_any (rs:List Rum) (v:Value) (times:Int) (w:World) (hv:RSl w v rs) (h0:chkR rs=0) (ht:within times 1 100=true) :
 Calls Tryz.prog 112 #[v,.int .i64 5,.int .i64 times] w fun e w'=>∃ a k c a2 k2 c2 told rest,e=.returned (.tuple #[.slice a k c,.slice a2 k2 c2,.int .i64 0])∧Hid (TakeIs rs times told rest)∧Own w.heap.size w' (.slice a k c) told∧ROwn w.heap.size w' (.slice a2 k2 c2) rest∧Below w.heap.size w w':=by
 by_cases hp:0 < rs.length
 ·have hT:TurnsSays rs v:=turns_some rs v (rs.length - 1) (by omega) (by have:=(chkR_e0 h0).1;omega)
  refine (take_some rs v 5 times w hv h0 rfl ht hp hT).mono ?_
  rintro e w' ⟨v1,v2,ord,rfl,ho,h1,h2,hb⟩
  obtain ⟨a,c,rfl,_⟩:=own_slice h1
  obtain ⟨a2,c2,rfl,_⟩:=own_slice h2
  exact ⟨a,_,c,a2,_,c2,_,_,rfl,.inr ⟨hp,ord,ho,rfl,rfl⟩,h1,h2,hb⟩
 ·have he:rs=[]:=List.eq_nil_of_length_eq_zero (by omega)
  subst he
  refine (take_none v 5 times w hv h0 rfl ht).mono ?_
  rintro e w' ⟨v1,v2,rfl,h1,h2,hb⟩
  obtain ⟨a,c,rfl,_⟩:=own_slice h1
  obtain ⟨a2,c2,rfl,_⟩:=own_slice h2
  exact ⟨a,_,c,a2,_,c2,_,_,rfl,.inl ⟨rfl,rfl,rfl⟩,h1,h2,hb⟩
def tmN (n:Nd):Int:=max (3 * (Lib.bitLen (liveL n.ms).length:Nat)) 1
def TellIs (n:Nd) (l:List Mem) (rest:List Rum):Prop:=∃ told,TakeIs n.rs (tmN n) told rest∧l.Perm told∧SortM l
theorem live_len {ms:List Mem} (h:ms.length≤20):(liveL ms).length≤20:=by
 unfold liveL
 rw [List.length_map]
 exact Nat.le_trans (List.length_filter_le _ _) h
set_option maxHeartbeats 12800000 in
set_option maxRecDepth 100000 in
theorem Wk.pk {L b c:Nat} {W:World} {n:Nd} (h:Wk L W b n) (hc:∃ cs,W.heap[c]?=some (.cells cs 44 (0,0))) (i:Nat) (x:Value):Wk L (W.setCell ⟨c,i,none⟩ x) b n∧∃ cs,(W.setCell ⟨c,i,none⟩ x).heap[c]?=some (.cells cs 44 (0,0)):=by
 obtain ⟨cs,hc⟩:=hc
 obtain ⟨vm,vr,vs,vg,vw,h1,h2,h3,h4⟩:=h
 have hne:b≠c:=by
  intro e
  rw [e,hc] at h1
  injection h1 with h1
  injection h1 with _ h1
  exact absurd h1 (by decide)
 exact ⟨⟨vm,vr,vs,vg,vw,(Below.heap_setCell W _ x b hne).trans h1,⟨ownsRow_setCell_other h2.ms (own_block_ne h2.ms hc (by decide)) _,ownsRow_setCell_other h2.rs (own_block_ne h2.rs hc (by decide)) _,ownsRow_setCell_other h2.sv (own_block_ne h2.sv hc (by decide)) _,ownsRow_setCell_other h2.gw (own_block_ne h2.gw hc (by decide)) _,ownsRow_setCell_other h2.wh (own_block_ne h2.wh hc (by decide)) _⟩,h3,h4⟩,_,Joins.block_setCell (i:=i) hc x⟩
theorem wtell_any (L b:Nat) (n:Nd) (w:World) (h:Wk L w b n) (hL:L≤b) (hsp:Sp n) :
 Calls Tryz.prog 56 #[.pointer (some ⟨b,0,none⟩)] w fun e w'=>∃ a k c l rest,e=.returned (.agg #[.string n.name,.bool false,.slice a k c,.slice none 0 0,.slice none 0 0,.slice none 0 0])∧Hid (TellIs n l rest)∧Own (w.heap.size+1) w' (.slice a k c) l∧Sh (fun k=>k=b) w w'∧Wk L w' b { n with rs:=rest }:=by
 have HWK:Hid (Wk L w b n):=h
 have hbl:=h.lt
 have HSP:Hid (Sp n):=hsp
 obtain ⟨vm,vr,vs,vg,vw,h1,h2,h3,h4⟩:=h
 have HIS:Hid (NdIs w n vm vr vs vg vw):=h2.is h4
 obtain ⟨am,cm,hvm,_⟩:=own_slice h2.ms
 obtain ⟨ar,cr,hvr,_⟩:=own_slice h2.rs
 subst hvm hvr
 have hml:=(chk_zero hsp.ms).1
 have HLL:Hid ((liveL n.ms).length≤20):=live_len hml
 have HX:Hid (∀ W,Below w.heap.size w W→W.heap[b]?=some (.cells (ndA n (.slice am n.ms.length cm) (.slice ar n.rs.length cr) vs vg vw) 72 (0,0))):=fun W hW=>(hW.block _ hbl).trans h1
 have HOKR:Hid (∀ r∈n.rs,r.m.name.size≤maxLen):=h4.rs
 obtain ⟨W0,hW0⟩:∃ W0,W0=w.alloc (.cells #[.string ⟨#[]⟩,.bool false,.slice none 0 0,.slice none 0 0,.slice none 0 0,.slice none 0 0] 44):=⟨_,rfl⟩
 have hb0:Below w.heap.size w W0:=by rw [hW0];exact (Below.refl _ _).alloc (Nat.le_refl _) _
 have hz0:W0.heap[w.heap.size]?=some (.cells #[.string ⟨#[]⟩,.bool false,.slice none 0 0,.slice none 0 0,.slice none 0 0,.slice none 0 0] 44 (0,0)):=by rw [hW0];exact heap_alloc_new w _
 have hs0:W0.heap.size=w.heap.size+1:=by rw [hW0];simp
 have y2:W0.cell? ⟨b,2,none⟩=some (.slice am n.ms.length cm):=cellsAt (HX.out W0 hb0) 2
 have HB0:Hid (Below w.heap.size w W0):=hb0
 have HZ0:Hid (W0.heap[w.heap.size]?=some (.cells #[.string ⟨#[]⟩,.bool false,.slice none 0 0,.slice none 0 0,.slice none 0 0,.slice none 0 0] 44 (0,0))):=hz0
 clear h1 h2 h3 h4 hsp
 go_enter Tryz.func56,Tryz.ntmps56
 go_upto_region 1 with fail
 rw [← hW0]
 clear hW0
 go_wp2_with fail
 refine (live_good n.ms _ W0 (HIS.out.ms.below HB0.out) HSP.out.ms).mono ?_
 rintro e w1 ⟨v1,rfl,ho1,hb1⟩
 obtain ⟨a1,c1,hv1,_⟩:=own_slice ho1.out
 subst hv1
 have HB1:Hid (Below W0.heap.size W0 w1):=hb1
 have HBW1:Hid (Below w.heap.size w w1):=HB0.out.trans (hb1.mono (by omega))
 clear ho1 hb1 y2 hb0 hz0
 have hw20:within ((liveL n.ms).length:Int) 0 20=true:=within_iff.2 ⟨by omega,by have:=HLL.out;omega⟩
 go_wp2_with fail
 refine (times_any _ w1 hw20).mono ?_
 rintro e w2 ⟨rfl,hw2⟩
 have hw3:=hw2.symm
 subst hw3
 have y3:w1.cell? ⟨b,3,none⟩=some (.slice ar n.rs.length cr):=cellsAt (HX.out w1 HBW1.out) 3
 go_wp2_with fail
 have htm:within (tmN n) 1 100=true:=by
  have hbl:∀ m,m < 21→Lib.bitLen m≤5:=by decide
  have h1:=hbl (liveL n.ms).length (by have:=HLL.out;omega)
  refine within_iff.2 ⟨?_,?_⟩<;>(unfold tmN;omega)
 refine (take5_any n.rs _ (tmN n) w1 (HIS.out.rs.below HBW1.out) HSP.out.rs htm).mono ?_
 rintro e w3 ⟨a3,k3,c3,a4,k4,c4,told,rest,rfl,HT,ho3,ho4,hb3⟩
 have HO3:Hid (Own w1.heap.size w3 (.slice a3 k3 c3) told):=ho3
 have HO4:Hid (ROwn w1.heap.size w3 (.slice a4 k4 c4) rest):=ho4
 have HB3:Hid (Below w1.heap.size w1 w3):=hb3
 have hs13:w1.heap.size≤w3.heap.size:=hb3.size
 clear ho3 ho4 hb3 y3
 go_wp2_with fail
 refine (sortM_any w1.heap.size told _ w3 HO3.out hs13 (by have:=takeIs_len HT.out;omega)).mono ?_
 rintro e w4 ⟨rfl,l,hp,hs,ho5,hb5,hsh5⟩
 have HO5:Hid (Own w1.heap.size w4 (.slice a3 k3 c3) l):=ho5
 have HTL:Hid (TellIs n l rest):=⟨told,HT.out,hp,hs⟩
 have HB5:Hid (Below w1.heap.size w1 w4):=HB3.out.trans hb5
 have HBW5:Hid (Below w.heap.size w w4):=HBW1.out.trans (HB5.out.mono HBW1.out.size)
 have HO6:Hid (ROwn w1.heap.size w4 (.slice a4 k4 c4) rest):=by
  rcases HO4.out.2 with hq | ⟨g,c,cur,e1,e2,e3,e4⟩
  ·exact ⟨HO4.out.1,.inl hq⟩
  ·refine ⟨HO4.out.1,.inr ⟨g,c,cur,e1,e2,(hsh5.block g (Array.getElem?_eq_some_iff.1 e3).1 (fun e=>?_)).trans e3,e4⟩⟩
   exact own_block_ne HO3.out e3 (by decide) e
 have hL2:L≤w.heap.size:=by omega
 have hs1:w.heap.size+1≤w1.heap.size:=by have:=HB1.out.size;omega
 have hz4:w4.heap[w.heap.size]?=_:=(HB5.out.block _ (by omega)).trans ((HB1.out.block _ (by omega)).trans HZ0.out)
 have HZ4:Hid (w4.heap[w.heap.size]?=some (.cells #[.string ⟨#[]⟩,.bool false,.slice none 0 0,.slice none 0 0,.slice none 0 0,.slice none 0 0] 44 (0,0))):=hz4
 have hx4:=HX.out w4 HBW5.out
 have x0:w4.cell? ⟨b,0,none⟩=some (.string n.name):=cellsAt hx4 0
 have x3:w4.cell? ⟨b,3,none⟩=_:=cellsAt hx4 3
 have xz3:w4.frozen? ⟨b,3,none⟩=false:=frozen_of hx4 3
 have hbs:b < w4.heap.size:=by have:=HBW5.out.size;omega
 have hne:b≠w.heap.size:=by omega
 have hne':w.heap.size≠b:=by omega
 have hlt4:w.heap.size < w4.heap.size:=by have:=HB5.out.size;omega
 obtain ⟨q0,q1,q2,q3,q4,q5⟩:=cells6 hz4
 obtain ⟨qz0,qz1,qz2,qz3,qz4,qz5⟩:=frz6 hz4
 clear hz4 hx4 ho5 hb5 hsh5 hp hs
 go_wp2_with fail
 refine bodyPost_ret (v:=.agg #[.string n.name,.bool false,.slice a3 k3 c3,.slice none 0 0,.slice none 0 0,.slice none 0 0]) ?_ rfl ?_
 ·simp [results,Tryz.results56,go_sem,q0,q1,q2,q3,q4,q5]
 ·have k0:=HWK.out.set_rs hL2 HBW5.out (v:=.slice a4 k4 c4) (l:=rest) (HO6.out.base (by omega)) (takeIs_ok HT.out HOKR.out).2
  have z0:∃ cs,(w4.setCell ⟨b,3,none⟩ (.slice a4 k4 c4)).heap[w.heap.size]?=some (.cells cs 44 (0,0)):=⟨_,(Below.heap_setCell w4 _ _ w.heap.size hne').trans HZ4.out⟩
  obtain ⟨k1,z1⟩:=k0.pk z0 0 (.string n.name)
  obtain ⟨k2,z2⟩:=k1.pk z1 1 (.bool false)
  obtain ⟨k3',z3⟩:=k2.pk z2 2 (.slice a3 k3 c3)
  obtain ⟨k4',z4⟩:=k3'.pk z3 3 (.slice none 0 0)
  obtain ⟨k5,z5⟩:=k4'.pk z4 4 (.slice none 0 0)
  obtain ⟨k6,z6⟩:=k5.pk z5 5 (.slice none 0 0)
  have hb6:Below w.heap.size (w4.setCell ⟨b,3,none⟩ (.slice a4 k4 c4)) _:=(((((((Below.refl w.heap.size (w4.setCell ⟨b,3,none⟩ (.slice a4 k4 c4))).setCell (p:=⟨w.heap.size,0,none⟩) (by simp) (.string n.name)).setCell (p:=⟨w.heap.size,1,none⟩) (by simp) (.bool false)).setCell (p:=⟨w.heap.size,2,none⟩) (by simp) (.slice a3 k3 c3)).setCell (p:=⟨w.heap.size,3,none⟩) (by simp) (.slice none 0 0)).setCell (p:=⟨w.heap.size,4,none⟩) (by simp) (.slice none 0 0)).setCell (p:=⟨w.heap.size,5,none⟩) (by simp) (.slice none 0 0))
  have s0:Sh (fun k=>k=b) w (w4.setCell ⟨b,3,none⟩ (.slice a4 k4 c4)):=Sh.setCell (S:=fun k=>k=b) (Sh.of HBW5.out) (b:=b) (i:=3) rfl _
  refine ⟨a3,k3,c3,l,rest,rfl,HTL,?_,⟨hb6.os.trans s0.os,hb6.tape.trans s0.tape,hb6.output.trans s0.output,Nat.le_trans s0.size hb6.size,fun i hi hn=>(hb6.block i hi).trans (s0.block i hi hn)⟩,k6⟩
  exact (ownsRow_setCell_below (ownsRow_setCell_below (ownsRow_setCell_below (ownsRow_setCell_below (ownsRow_setCell_below (ownsRow_setCell_below (ownsRow_setCell_below (HO5.out.mono hs1) (a:=⟨b,3,none⟩) (by simp only;omega) _) (a:=⟨w.heap.size,0,none⟩) (by simp only;omega) _) (a:=⟨w.heap.size,1,none⟩) (by simp only;omega) _) (a:=⟨w.heap.size,2,none⟩) (by simp only;omega) _) (a:=⟨w.heap.size,3,none⟩) (by simp only;omega) _) (a:=⟨w.heap.size,4,none⟩) (by simp only;omega) _) (a:=⟨w.heap.size,5,none⟩) (by simp only;omega) _)
set_option maxHeartbeats 3200000 in
theorem tellC_any (L b tb:Nat) (n:Nd) (w:World) (h:Wk L w b n) (hL:L≤b) (hsp:Sp n) (hc:w.heap[tb]?=some (.cells #[.string ⟨#[]⟩,.bool false,.slice none 0 0,.slice none 0 0,.slice none 0 0,.slice none 0 0] 44 (0,0))) :
 Calls Tryz.prog 55 #[.pointer (some ⟨b,0,none⟩),.pointer (some ⟨tb,0,none⟩)] w fun e w'=>e=.returned (.int .i64 0)∧Sh (fun k=>k=b∨k=tb) w w'∧∃ a k c l rest,Hid (TellIs n l rest)∧w'.heap[tb]?=some (.cells #[.string n.name,.bool false,.slice a k c,.slice none 0 0,.slice none 0 0,.slice none 0 0] 44 (0,0))∧Own (w.heap.size+1) w' (.slice a k c) l∧Wk L w' b { n with rs:=rest }:=by
 have HC:=wtell_any L b n w h hL hsp
 have htb:tb < w.heap.size:=(Array.getElem?_eq_some_iff.1 hc).1
 have hne:tb≠b:=by
  intro e
  obtain ⟨_,_,_,_,_,h1,_⟩:=h
  rw [← e,hc] at h1
  injection h1 with h1
  injection h1 with _ h1
  exact absurd h1 (by decide)
 have HCB:Hid (w.heap[tb]?=some (.cells #[.string ⟨#[]⟩,.bool false,.slice none 0 0,.slice none 0 0,.slice none 0 0,.slice none 0 0] 44 (0,0))):=hc
 clear h hsp hc
 go_enter Tryz.func55,Tryz.ntmps55
 go_wp2_with fail
 refine HC.mono ?_
 rintro e w1 ⟨a,k,c,l,rest,rfl,HT,ho,hs,hk⟩
 have hz1:w1.heap[tb]?=some (.cells #[.string ⟨#[]⟩,.bool false,.slice none 0 0,.slice none 0 0,.slice none 0 0,.slice none 0 0] 44 (0,0)):=(hs.block _ htb hne).trans HCB.out
 have HZ1:Hid (w1.heap[tb]?=some (.cells #[.string ⟨#[]⟩,.bool false,.slice none 0 0,.slice none 0 0,.slice none 0 0,.slice none 0 0] 44 (0,0))):=hz1
 have HO:Hid (Own (w.heap.size+1) w1 (.slice a k c) l):=ho
 have HSH:Hid (Sh (fun k=>k=b) w w1):=hs
 have HK:Hid (Wk L w1 b { n with rs:=rest }):=hk
 have hlt1:tb < w1.heap.size:=(Array.getElem?_eq_some_iff.1 hz1).1
 obtain ⟨q0,q1,q2,q3,q4,q5⟩:=cells6 hz1
 obtain ⟨qz0,qz1,qz2,qz3,qz4,qz5⟩:=frz6 hz1
 clear hz1 ho hs hk HC
 go_wp2_with fail
 go_ret
 have g0:=HK.out
 have z0:∃ cs,w1.heap[tb]?=some (.cells cs 44 (0,0)):=⟨_,HZ1.out⟩
 obtain ⟨g1,z1⟩:=g0.pk z0 0 (.string n.name)
 obtain ⟨g2,z2⟩:=g1.pk z1 1 (.bool false)
 obtain ⟨g3,z3⟩:=g2.pk z2 2 (.slice a k c)
 obtain ⟨g4,z4⟩:=g3.pk z3 3 (.slice none 0 0)
 obtain ⟨g5,z5⟩:=g4.pk z4 4 (.slice none 0 0)
 obtain ⟨g6,z6⟩:=g5.pk z5 5 (.slice none 0 0)
 exact ⟨rfl,(Sh.setCell (S:=fun k=>k=b∨k=tb) (Sh.setCell (S:=fun k=>k=b∨k=tb) (Sh.setCell (S:=fun k=>k=b∨k=tb) (Sh.setCell (S:=fun k=>k=b∨k=tb) (Sh.setCell (S:=fun k=>k=b∨k=tb) (Sh.setCell (S:=fun k=>k=b∨k=tb) (HSH.out.mono (fun k hk=>.inl hk)) (b:=tb) (i:=0) (.inr rfl) (.string n.name)) (b:=tb) (i:=1) (.inr rfl) (.bool false)) (b:=tb) (i:=2) (.inr rfl) (.slice a k c)) (b:=tb) (i:=3) (.inr rfl) (.slice none 0 0)) (b:=tb) (i:=4) (.inr rfl) (.slice none 0 0)) (b:=tb) (i:=5) (.inr rfl) (.slice none 0 0)),a,k,c,l,rest,HT,(Joins.block_setCell (i:=5) (Joins.block_setCell (i:=4) (Joins.block_setCell (i:=3) (Joins.block_setCell (i:=2) (Joins.block_setCell (i:=1) (Joins.block_setCell (i:=0) HZ1.out (.string n.name)) (.bool false)) (.slice a k c)) (.slice none 0 0)) (.slice none 0 0)) (.slice none 0 0)),(ownsRow_setCell_below ((ownsRow_setCell_below ((ownsRow_setCell_below ((ownsRow_setCell_below ((ownsRow_setCell_below ((ownsRow_setCell_below (HO.out) (a:=⟨tb,0,none⟩) (by simp only;omega) (.string n.name))) (a:=⟨tb,1,none⟩) (by simp only;omega) (.bool false))) (a:=⟨tb,2,none⟩) (by simp only;omega) (.slice a k c))) (a:=⟨tb,3,none⟩) (by simp only;omega) (.slice none 0 0))) (a:=⟨tb,4,none⟩) (by simp only;omega) (.slice none 0 0))) (a:=⟨tb,5,none⟩) (by simp only;omega) (.slice none 0 0)),g6⟩
end Go.Proofs.YtikgjgmgbfjcgaaGreat
