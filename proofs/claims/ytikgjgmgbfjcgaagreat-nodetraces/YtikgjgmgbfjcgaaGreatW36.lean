import Derived.Test.YtikgjgmgbfjcgaaGreatW12
namespace Go.Proofs.YtikgjgmgbfjcgaaGreat
open Go.RowKit
def wI (a b:Pl):Int:=if a.s+b.s=0 then 500 else a.s * 1000 / (a.s+b.s)
def pushP (a b:Pl) (st:Int):Pl:=
 if apartI a b=0 then ⟨a.x+st,a.y,a.z,a.h+st.tdiv 10,a.s⟩
 else ⟨a.x+(st * (a.x - b.x)).tdiv (apartI a b),a.y+(st * (a.y - b.y)).tdiv (apartI a b),a.z+(st * (a.z - b.z)).tdiv (apartI a b),a.h+st.tdiv 10,a.s⟩
theorem mul_bd {a b A B:Int} (a0 : -A≤a) (a1:a≤A) (b0 : -B≤b) (b1:b≤B) : -(A * B)≤a * b∧a * b≤A * B:=by
 have h1:a.natAbs≤A.natAbs:=by omega
 have h2:b.natAbs≤B.natAbs:=by omega
 have h3:=Nat.mul_le_mul h1 h2
 rw [← Int.natAbs_mul,← Int.natAbs_mul] at h3
 have h4:0≤A * B:=Int.mul_nonneg (by omega) (by omega)
 omega
theorem tdiv_bd {m k A:Int} (hk:0 < k) (h0 : -A≤m) (h1:m≤A) : -A≤m.tdiv k∧m.tdiv k≤A:=by
 rcases Int.le_total 0 m with h | h
 ·rw [Int.tdiv_eq_ediv_of_nonneg h]
  have:=Int.ediv_nonneg h (Int.le_of_lt hk)
  have:=Int.ediv_le_self k h
  omega
 ·have e:m.tdiv k = -((-m) / k):=by
   rw [← Int.tdiv_eq_ediv_of_nonneg (by omega),Int.neg_tdiv,Int.neg_neg]
  rw [e]
  have:=Int.ediv_nonneg (a := -m) (by omega) (Int.le_of_lt hk)
  have:=Int.ediv_le_self k (a := -m) (by omega)
  omega
theorem bcell {W w1:World} (hb:Below W.heap.size W w1):(∀ b o,b < W.heap.size→w1.cell? ⟨b,o,none⟩=W.cell? ⟨b,o,none⟩)∧(∀ b o,b < W.heap.size→w1.frozen? ⟨b,o,none⟩=W.frozen? ⟨b,o,none⟩):=
 ⟨fun b o h=>hb.cell (p:=⟨b,o,none⟩) h,fun b o h=>hb.frozen (p:=⟨b,o,none⟩) h⟩
set_option maxHeartbeats 1600000 in
theorem push_zero (a b:Pl) (st:Int) (w:World) (ha:OkP a) (hb:OkP b) (h0 : -20000000≤st) (h1:st≤20000000) (hz:apartI a b=0) :
 Calls Tryz.prog 175 #[.agg #[.int .i64 a.x,.int .i64 a.y,.int .i64 a.z,.int .i64 a.h,.int .i64 a.s],.agg #[.int .i64 b.x,.int .i64 b.y,.int .i64 b.z,.int .i64 b.h,.int .i64 b.s],.int .i64 st] w fun e w'=>e=.returned (.agg #[.int .i64 (a.x+st),.int .i64 a.y,.int .i64 a.z,.int .i64 (a.h+st.tdiv 10),.int .i64 a.s])∧Below w.heap.size w w':=by
 have hap:=fun w=>apart_any a b w ha hb
 rw [hz] at hap
 obtain ⟨ax0,ax1,ay0,ay1,az0,az1,_,_,_,_⟩:=ha
 obtain ⟨bx0,bx1,by0,by1,bz0,bz1,_,_,_,_⟩:=hb
 clear hz
 obtain ⟨x1,y1,z1,p1,s1⟩:=a
 obtain ⟨x2,y2,z2,p2,s2⟩:=b
 simp only at *
 have d0:=(tdiv_bd (m:=st) (k:=10) (A:=20000000) (by omega) h0 h1).1
 have d1:=(tdiv_bd (m:=st) (k:=10) (A:=20000000) (by omega) h0 h1).2
 go_enter Tryz.func175,Tryz.ntmps175
 go_wp2_with fail
 refine (hap _).mono ?_
 rintro e w1 ⟨rfl,hb1⟩
 obtain ⟨hc,hf⟩:=bcell hb1
 have hz:w.heap.size+1+1+1 < w1.heap.size:=by have:=hb1.size;simp at this;omega
 have HB1:Hid (Below w.heap.size w w1):=(((((Below.refl _ _).alloc (Nat.le_refl _) _).alloc (by simp) _).alloc (by simp;omega) _).alloc (by simp;omega) _).trans (hb1.mono (by simp;omega))
 clear hb1 hap
 go_wp2_with fail
 exact bodyPost_ret (v:=.agg #[.int .i64 (x1+st),.int .i64 y1,.int .i64 z1,.int .i64 (p1+st.tdiv 10),.int .i64 s1]) (by simp [results,Tryz.results175,go_sem,hc]) rfl ⟨rfl,(((((HB1.out.setCell (by simp;omega) _).setCell (by simp;omega) _).setCell (by simp;omega) _).setCell (by simp;omega) _).setCell (by simp;omega) _).setCell (by simp;omega) _⟩
set_option maxHeartbeats 3200000 in
theorem push_far (a b:Pl) (st D:Int) (w:World) (ha:OkP a) (hb:OkP b) (h0 : -20000000≤st) (h1:st≤20000000) (hD:apartI a b=D) (hp:0 < D) :
 Calls Tryz.prog 175 #[.agg #[.int .i64 a.x,.int .i64 a.y,.int .i64 a.z,.int .i64 a.h,.int .i64 a.s],.agg #[.int .i64 b.x,.int .i64 b.y,.int .i64 b.z,.int .i64 b.h,.int .i64 b.s],.int .i64 st] w fun e w'=>e=.returned (.agg #[.int .i64 (a.x+(st * (a.x - b.x)).tdiv D),.int .i64 (a.y+(st * (a.y - b.y)).tdiv D),.int .i64 (a.z+(st * (a.z - b.z)).tdiv D),.int .i64 (a.h+st.tdiv 10),.int .i64 a.s])∧Below w.heap.size w w':=by
 have hap:=fun w=>apart_any a b w ha hb
 rw [hD] at hap
 obtain ⟨ax0,ax1,ay0,ay1,az0,az1,_,_,_,_⟩:=ha
 obtain ⟨bx0,bx1,by0,by1,bz0,bz1,_,_,_,_⟩:=hb
 clear hD
 obtain ⟨x1,y1,z1,p1,s1⟩:=a
 obtain ⟨x2,y2,z2,p2,s2⟩:=b
 simp only at *
 have d0:=(tdiv_bd (m:=st) (k:=10) (A:=20000000) (by omega) h0 h1).1
 have d1:=(tdiv_bd (m:=st) (k:=10) (A:=20000000) (by omega) h0 h1).2
 obtain ⟨mx0,mx1⟩:=mul_bd (a:=st) (b:=x1 - x2) (A:=20000000) (B:=20000000) h0 h1 (by omega) (by omega)
 obtain ⟨my0,my1⟩:=mul_bd (a:=st) (b:=y1 - y2) (A:=20000000) (B:=20000000) h0 h1 (by omega) (by omega)
 obtain ⟨mz0,mz1⟩:=mul_bd (a:=st) (b:=z1 - z2) (A:=20000000) (B:=20000000) h0 h1 (by omega) (by omega)
 obtain ⟨qx0,qx1⟩:=tdiv_bd hp mx0 mx1
 obtain ⟨qy0,qy1⟩:=tdiv_bd hp my0 my1
 obtain ⟨qz0,qz1⟩:=tdiv_bd hp mz0 mz1
 go_enter Tryz.func175,Tryz.ntmps175
 go_wp2_with fail
 refine (hap _).mono ?_
 rintro e w1 ⟨rfl,hb1⟩
 obtain ⟨hc,hf⟩:=bcell hb1
 have hz:w.heap.size+1+1+1 < w1.heap.size:=by have:=hb1.size;simp at this;omega
 have HB1:Hid (Below w.heap.size w w1):=(((((Below.refl _ _).alloc (Nat.le_refl _) _).alloc (by simp) _).alloc (by simp;omega) _).alloc (by simp;omega) _).trans (hb1.mono (by simp;omega))
 clear hb1 hap
 go_wp2_with fail
 go_region
 go_wp2_with fail
 go_region
 go_wp2_with fail
 go_region
 go_wp2_with fail
 exact bodyPost_ret (v:=.agg #[.int .i64 (x1+(st * (x1 - x2)).tdiv D),.int .i64 (y1+(st * (y1 - y2)).tdiv D),.int .i64 (z1+(st * (z1 - z2)).tdiv D),.int .i64 (p1+st.tdiv 10),.int .i64 s1]) (by simp [results,Tryz.results175,go_sem,hc]) rfl ⟨rfl,((((((((((HB1.out.setCell (by simp;omega) _).setCell (by simp;omega) _).setCell (by simp;omega) _).setCell (by simp;omega) _).setCell (by simp;omega) _).setCell (by simp;omega) _).setCell (by simp;omega) _).setCell (by simp;omega) _).drew).drew).drew⟩
theorem push_any (a b:Pl) (st:Int) (w:World) (ha:OkP a) (hb:OkP b) (h0 : -20000000≤st) (h1:st≤20000000) :
 Calls Tryz.prog 175 #[.agg #[.int .i64 a.x,.int .i64 a.y,.int .i64 a.z,.int .i64 a.h,.int .i64 a.s],.agg #[.int .i64 b.x,.int .i64 b.y,.int .i64 b.z,.int .i64 b.h,.int .i64 b.s],.int .i64 st] w fun e w'=>e=.returned (.agg #[.int .i64 (pushP a b st).x,.int .i64 (pushP a b st).y,.int .i64 (pushP a b st).z,.int .i64 (pushP a b st).h,.int .i64 (pushP a b st).s])∧Below w.heap.size w w':=by
 by_cases hz:apartI a b=0
 ·unfold pushP
  rw [if_pos hz]
  exact push_zero a b st w ha hb h0 h1 hz
 ·unfold pushP
  rw [if_neg hz]
  exact push_far a b st _ w ha hb h0 h1 rfl (by have:=(apartI_bd ha hb).1;omega)
theorem pushP_s (a b:Pl) (st:Int):(pushP a b st).s=a.s:=by unfold pushP;split<;>rfl
theorem wI_bd {a b:Pl} (ha:OkP a) (hb:OkP b):0≤wI a b∧wI a b≤1000:=by
 have h1:=ha.s0
 have h2:=hb.s0
 unfold wI
 split
 ·omega
 ·refine ⟨Int.ediv_nonneg (by omega) (by omega),?_⟩
  exact Int.ediv_le_of_le_mul (by omega) (by omega)
set_option maxHeartbeats 1600000 in
theorem weight_any (a b:Pl) (w:World) (ha:OkP a) (hb:OkP b) :
 Calls Tryz.prog 174 #[.agg #[.int .i64 a.x,.int .i64 a.y,.int .i64 a.z,.int .i64 a.h,.int .i64 a.s],.agg #[.int .i64 b.x,.int .i64 b.y,.int .i64 b.z,.int .i64 b.h,.int .i64 b.s]] w fun e w'=>e=.returned (.int .i64 (wI a b))∧Below w.heap.size w w':=by
 have h1:=ha.s0
 have h2:=hb.s0
 have h3:=ha.s1
 have h4:=hb.s1
 have hw:=wI_bd ha hb
 by_cases hz:a.s+b.s=0
 ·have HE:Hid (wI a b=500):=(show wI a b=500 by unfold wI;rw [if_pos hz])
  clear hw
  generalize wI a b=W at *
  clear ha hb
  obtain ⟨x1,y1,z1,p1,s1⟩:=a
  obtain ⟨x2,y2,z2,p2,s2⟩:=b
  simp only at *
  go_enter Tryz.func174,Tryz.ntmps174
  go_wp2_with fail
  go_ret
  exact ⟨retn HE.out.symm,((Below.refl _ _).alloc (Nat.le_refl _) _).alloc (by simp) _⟩
 ·have HE:Hid (wI a b=a.s * 1000 / (a.s+b.s)):=(show wI a b=_ by unfold wI;rw [if_neg hz])
  rw [HE.out] at hw
  obtain ⟨w0,w1⟩:=hw
  generalize wI a b=W at *
  clear ha hb
  obtain ⟨x1,y1,z1,p1,s1⟩:=a
  obtain ⟨x2,y2,z2,p2,s2⟩:=b
  simp only at *
  have hpos:0 < s1+s2:=by omega
  go_enter Tryz.func174,Tryz.ntmps174
  go_wp2_with fail
  go_ret
  exact ⟨retn (by rw [HE.out]),((Below.refl _ _).alloc (Nat.le_refl _) _).alloc (by simp) _⟩
theorem tdiv_4000 {m:Int} (h0 : -42000000000≤m) (h1:m≤42000000000) : -10500000≤m.tdiv 4000∧m.tdiv 4000≤10500000:=by
 rcases Int.le_total 0 m with h | h
 ·rw [Int.tdiv_eq_ediv_of_nonneg h];omega
 ·have e:m.tdiv 4000 = -((-m) / 4000):=by
   rw [← Int.tdiv_eq_ediv_of_nonneg (by omega),Int.neg_tdiv,Int.neg_neg]
  rw [e];omega
def eI (late round:Int):Int:=min (max late (-late) * 1000 / round) 1000
theorem eI_bd (late round:Int) (hr:1≤round):0≤eI late round∧eI late round≤1000:=by
 have h:=Int.ediv_nonneg (a:=max late (-late) * 1000) (b:=round) (by omega) (by omega)
 unfold eI
 omega
def stI (a b:Pl) (round:Int):Int:=((round - farI a b) * wI a b).tdiv 4000
def rawP (a b:Pl) (round:Int):Pl:=
 ⟨(pushP a b (stI a b round)).x,(pushP a b (stI a b round)).y,(pushP a b (stI a b round)).z,(pushP a b (stI a b round)).h,a.s+((eI (round - farI a b) round - a.s) * wI a b).tdiv 4000⟩
def moveP (a b:Pl) (round:Int):Pl:=inP (rawP a b round)
theorem farI_bd {a b:Pl} (ha:OkP a) (hb:OkP b):0≤farI a b∧farI a b≤36641016:=by
 have:=apartI_bd ha hb
 have:=ha.h0
 have:=ha.h1
 have:=hb.h0
 have:=hb.h1
 unfold farI
 omega
set_option maxHeartbeats 400000 in
theorem withinR_any (n a b:Int) (w:World) :
 Calls Tryz.prog 97 #[.int .i64 n,.int .i64 a,.int .i64 b] w fun e w'=>e=.returned (.bool (betw n a b))∧w'=w:=by
 go_enter Tryz.func97,Tryz.ntmps97
 go_wp2
 all_goals
  go_ret
  exact ⟨retb (by unfold betw;rw [Bool.eq_iff_iff];simp;try omega),rfl⟩
abbrev w3 (a b:Pl) (w:World):World:=((w.alloc (.cells #[.int .i64 a.x,.int .i64 a.y,.int .i64 a.z,.int .i64 a.h,.int .i64 a.s] 27)).alloc (.cells #[.int .i64 b.x,.int .i64 b.y,.int .i64 b.z,.int .i64 b.h,.int .i64 b.s] 27)).alloc (.cells #[.int .i64 0,.int .i64 0,.int .i64 0,.int .i64 0,.int .i64 0] 27)
set_option maxHeartbeats 1600000 in
theorem Move_range (a b:Pl) (round:Int) (w:World) (h0:chkPs [a,b]=0) (hr:betw round 1 5000000=false) :
 Calls Tryz.prog 130 #[.agg #[.int .i64 a.x,.int .i64 a.y,.int .i64 a.z,.int .i64 a.h,.int .i64 a.s],.agg #[.int .i64 b.x,.int .i64 b.y,.int .i64 b.z,.int .i64 b.h,.int .i64 b.s],.int .i64 round] w fun e w'=>e=.returned (.tuple #[.agg #[.int .i64 0,.int .i64 0,.int .i64 0,.int .i64 0,.int .i64 0],.int .i64 3])∧Below w.heap.size w w':=by
 go_enter Tryz.func130,Tryz.ntmps130
 go_wp2_with fail
 refine (checkAllP_any [a,b] _ _ 2 _ _ rfl (prow_two (by simp)) (by omega)).mono ?_
 rintro e w1 ⟨rfl,hb1⟩
 rw [h0]
 obtain ⟨hc,hf⟩:=bcell hb1
 have hz:w.heap.size+1+1+1 < w1.heap.size:=by have:=hb1.size;simp at this;omega
 have HB:Hid (Below w.heap.size w w1):=(((((Below.refl _ _).alloc (Nat.le_refl _) _).alloc (by simp) _).alloc (by simp;omega) _).alloc (by simp;omega) _).trans (hb1.mono (by simp;omega))
 clear hb1
 go_wp2_with (go_at_call 97;refine (withinR_any _ _ _ _).mono ?_;rintro e w' ⟨rfl,rfl⟩;rw [hr])
 exact bodyPost_ret (v:=.tuple #[.agg #[.int .i64 0,.int .i64 0,.int .i64 0,.int .i64 0,.int .i64 0],.int .i64 3]) (by simp [results,Tryz.results130,go_sem,hc]) rfl ⟨rfl,((((HB.out.setCell (by simp;omega) _).setCell (by simp;omega) _).setCell (by simp;omega) _).setCell (by simp;omega) _).setCell (by simp;omega) _⟩
set_option maxHeartbeats 6400000 in
theorem Move_good (a b:Pl) (round:Int) (w:World) (ha:OkP a) (hb:OkP b) (hr:betw round 1 5000000=true) :
 Calls Tryz.prog 130 #[.agg #[.int .i64 a.x,.int .i64 a.y,.int .i64 a.z,.int .i64 a.h,.int .i64 a.s],.agg #[.int .i64 b.x,.int .i64 b.y,.int .i64 b.z,.int .i64 b.h,.int .i64 b.s],.int .i64 round] w fun e w'=>e=.returned (.tuple #[.agg #[.int .i64 (moveP a b round).x,.int .i64 (moveP a b round).y,.int .i64 (moveP a b round).z,.int .i64 (moveP a b round).h,.int .i64 (moveP a b round).s],.int .i64 0])∧Below w.heap.size w w':=by
 have h0:chkPs [a,b]=0:=(chkPs_two a b).2 ⟨ha,hb⟩
 have hca:∀ (g:Nat) (W:World) (t:TypeId),g=W.heap.size→Calls Tryz.prog 172 #[.slice (some ⟨g,0,none⟩) 2 2] (W.alloc (.cells #[.int .i64 a.x,.int .i64 a.y,.int .i64 a.z,.int .i64 a.h,.int .i64 a.s,.int .i64 b.x,.int .i64 b.y,.int .i64 b.z,.int .i64 b.h,.int .i64 b.s] t)) fun e w'=>e=.returned (.int .i64 0)∧Below (W.heap.size+1) (W.alloc (.cells #[.int .i64 a.x,.int .i64 a.y,.int .i64 a.z,.int .i64 a.h,.int .i64 a.s,.int .i64 b.x,.int .i64 b.y,.int .i64 b.z,.int .i64 b.h,.int .i64 b.s] t)) w':=fun g W t hg=>
  (checkAllP_any [a,b] g 0 2 2 _ rfl (prow_two hg) (by omega)).mono (by rintro e w' ⟨rfl,hb⟩;exact ⟨by rw [h0],by simpa using hb⟩)
 obtain ⟨r0,r1⟩:=betw_true hr
 obtain ⟨f0,f1⟩:=farI_bd ha hb
 obtain ⟨w0,w1⟩:=wI_bd ha hb
 have hfar:=fun w=>far_any a b w ha hb
 have hwei:=fun w=>weight_any a b w ha hb
 have hpush:=fun w=>push_any a b (stI a b round) w ha hb
 have hst:stI a b round=((round - farI a b) * wI a b).tdiv 4000:=rfl
 have hqs:=pushP_s a b (stI a b round)
 have HM:Hid (moveP a b round=inP ⟨(pushP a b (stI a b round)).x,(pushP a b (stI a b round)).y,(pushP a b (stI a b round)).z,(pushP a b (stI a b round)).h,a.s+((eI (round - farI a b) round - a.s) * wI a b).tdiv 4000⟩):=(show moveP a b round=_ from rfl)
 have s0:=ha.s0
 have s1':=ha.s1
 clear ha hb h0
 generalize farI a b=f at *
 generalize wI a b=W at *
 obtain ⟨m0,m1⟩:=mul_bd (a:=round - f) (b:=W) (A:=42000000) (B:=1000) (by omega) (by omega) (by omega) (by omega)
 obtain ⟨t0,t1⟩:=tdiv_4000 (m:=(round - f) * W) (by omega) (by omega)
 rw [hst] at hpush hqs HM
 clear hst
 have hpush:=fun w=>hpush w (by omega) (by omega)
 generalize pushP a b (((round - f) * W).tdiv 4000)=q at *
 generalize moveP a b round=M at *
 obtain ⟨e0,e1⟩:=eI_bd (round - f) round r0
 have HEI:Hid (eI (round - f) round=min (max (round - f) (-(round - f)) * 1000 / round) 1000):=(show eI (round - f) round=_ from rfl)
 generalize eI (round - f) round=E at *
 obtain ⟨n0,n1⟩:=mul_bd (a:=E - a.s) (b:=W) (A:=1000) (B:=1000) (by omega) (by omega) (by omega) (by omega)
 obtain ⟨u0,u1⟩:=tdiv_4000 (m:=(E - a.s) * W) (by omega) (by omega)
 obtain ⟨x1,y1,z1,p1,s1⟩:=a
 obtain ⟨x2,y2,z2,p2,s2⟩:=b
 obtain ⟨qx,qy,qz,qh,qs⟩:=q
 simp only at *
 have hqs2:=hqs.symm
 clear hqs
 subst hqs2
 go_enter Tryz.func130,Tryz.ntmps130
 go_wp2_with fail
 refine (hca _ _ _ (by simp)).mono ?_
 rintro e w1 ⟨rfl,hb1⟩
 have HB1:Hid (Below (((w.alloc (.cells #[.int .i64 x1,.int .i64 y1,.int .i64 z1,.int .i64 p1,.int .i64 s1] 27)).alloc (.cells #[.int .i64 x2,.int .i64 y2,.int .i64 z2,.int .i64 p2,.int .i64 s2] 27)).alloc (.cells #[.int .i64 0,.int .i64 0,.int .i64 0,.int .i64 0,.int .i64 0] 27)).heap.size (((w.alloc (.cells #[.int .i64 x1,.int .i64 y1,.int .i64 z1,.int .i64 p1,.int .i64 s1] 27)).alloc (.cells #[.int .i64 x2,.int .i64 y2,.int .i64 z2,.int .i64 p2,.int .i64 s2] 27)).alloc (.cells #[.int .i64 0,.int .i64 0,.int .i64 0,.int .i64 0,.int .i64 0] 27)) w1):=((Below.refl _ _).alloc (Nat.le_refl _) _).trans (hb1.mono (by simp))
 obtain ⟨hc,hf⟩:=bcell HB1.out
 clear hb1 hca
 go_wp2_with (go_at_call 97;refine (withinR_any _ _ _ _).mono ?_;rintro e w' ⟨rfl,rfl⟩;rw [hr])
 refine (hfar _).mono ?_
 rintro e w2 ⟨rfl,hb2⟩
 have HB2:Hid (Below (((w.alloc (.cells #[.int .i64 x1,.int .i64 y1,.int .i64 z1,.int .i64 p1,.int .i64 s1] 27)).alloc (.cells #[.int .i64 x2,.int .i64 y2,.int .i64 z2,.int .i64 p2,.int .i64 s2] 27)).alloc (.cells #[.int .i64 0,.int .i64 0,.int .i64 0,.int .i64 0,.int .i64 0] 27)).heap.size (((w.alloc (.cells #[.int .i64 x1,.int .i64 y1,.int .i64 z1,.int .i64 p1,.int .i64 s1] 27)).alloc (.cells #[.int .i64 x2,.int .i64 y2,.int .i64 z2,.int .i64 p2,.int .i64 s2] 27)).alloc (.cells #[.int .i64 0,.int .i64 0,.int .i64 0,.int .i64 0,.int .i64 0] 27)) w2):=HB1.out.trans (hb2.mono HB1.out.size)
 clear hc hf hb2 HB1 hfar
 obtain ⟨hc,hf⟩:=bcell HB2.out
 go_wp2_with fail
 refine (hwei _).mono ?_
 rintro e w3 ⟨rfl,hb3⟩
 have HB3:Hid (Below (((w.alloc (.cells #[.int .i64 x1,.int .i64 y1,.int .i64 z1,.int .i64 p1,.int .i64 s1] 27)).alloc (.cells #[.int .i64 x2,.int .i64 y2,.int .i64 z2,.int .i64 p2,.int .i64 s2] 27)).alloc (.cells #[.int .i64 0,.int .i64 0,.int .i64 0,.int .i64 0,.int .i64 0] 27)).heap.size (((w.alloc (.cells #[.int .i64 x1,.int .i64 y1,.int .i64 z1,.int .i64 p1,.int .i64 s1] 27)).alloc (.cells #[.int .i64 x2,.int .i64 y2,.int .i64 z2,.int .i64 p2,.int .i64 s2] 27)).alloc (.cells #[.int .i64 0,.int .i64 0,.int .i64 0,.int .i64 0,.int .i64 0] 27)) w3):=HB2.out.trans (hb3.mono HB2.out.size)
 clear hc hf hb3 HB2 hwei
 obtain ⟨hc,hf⟩:=bcell HB3.out
 go_wp2_with fail
 refine (hpush _).mono ?_
 rintro e w4 ⟨rfl,hb4⟩
 have HB4:Hid (Below (((w.alloc (.cells #[.int .i64 x1,.int .i64 y1,.int .i64 z1,.int .i64 p1,.int .i64 s1] 27)).alloc (.cells #[.int .i64 x2,.int .i64 y2,.int .i64 z2,.int .i64 p2,.int .i64 s2] 27)).alloc (.cells #[.int .i64 0,.int .i64 0,.int .i64 0,.int .i64 0,.int .i64 0] 27)).heap.size (((w.alloc (.cells #[.int .i64 x1,.int .i64 y1,.int .i64 z1,.int .i64 p1,.int .i64 s1] 27)).alloc (.cells #[.int .i64 x2,.int .i64 y2,.int .i64 z2,.int .i64 p2,.int .i64 s2] 27)).alloc (.cells #[.int .i64 0,.int .i64 0,.int .i64 0,.int .i64 0,.int .i64 0] 27)) w4):=HB3.out.trans (hb4.mono HB3.out.size)
 clear hc hf hb4 HB3 hpush
 obtain ⟨hc,hf⟩:=bcell HB4.out
 have hz4:w.heap.size+1+1 < w4.heap.size:=by have:=HB4.out.size;simp at this;omega
 have hza:w.heap.size < w4.heap.size:=by omega
 have hsure:∀ ob,(w4.alloc ob).cell? ⟨w.heap.size,4,none⟩=some (.int .i64 s1):=fun ob=>by
  rw [cell_under hza,hc _ _ (by simp;omega)]
  rw [cell_under (by simp;omega),cell_under (by simp),cell_top rfl]
  rfl
 rw [← HEI.out]
 go_wp2_with fail
 refine (within_any' _ _ _ _ _ _).mono ?_
 rintro e w5 ⟨rfl,hb5⟩
 have HB5:Hid (Below (((w.alloc (.cells #[.int .i64 x1,.int .i64 y1,.int .i64 z1,.int .i64 p1,.int .i64 s1] 27)).alloc (.cells #[.int .i64 x2,.int .i64 y2,.int .i64 z2,.int .i64 p2,.int .i64 s2] 27)).alloc (.cells #[.int .i64 0,.int .i64 0,.int .i64 0,.int .i64 0,.int .i64 0] 27)).heap.size (((w.alloc (.cells #[.int .i64 x1,.int .i64 y1,.int .i64 z1,.int .i64 p1,.int .i64 s1] 27)).alloc (.cells #[.int .i64 x2,.int .i64 y2,.int .i64 z2,.int .i64 p2,.int .i64 s2] 27)).alloc (.cells #[.int .i64 0,.int .i64 0,.int .i64 0,.int .i64 0,.int .i64 0] 27)) w5):=(HB4.out.alloc HB4.out.size _).trans (hb5.mono (by have:=HB4.out.size;simp at this ⊢;omega))
 clear hc hf hb5 HB4 hsure
 obtain ⟨hc,hf⟩:=bcell HB5.out
 have hz5:w.heap.size+1+1 < w5.heap.size:=by have:=HB5.out.size;simp at this;omega
 have HB6:Hid (Below w.heap.size w w5):=((((Below.refl _ _).alloc (Nat.le_refl _) _).alloc (by simp) _).alloc (by simp;omega) _).trans (HB5.out.mono (by simp;omega))
 go_wp2_with fail
 exact bodyPost_ret (v:=.tuple #[.agg #[.int .i64 (clampI qx (-10000000) 10000000),.int .i64 (clampI qy (-10000000) 10000000),.int .i64 (clampI qz (-10000000) 10000000),.int .i64 (clampI qh 0 1000000),.int .i64 (clampI (s1+((E - s1) * W).tdiv 4000) 0 1000)],.int .i64 0]) (by simp [results,Tryz.results130,go_sem,hc]) rfl ⟨by rw [HM.out];rfl,((((HB6.out.setCell (by simp;omega) _).setCell (by simp;omega) _).setCell (by simp;omega) _).setCell (by simp;omega) _).setCell (by simp;omega) _⟩
set_option maxHeartbeats 400000 in
theorem bound_any (n lo hi:Int) (w:World) (h:lo≤hi) :
 Calls Tryz.prog 134 #[.int .i64 n,.int .i64 lo,.int .i64 hi] w fun e w'=>e=.returned (.int .i64 (clampI n lo hi))∧w'=w:=by
 go_enter Tryz.func134,Tryz.ntmps134
 go_wp2
 all_goals
  go_ret
  exact ⟨retn (by unfold clampI;omega),rfl⟩
theorem eI_pos {late round:Int} (hr:1≤round) (h:0≤late):clampI (late * 1000 / round) 0 1000=eI late round:=by
 have h1:=Int.ediv_nonneg (a:=late * 1000) (b:=round) (by omega) (by omega)
 unfold eI clampI
 rw [show max late (-late)=late by omega]
 omega
theorem eI_neg {late round:Int} (hr:1≤round) (h:late < 0):clampI (-late * 1000 / round) 0 1000=eI late round:=by
 have h1:=Int.ediv_nonneg (a := -late * 1000) (b:=round) (by omega) (by omega)
 unfold eI clampI
 rw [show max late (-late) = -late by omega]
 omega
theorem keep_top {W:World} {cs:Array Value} {t:TypeId} {g k:Nat} {v:Value} (hg:g=W.heap.size) (hv:cs[k]?=some v):(W.alloc (.cells cs t)).drew.cell? ⟨g,k,none⟩=some v:=by
 subst hg
 show (W.alloc (.cells cs t)).cell? _=_
 rw [cell_top rfl];exact hv
set_option maxHeartbeats 3200000 in
theorem moveOf_zero (a b:Pl) (round:Int) (w:World) (ha:OkP a) (hb:OkP b) (r0:1≤round) (r1:round≤5000000) (hz:apartI a b=0) :
 Calls Tryz.prog 82 #[.agg #[.int .i64 a.x,.int .i64 a.y,.int .i64 a.z,.int .i64 a.h,.int .i64 a.s],.agg #[.int .i64 b.x,.int .i64 b.y,.int .i64 b.z,.int .i64 b.h,.int .i64 b.s],.int .i64 round] w fun e w'=>e=.returned (.agg #[.int .i64 (moveP a b round).x,.int .i64 (moveP a b round).y,.int .i64 (moveP a b round).z,.int .i64 (moveP a b round).h,.int .i64 (moveP a b round).s])∧Below w.heap.size w w':=by
 obtain ⟨f0,f1⟩:=farI_bd ha hb
 obtain ⟨w0,w1⟩:=wI_bd ha hb
 have hfar:=fun w=>farOf_any a b w ha hb
 have hflat:=fun w=>flatFar_any a b w ha hb
 rw [hz] at hflat
 have HM:Hid (moveP a b round=inP ⟨a.x+stI a b round,a.y,a.z,a.h+(stI a b round).tdiv 10,a.s+((eI (round - farI a b) round - a.s) * wI a b).tdiv 4000⟩):=(show moveP a b round=_ by unfold moveP rawP pushP;rw [if_pos hz])
 have hst:stI a b round=((round - farI a b) * wI a b).tdiv 4000:=rfl
 obtain ⟨ax0,ax1,ay0,ay1,az0,az1,ah0,ah1,as0,as1⟩:=ha
 have bs0:=hb.s0
 have bs1:=hb.s1
 have hW:wI a b=if a.s+b.s=0 then 500 else a.s * 1000 / (a.s+b.s):=rfl
 clear hb hz
 generalize farI a b=f at *
 generalize wI a b=W at *
 obtain ⟨m0,m1⟩:=mul_bd (a:=round - f) (b:=W) (A:=42000000) (B:=1000) (by omega) (by omega) (by omega) (by omega)
 obtain ⟨t0,t1⟩:=tdiv_4000 (m:=(round - f) * W) (by omega) (by omega)
 obtain ⟨v0,v1⟩:=tdiv_bd (m:=((round - f) * W).tdiv 4000) (k:=10) (A:=10500000) (by omega) t0 t1
 rw [hst] at HM
 clear hst
 generalize moveP a b round=M at *
 obtain ⟨e0,e1⟩:=eI_bd (round - f) round r0
 obtain ⟨n0,n1⟩:=mul_bd (a:=eI (round - f) round - a.s) (b:=W) (A:=1000) (B:=1000) (by omega) (by omega) (by omega) (by omega)
 obtain ⟨u0,u1⟩:=tdiv_4000 (m:=(eI (round - f) round - a.s) * W) (by omega) (by omega)
 obtain ⟨x1,y1,z1,p1,s1⟩:=a
 obtain ⟨x2,y2,z2,p2,s2⟩:=b
 simp only at *
 have HEP:Hid (0≤round - f→clampI ((round - f) * 1000 / round) 0 1000=eI (round - f) round):=fun h=>eI_pos r0 h
 have HEN:Hid (round - f < 0→clampI (-(round - f) * 1000 / round) 0 1000=eI (round - f) round):=fun h=>eI_neg r0 h
 have HWW:Hid (W=if s1+s2=0 then 500 else s1 * 1000 / (s1+s2)):=hW
 clear hW
 generalize eI (round - f) round=E at *
 by_cases hs:s1+s2=0
 ·by_cases hl:round - f < 0
  all_goals
   have hWd:=HWW.out
   rw [if_pos hs] at hWd
   subst hWd
   clear HWW
   go_enter Tryz.func82,Tryz.ntmps82
   go_wp2_with fail
   refine (hfar _).mono ?_
   rintro e w1 ⟨rfl,hb1⟩
   have HB1:Hid (Below (((w.alloc (.cells #[.int .i64 x1,.int .i64 y1,.int .i64 z1,.int .i64 p1,.int .i64 s1] 27)).alloc (.cells #[.int .i64 x2,.int .i64 y2,.int .i64 z2,.int .i64 p2,.int .i64 s2] 27)).alloc (.cells #[.int .i64 0,.int .i64 0,.int .i64 0,.int .i64 0,.int .i64 0] 27)).heap.size (((w.alloc (.cells #[.int .i64 x1,.int .i64 y1,.int .i64 z1,.int .i64 p1,.int .i64 s1] 27)).alloc (.cells #[.int .i64 x2,.int .i64 y2,.int .i64 z2,.int .i64 p2,.int .i64 s2] 27)).alloc (.cells #[.int .i64 0,.int .i64 0,.int .i64 0,.int .i64 0,.int .i64 0] 27)) w1):=hb1
   obtain ⟨hc,hf⟩:=bcell HB1.out
   clear hb1 hfar
   go_wp2_with fail
   refine (hflat _).mono ?_
   rintro e w2 ⟨rfl,hb2⟩
   have HB2:Hid (Below (((w.alloc (.cells #[.int .i64 x1,.int .i64 y1,.int .i64 z1,.int .i64 p1,.int .i64 s1] 27)).alloc (.cells #[.int .i64 x2,.int .i64 y2,.int .i64 z2,.int .i64 p2,.int .i64 s2] 27)).alloc (.cells #[.int .i64 0,.int .i64 0,.int .i64 0,.int .i64 0,.int .i64 0] 27)).heap.size (((w.alloc (.cells #[.int .i64 x1,.int .i64 y1,.int .i64 z1,.int .i64 p1,.int .i64 s1] 27)).alloc (.cells #[.int .i64 x2,.int .i64 y2,.int .i64 z2,.int .i64 p2,.int .i64 s2] 27)).alloc (.cells #[.int .i64 0,.int .i64 0,.int .i64 0,.int .i64 0,.int .i64 0] 27)) w2):=HB1.out.trans (hb2.mono HB1.out.size)
   clear hc hf hb2 HB1 hflat
   obtain ⟨hc,hf⟩:=bcell HB2.out
   have hz2:w.heap.size+1+1 < w2.heap.size:=by have:=HB2.out.size;simp at this;omega
   have hza:w.heap.size < w2.heap.size:=by omega
   have hsure:∀ ob,(w2.alloc ob).cell? ⟨w.heap.size,4,none⟩=some (.int .i64 s1):=fun ob=>by
    rw [cell_under hza,hc _ _ (by simp;omega)]
    rw [cell_under (by simp;omega),cell_under (by simp),cell_top rfl]
    rfl
   go_wp2_with fail
   refine (bound_any _ _ _ _ (by omega)).mono ?_
   rintro e w' ⟨rfl,rfl⟩
   first | rw [HEP.out (by omega)] | rw [HEN.out hl]
   go_wp2_with fail
   go_region_held3 (fun w'=>w'.cell? ⟨w2.heap.size,0,none⟩=some (.int .i64 (x1+((round - f) * 500).tdiv 4000))∧w'.cell? ⟨w2.heap.size,1,none⟩=some (.int .i64 (y1))∧w'.cell? ⟨w2.heap.size,2,none⟩=some (.int .i64 (z1))∧w'.cell? ⟨w2.heap.size,3,none⟩=some (.int .i64 (p1+(((round - f) * 500).tdiv 4000).tdiv 10))∧w'.cell? ⟨w2.heap.size,4,none⟩=some (.int .i64 (s1+((E - s1) * 500).tdiv 4000))) (first | (with_reducible refine ⟨keep_top ?_ ?_,keep_top ?_ ?_,keep_top ?_ ?_,keep_top ?_ ?_,keep_top ?_ ?_⟩<;>first | rfl | simp) | go_keep) (first | (go_at_call 134;refine (bound_any _ _ _ _ (by omega)).mono ?_;rintro e w' ⟨rfl,rfl⟩))
   go_wp2_with fail
   exact bodyPost_ret (v:=.agg #[.int .i64 (clampI (x1+((round - f) * 500).tdiv 4000) (-10000000) 10000000),.int .i64 (clampI y1 (-10000000) 10000000),.int .i64 (clampI z1 (-10000000) 10000000),.int .i64 (clampI (p1+(((round - f) * 500).tdiv 4000).tdiv 10) 0 1000000),.int .i64 (clampI (s1+((E - s1) * 500).tdiv 4000) 0 1000)]) (by simp [results,Tryz.results82,go_sem,hc,hz2]) rfl ⟨by rw [HM.out];rfl,((((((((((Below.refl _ _).alloc (Nat.le_refl _) _).alloc (by simp) _).alloc (by simp;omega) _).trans (HB2.out.mono (by simp;omega))).setCell (by simp;omega) _).setCell (by simp;omega) _).setCell (by simp;omega) _).setCell (by simp;omega) _).setCell (by simp;omega) _).alloc (by simp;omega) _ |>.drew⟩
 ·by_cases hl:round - f < 0
  all_goals
   have hWd:=HWW.out
   rw [if_neg hs] at hWd
   subst hWd
   clear HWW
   go_enter Tryz.func82,Tryz.ntmps82
   go_wp2_with fail
   refine (hfar _).mono ?_
   rintro e w1 ⟨rfl,hb1⟩
   have HB1:Hid (Below (((w.alloc (.cells #[.int .i64 x1,.int .i64 y1,.int .i64 z1,.int .i64 p1,.int .i64 s1] 27)).alloc (.cells #[.int .i64 x2,.int .i64 y2,.int .i64 z2,.int .i64 p2,.int .i64 s2] 27)).alloc (.cells #[.int .i64 0,.int .i64 0,.int .i64 0,.int .i64 0,.int .i64 0] 27)).heap.size (((w.alloc (.cells #[.int .i64 x1,.int .i64 y1,.int .i64 z1,.int .i64 p1,.int .i64 s1] 27)).alloc (.cells #[.int .i64 x2,.int .i64 y2,.int .i64 z2,.int .i64 p2,.int .i64 s2] 27)).alloc (.cells #[.int .i64 0,.int .i64 0,.int .i64 0,.int .i64 0,.int .i64 0] 27)) w1):=hb1
   obtain ⟨hc,hf⟩:=bcell HB1.out
   clear hb1 hfar
   go_wp2_with fail
   refine (hflat _).mono ?_
   rintro e w2 ⟨rfl,hb2⟩
   have HB2:Hid (Below (((w.alloc (.cells #[.int .i64 x1,.int .i64 y1,.int .i64 z1,.int .i64 p1,.int .i64 s1] 27)).alloc (.cells #[.int .i64 x2,.int .i64 y2,.int .i64 z2,.int .i64 p2,.int .i64 s2] 27)).alloc (.cells #[.int .i64 0,.int .i64 0,.int .i64 0,.int .i64 0,.int .i64 0] 27)).heap.size (((w.alloc (.cells #[.int .i64 x1,.int .i64 y1,.int .i64 z1,.int .i64 p1,.int .i64 s1] 27)).alloc (.cells #[.int .i64 x2,.int .i64 y2,.int .i64 z2,.int .i64 p2,.int .i64 s2] 27)).alloc (.cells #[.int .i64 0,.int .i64 0,.int .i64 0,.int .i64 0,.int .i64 0] 27)) w2):=HB1.out.trans (hb2.mono HB1.out.size)
   clear hc hf hb2 HB1 hflat
   obtain ⟨hc,hf⟩:=bcell HB2.out
   have hz2:w.heap.size+1+1 < w2.heap.size:=by have:=HB2.out.size;simp at this;omega
   have hza:w.heap.size < w2.heap.size:=by omega
   have hsure:∀ ob,(w2.alloc ob).cell? ⟨w.heap.size,4,none⟩=some (.int .i64 s1):=fun ob=>by
    rw [cell_under hza,hc _ _ (by simp;omega)]
    rw [cell_under (by simp;omega),cell_under (by simp),cell_top rfl]
    rfl
   go_wp2_with fail
   refine (bound_any _ _ _ _ (by omega)).mono ?_
   rintro e w' ⟨rfl,rfl⟩
   first | rw [HEP.out (by omega)] | rw [HEN.out hl]
   go_wp2_with fail
   go_region_held3 (fun w'=>w'.cell? ⟨w2.heap.size,0,none⟩=some (.int .i64 (x1+((round - f) * (s1 * 1000 / (s1+s2))).tdiv 4000))∧w'.cell? ⟨w2.heap.size,1,none⟩=some (.int .i64 (y1))∧w'.cell? ⟨w2.heap.size,2,none⟩=some (.int .i64 (z1))∧w'.cell? ⟨w2.heap.size,3,none⟩=some (.int .i64 (p1+(((round - f) * (s1 * 1000 / (s1+s2))).tdiv 4000).tdiv 10))∧w'.cell? ⟨w2.heap.size,4,none⟩=some (.int .i64 (s1+((E - s1) * (s1 * 1000 / (s1+s2))).tdiv 4000))) (first | (with_reducible refine ⟨keep_top ?_ ?_,keep_top ?_ ?_,keep_top ?_ ?_,keep_top ?_ ?_,keep_top ?_ ?_⟩<;>first | rfl | simp) | go_keep) (first | (go_at_call 134;refine (bound_any _ _ _ _ (by omega)).mono ?_;rintro e w' ⟨rfl,rfl⟩))
   go_wp2_with fail
   exact bodyPost_ret (v:=.agg #[.int .i64 (clampI (x1+((round - f) * (s1 * 1000 / (s1+s2))).tdiv 4000) (-10000000) 10000000),.int .i64 (clampI y1 (-10000000) 10000000),.int .i64 (clampI z1 (-10000000) 10000000),.int .i64 (clampI (p1+(((round - f) * (s1 * 1000 / (s1+s2))).tdiv 4000).tdiv 10) 0 1000000),.int .i64 (clampI (s1+((E - s1) * (s1 * 1000 / (s1+s2))).tdiv 4000) 0 1000)]) (by simp [results,Tryz.results82,go_sem,hc,hz2]) rfl ⟨by rw [HM.out];rfl,((((((((((Below.refl _ _).alloc (Nat.le_refl _) _).alloc (by simp) _).alloc (by simp;omega) _).trans (HB2.out.mono (by simp;omega))).setCell (by simp;omega) _).setCell (by simp;omega) _).setCell (by simp;omega) _).setCell (by simp;omega) _).setCell (by simp;omega) _).alloc (by simp;omega) _ |>.drew⟩
theorem keep_top4 {W:World} {cs:Array Value} {t:TypeId} {g k:Nat} {v:Value} (hg:g=W.heap.size) (hv:cs[k]?=some v):(W.alloc (.cells cs t)).drew.drew.drew.drew.cell? ⟨g,k,none⟩=some v:=by
 subst hg
 show (W.alloc (.cells cs t)).cell? _=_
 rw [cell_top rfl];exact hv
set_option maxHeartbeats 3200000 in
theorem moveOf_far (a b:Pl) (round D:Int) (w:World) (ha:OkP a) (hb:OkP b) (r0:1≤round) (r1:round≤5000000) (hz:apartI a b=D) (hp:0 < D) :
 Calls Tryz.prog 82 #[.agg #[.int .i64 a.x,.int .i64 a.y,.int .i64 a.z,.int .i64 a.h,.int .i64 a.s],.agg #[.int .i64 b.x,.int .i64 b.y,.int .i64 b.z,.int .i64 b.h,.int .i64 b.s],.int .i64 round] w fun e w'=>e=.returned (.agg #[.int .i64 (moveP a b round).x,.int .i64 (moveP a b round).y,.int .i64 (moveP a b round).z,.int .i64 (moveP a b round).h,.int .i64 (moveP a b round).s])∧Below w.heap.size w w':=by
 obtain ⟨f0,f1⟩:=farI_bd ha hb
 obtain ⟨w0,w1⟩:=wI_bd ha hb
 have hfar:=fun w=>farOf_any a b w ha hb
 have hflat:=fun w=>flatFar_any a b w ha hb
 rw [hz] at hflat
 have HM:Hid (moveP a b round=inP ⟨a.x+(stI a b round * (a.x - b.x)).tdiv D,a.y+(stI a b round * (a.y - b.y)).tdiv D,a.z+(stI a b round * (a.z - b.z)).tdiv D,a.h+(stI a b round).tdiv 10,a.s+((eI (round - farI a b) round - a.s) * wI a b).tdiv 4000⟩):=(show moveP a b round=_ by unfold moveP rawP pushP;rw [if_neg (by omega),hz])
 have hst:stI a b round=((round - farI a b) * wI a b).tdiv 4000:=rfl
 obtain ⟨ax0,ax1,ay0,ay1,az0,az1,ah0,ah1,as0,as1⟩:=ha
 have bs0:=hb.s0
 have bs1:=hb.s1
 have hW:wI a b=if a.s+b.s=0 then 500 else a.s * 1000 / (a.s+b.s):=rfl
 obtain ⟨bx0,bx1,by0,by1,bz0,bz1,_,_,_,_⟩:=hb
 clear hz
 generalize farI a b=f at *
 generalize wI a b=W at *
 obtain ⟨m0,m1⟩:=mul_bd (a:=round - f) (b:=W) (A:=42000000) (B:=1000) (by omega) (by omega) (by omega) (by omega)
 obtain ⟨t0,t1⟩:=tdiv_4000 (m:=(round - f) * W) (by omega) (by omega)
 obtain ⟨v0,v1⟩:=tdiv_bd (m:=((round - f) * W).tdiv 4000) (k:=10) (A:=10500000) (by omega) t0 t1
 obtain ⟨mx0,mx1⟩:=mul_bd (a:=((round - f) * W).tdiv 4000) (b:=a.x - b.x) (A:=10500000) (B:=20000000) t0 t1 (by omega) (by omega)
 obtain ⟨my0,my1⟩:=mul_bd (a:=((round - f) * W).tdiv 4000) (b:=a.y - b.y) (A:=10500000) (B:=20000000) t0 t1 (by omega) (by omega)
 obtain ⟨mz0,mz1⟩:=mul_bd (a:=((round - f) * W).tdiv 4000) (b:=a.z - b.z) (A:=10500000) (B:=20000000) t0 t1 (by omega) (by omega)
 obtain ⟨qx0,qx1⟩:=tdiv_bd hp mx0 mx1
 obtain ⟨qy0,qy1⟩:=tdiv_bd hp my0 my1
 obtain ⟨qz0,qz1⟩:=tdiv_bd hp mz0 mz1
 rw [hst] at HM
 clear hst
 generalize moveP a b round=M at *
 obtain ⟨e0,e1⟩:=eI_bd (round - f) round r0
 obtain ⟨n0,n1⟩:=mul_bd (a:=eI (round - f) round - a.s) (b:=W) (A:=1000) (B:=1000) (by omega) (by omega) (by omega) (by omega)
 obtain ⟨u0,u1⟩:=tdiv_4000 (m:=(eI (round - f) round - a.s) * W) (by omega) (by omega)
 obtain ⟨x1,y1,z1,p1,s1⟩:=a
 obtain ⟨x2,y2,z2,p2,s2⟩:=b
 simp only at *
 have HEP:Hid (0≤round - f→clampI ((round - f) * 1000 / round) 0 1000=eI (round - f) round):=fun h=>eI_pos r0 h
 have HEN:Hid (round - f < 0→clampI (-(round - f) * 1000 / round) 0 1000=eI (round - f) round):=fun h=>eI_neg r0 h
 have HWW:Hid (W=if s1+s2=0 then 500 else s1 * 1000 / (s1+s2)):=hW
 clear hW
 generalize eI (round - f) round=E at *
 by_cases hs:s1+s2=0
 ·by_cases hl:round - f < 0
  all_goals
   have hWd:=HWW.out
   rw [if_pos hs] at hWd
   subst hWd
   clear HWW
   go_enter Tryz.func82,Tryz.ntmps82
   go_wp2_with fail
   refine (hfar _).mono ?_
   rintro e w1 ⟨rfl,hb1⟩
   have HB1:Hid (Below (((w.alloc (.cells #[.int .i64 x1,.int .i64 y1,.int .i64 z1,.int .i64 p1,.int .i64 s1] 27)).alloc (.cells #[.int .i64 x2,.int .i64 y2,.int .i64 z2,.int .i64 p2,.int .i64 s2] 27)).alloc (.cells #[.int .i64 0,.int .i64 0,.int .i64 0,.int .i64 0,.int .i64 0] 27)).heap.size (((w.alloc (.cells #[.int .i64 x1,.int .i64 y1,.int .i64 z1,.int .i64 p1,.int .i64 s1] 27)).alloc (.cells #[.int .i64 x2,.int .i64 y2,.int .i64 z2,.int .i64 p2,.int .i64 s2] 27)).alloc (.cells #[.int .i64 0,.int .i64 0,.int .i64 0,.int .i64 0,.int .i64 0] 27)) w1):=hb1
   obtain ⟨hc,hf⟩:=bcell HB1.out
   clear hb1 hfar
   go_wp2_with fail
   refine (hflat _).mono ?_
   rintro e w2 ⟨rfl,hb2⟩
   have HB2:Hid (Below (((w.alloc (.cells #[.int .i64 x1,.int .i64 y1,.int .i64 z1,.int .i64 p1,.int .i64 s1] 27)).alloc (.cells #[.int .i64 x2,.int .i64 y2,.int .i64 z2,.int .i64 p2,.int .i64 s2] 27)).alloc (.cells #[.int .i64 0,.int .i64 0,.int .i64 0,.int .i64 0,.int .i64 0] 27)).heap.size (((w.alloc (.cells #[.int .i64 x1,.int .i64 y1,.int .i64 z1,.int .i64 p1,.int .i64 s1] 27)).alloc (.cells #[.int .i64 x2,.int .i64 y2,.int .i64 z2,.int .i64 p2,.int .i64 s2] 27)).alloc (.cells #[.int .i64 0,.int .i64 0,.int .i64 0,.int .i64 0,.int .i64 0] 27)) w2):=HB1.out.trans (hb2.mono HB1.out.size)
   clear hc hf hb2 HB1 hflat
   obtain ⟨hc,hf⟩:=bcell HB2.out
   have hz2:w.heap.size+1+1 < w2.heap.size:=by have:=HB2.out.size;simp at this;omega
   have hza:w.heap.size < w2.heap.size:=by omega
   have hsure:∀ ob,(w2.alloc ob).cell? ⟨w.heap.size,4,none⟩=some (.int .i64 s1):=fun ob=>by
    rw [cell_under hza,hc _ _ (by simp;omega)]
    rw [cell_under (by simp;omega),cell_under (by simp),cell_top rfl]
    rfl
   have ha0:∀ ob,(w2.alloc ob).cell? ⟨w.heap.size,0,none⟩=some (.int .i64 x1):=fun ob=>by
    rw [cell_under hza,hc _ _ (by simp;omega)]
    rw [cell_under (by simp;omega),cell_under (by simp),cell_top rfl]
    rfl
   have ha1:∀ ob,(w2.alloc ob).cell? ⟨w.heap.size,1,none⟩=some (.int .i64 y1):=fun ob=>by
    rw [cell_under hza,hc _ _ (by simp;omega)]
    rw [cell_under (by simp;omega),cell_under (by simp),cell_top rfl]
    rfl
   have ha2:∀ ob,(w2.alloc ob).cell? ⟨w.heap.size,2,none⟩=some (.int .i64 z1):=fun ob=>by
    rw [cell_under hza,hc _ _ (by simp;omega)]
    rw [cell_under (by simp;omega),cell_under (by simp),cell_top rfl]
    rfl
   have hzb:w.heap.size+1 < w2.heap.size:=by omega
   have hb0:∀ ob,(w2.alloc ob).cell? ⟨w.heap.size+1,0,none⟩=some (.int .i64 x2):=fun ob=>by
    rw [cell_under hzb,hc _ _ (by simp)]
    rw [cell_under (by simp),cell_top (by simp)]
    rfl
   have hb1:∀ ob,(w2.alloc ob).cell? ⟨w.heap.size+1,1,none⟩=some (.int .i64 y2):=fun ob=>by
    rw [cell_under hzb,hc _ _ (by simp)]
    rw [cell_under (by simp),cell_top (by simp)]
    rfl
   have hb2:∀ ob,(w2.alloc ob).cell? ⟨w.heap.size+1,2,none⟩=some (.int .i64 z2):=fun ob=>by
    rw [cell_under hzb,hc _ _ (by simp)]
    rw [cell_under (by simp),cell_top (by simp)]
    rfl
   go_wp2_with fail
   go_region
   go_wp2_with fail
   go_region
   go_wp2_with fail
   go_region
   go_wp2_with fail
   refine (bound_any _ _ _ _ (by omega)).mono ?_
   rintro e w' ⟨rfl,rfl⟩
   first | rw [HEP.out (by omega)] | rw [HEN.out hl]
   go_wp2_with fail
   go_region_held3 (fun w'=>w'.cell? ⟨w2.heap.size,0,none⟩=some (.int .i64 (x1+(((round - f) * 500).tdiv 4000 * (x1 - x2)).tdiv D))∧w'.cell? ⟨w2.heap.size,1,none⟩=some (.int .i64 (y1+(((round - f) * 500).tdiv 4000 * (y1 - y2)).tdiv D))∧w'.cell? ⟨w2.heap.size,2,none⟩=some (.int .i64 (z1+(((round - f) * 500).tdiv 4000 * (z1 - z2)).tdiv D))∧w'.cell? ⟨w2.heap.size,3,none⟩=some (.int .i64 (p1+(((round - f) * 500).tdiv 4000).tdiv 10))∧w'.cell? ⟨w2.heap.size,4,none⟩=some (.int .i64 (s1+((E - s1) * 500).tdiv 4000))) (first | (with_reducible refine ⟨keep_top4 ?_ ?_,keep_top4 ?_ ?_,keep_top4 ?_ ?_,keep_top4 ?_ ?_,keep_top4 ?_ ?_⟩<;>first | rfl | simp) | go_keep) (first | (go_at_call 134;refine (bound_any _ _ _ _ (by omega)).mono ?_;rintro e w' ⟨rfl,rfl⟩))
   go_wp2_with fail
   exact bodyPost_ret (v:=.agg #[.int .i64 (clampI (x1+(((round - f) * 500).tdiv 4000 * (x1 - x2)).tdiv D) (-10000000) 10000000),.int .i64 (clampI (y1+(((round - f) * 500).tdiv 4000 * (y1 - y2)).tdiv D) (-10000000) 10000000),.int .i64 (clampI (z1+(((round - f) * 500).tdiv 4000 * (z1 - z2)).tdiv D) (-10000000) 10000000),.int .i64 (clampI (p1+(((round - f) * 500).tdiv 4000).tdiv 10) 0 1000000),.int .i64 (clampI (s1+((E - s1) * 500).tdiv 4000) 0 1000)]) (by simp [results,Tryz.results82,go_sem,hc,hz2]) rfl ⟨by rw [HM.out];rfl,((((((((((Below.refl _ _).alloc (Nat.le_refl _) _).alloc (by simp) _).alloc (by simp;omega) _).trans (HB2.out.mono (by simp;omega))).setCell (by simp;omega) _).setCell (by simp;omega) _).setCell (by simp;omega) _).setCell (by simp;omega) _).setCell (by simp;omega) _).alloc (by simp;omega) _ |>.drew |>.drew |>.drew |>.drew⟩
 ·by_cases hl:round - f < 0
  all_goals
   have hWd:=HWW.out
   rw [if_neg hs] at hWd
   subst hWd
   clear HWW
   go_enter Tryz.func82,Tryz.ntmps82
   go_wp2_with fail
   refine (hfar _).mono ?_
   rintro e w1 ⟨rfl,hb1⟩
   have HB1:Hid (Below (((w.alloc (.cells #[.int .i64 x1,.int .i64 y1,.int .i64 z1,.int .i64 p1,.int .i64 s1] 27)).alloc (.cells #[.int .i64 x2,.int .i64 y2,.int .i64 z2,.int .i64 p2,.int .i64 s2] 27)).alloc (.cells #[.int .i64 0,.int .i64 0,.int .i64 0,.int .i64 0,.int .i64 0] 27)).heap.size (((w.alloc (.cells #[.int .i64 x1,.int .i64 y1,.int .i64 z1,.int .i64 p1,.int .i64 s1] 27)).alloc (.cells #[.int .i64 x2,.int .i64 y2,.int .i64 z2,.int .i64 p2,.int .i64 s2] 27)).alloc (.cells #[.int .i64 0,.int .i64 0,.int .i64 0,.int .i64 0,.int .i64 0] 27)) w1):=hb1
   obtain ⟨hc,hf⟩:=bcell HB1.out
   clear hb1 hfar
   go_wp2_with fail
   refine (hflat _).mono ?_
   rintro e w2 ⟨rfl,hb2⟩
   have HB2:Hid (Below (((w.alloc (.cells #[.int .i64 x1,.int .i64 y1,.int .i64 z1,.int .i64 p1,.int .i64 s1] 27)).alloc (.cells #[.int .i64 x2,.int .i64 y2,.int .i64 z2,.int .i64 p2,.int .i64 s2] 27)).alloc (.cells #[.int .i64 0,.int .i64 0,.int .i64 0,.int .i64 0,.int .i64 0] 27)).heap.size (((w.alloc (.cells #[.int .i64 x1,.int .i64 y1,.int .i64 z1,.int .i64 p1,.int .i64 s1] 27)).alloc (.cells #[.int .i64 x2,.int .i64 y2,.int .i64 z2,.int .i64 p2,.int .i64 s2] 27)).alloc (.cells #[.int .i64 0,.int .i64 0,.int .i64 0,.int .i64 0,.int .i64 0] 27)) w2):=HB1.out.trans (hb2.mono HB1.out.size)
   clear hc hf hb2 HB1 hflat
   obtain ⟨hc,hf⟩:=bcell HB2.out
   have hz2:w.heap.size+1+1 < w2.heap.size:=by have:=HB2.out.size;simp at this;omega
   have hza:w.heap.size < w2.heap.size:=by omega
   have hsure:∀ ob,(w2.alloc ob).cell? ⟨w.heap.size,4,none⟩=some (.int .i64 s1):=fun ob=>by
    rw [cell_under hza,hc _ _ (by simp;omega)]
    rw [cell_under (by simp;omega),cell_under (by simp),cell_top rfl]
    rfl
   have ha0:∀ ob,(w2.alloc ob).cell? ⟨w.heap.size,0,none⟩=some (.int .i64 x1):=fun ob=>by
    rw [cell_under hza,hc _ _ (by simp;omega)]
    rw [cell_under (by simp;omega),cell_under (by simp),cell_top rfl]
    rfl
   have ha1:∀ ob,(w2.alloc ob).cell? ⟨w.heap.size,1,none⟩=some (.int .i64 y1):=fun ob=>by
    rw [cell_under hza,hc _ _ (by simp;omega)]
    rw [cell_under (by simp;omega),cell_under (by simp),cell_top rfl]
    rfl
   have ha2:∀ ob,(w2.alloc ob).cell? ⟨w.heap.size,2,none⟩=some (.int .i64 z1):=fun ob=>by
    rw [cell_under hza,hc _ _ (by simp;omega)]
    rw [cell_under (by simp;omega),cell_under (by simp),cell_top rfl]
    rfl
   have hzb:w.heap.size+1 < w2.heap.size:=by omega
   have hb0:∀ ob,(w2.alloc ob).cell? ⟨w.heap.size+1,0,none⟩=some (.int .i64 x2):=fun ob=>by
    rw [cell_under hzb,hc _ _ (by simp)]
    rw [cell_under (by simp),cell_top (by simp)]
    rfl
   have hb1:∀ ob,(w2.alloc ob).cell? ⟨w.heap.size+1,1,none⟩=some (.int .i64 y2):=fun ob=>by
    rw [cell_under hzb,hc _ _ (by simp)]
    rw [cell_under (by simp),cell_top (by simp)]
    rfl
   have hb2:∀ ob,(w2.alloc ob).cell? ⟨w.heap.size+1,2,none⟩=some (.int .i64 z2):=fun ob=>by
    rw [cell_under hzb,hc _ _ (by simp)]
    rw [cell_under (by simp),cell_top (by simp)]
    rfl
   go_wp2_with fail
   go_region
   go_wp2_with fail
   go_region
   go_wp2_with fail
   go_region
   go_wp2_with fail
   refine (bound_any _ _ _ _ (by omega)).mono ?_
   rintro e w' ⟨rfl,rfl⟩
   first | rw [HEP.out (by omega)] | rw [HEN.out hl]
   go_wp2_with fail
   go_region_held3 (fun w'=>w'.cell? ⟨w2.heap.size,0,none⟩=some (.int .i64 (x1+(((round - f) * (s1 * 1000 / (s1+s2))).tdiv 4000 * (x1 - x2)).tdiv D))∧w'.cell? ⟨w2.heap.size,1,none⟩=some (.int .i64 (y1+(((round - f) * (s1 * 1000 / (s1+s2))).tdiv 4000 * (y1 - y2)).tdiv D))∧w'.cell? ⟨w2.heap.size,2,none⟩=some (.int .i64 (z1+(((round - f) * (s1 * 1000 / (s1+s2))).tdiv 4000 * (z1 - z2)).tdiv D))∧w'.cell? ⟨w2.heap.size,3,none⟩=some (.int .i64 (p1+(((round - f) * (s1 * 1000 / (s1+s2))).tdiv 4000).tdiv 10))∧w'.cell? ⟨w2.heap.size,4,none⟩=some (.int .i64 (s1+((E - s1) * (s1 * 1000 / (s1+s2))).tdiv 4000))) (first | (with_reducible refine ⟨keep_top4 ?_ ?_,keep_top4 ?_ ?_,keep_top4 ?_ ?_,keep_top4 ?_ ?_,keep_top4 ?_ ?_⟩<;>first | rfl | simp) | go_keep) (first | (go_at_call 134;refine (bound_any _ _ _ _ (by omega)).mono ?_;rintro e w' ⟨rfl,rfl⟩))
   go_wp2_with fail
   exact bodyPost_ret (v:=.agg #[.int .i64 (clampI (x1+(((round - f) * (s1 * 1000 / (s1+s2))).tdiv 4000 * (x1 - x2)).tdiv D) (-10000000) 10000000),.int .i64 (clampI (y1+(((round - f) * (s1 * 1000 / (s1+s2))).tdiv 4000 * (y1 - y2)).tdiv D) (-10000000) 10000000),.int .i64 (clampI (z1+(((round - f) * (s1 * 1000 / (s1+s2))).tdiv 4000 * (z1 - z2)).tdiv D) (-10000000) 10000000),.int .i64 (clampI (p1+(((round - f) * (s1 * 1000 / (s1+s2))).tdiv 4000).tdiv 10) 0 1000000),.int .i64 (clampI (s1+((E - s1) * (s1 * 1000 / (s1+s2))).tdiv 4000) 0 1000)]) (by simp [results,Tryz.results82,go_sem,hc,hz2]) rfl ⟨by rw [HM.out];rfl,((((((((((Below.refl _ _).alloc (Nat.le_refl _) _).alloc (by simp) _).alloc (by simp;omega) _).trans (HB2.out.mono (by simp;omega))).setCell (by simp;omega) _).setCell (by simp;omega) _).setCell (by simp;omega) _).setCell (by simp;omega) _).setCell (by simp;omega) _).alloc (by simp;omega) _ |>.drew |>.drew |>.drew |>.drew⟩
end Go.Proofs.YtikgjgmgbfjcgaaGreat
