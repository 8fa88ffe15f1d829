import Derived.Test.YtffdoiokmiklgaaGreatDoorW15
import Derived.Test.YtffdoiokmiklgaaGreatDoorW28
import Derived.Lib.QuietBelow
import Derived.Test.YtffdoiokmiklgaaGreatDoorW19
import Derived.Laws.EntriesVeiled
import Derived.Test.YtffdoiokmiklgaaGreatDoorW17
import Derived.Lib.ItoaNum
namespace Go.Proofs.YtffdoiokmiklgaaGreatDoor
open Go.RowKit Go.WideMaps Go.Maps
theorem chkR_zero {rs:List Rum} (h:chkR rs=0):rs.length≤20∧(∀ j,j < rs.length→(rs.getD j dr).m.e=0)∧AllTold rs∧Distinct rs:=by
 unfold chkR at h
 by_cases h1:20 < rs.length
 ·rw [if_pos h1] at h;omega
 rw [if_neg h1] at h
 by_cases h2:firstE (rmems rs)=0
 ·rw [if_pos h2] at h
  by_cases h3:AllTold rs
  ·rw [if_pos h3] at h
   by_cases h4:Distinct rs
   ·refine ⟨by omega,fun j hj=>?_,h3,h4⟩
    have:=firstE_at0 h2 j (by rw [rmems_len];exact hj)
    rwa [rmems_get] at this
   ·rw [if_neg h4] at h;omega
  ·rw [if_neg h3] at h;omega
 ·rw [if_neg h2] at h;exact absurd h h2
theorem newE_zero {a b:Mem} (ha:a.e=0) (hb:b.e=0) (hn:a.name=b.name):newE a b=0:=by
 have h:chkTwo [a] [b]=0:=by rw [chkTwo,chk_oneR,chk_oneR];simp [ha,hb]
 rw [newE,if_pos h,if_pos hn]
set_option maxHeartbeats 3200000 in
set_option maxRecDepth 100000 in
theorem put_full (rs:List Rum) (v:Value) (m:Mem) (w:World) (hv:RSl w v rs) (hm:m.name.size≤maxLen) (h0:chkR rs=0) (he:m.e=0) (hno:NotIn rs m.name) (hl:rs.length=20) :
 Calls Tryz.prog 195 #[v,.agg #[.string m.name,.int .i64 m.state,.int .i64 m.life,.int .i64 m.addr,.bool m.server]] w fun e w'=>e=.returned (.tuple #[.slice none 0 0,.int .i64 2])∧Below w.heap.size w w':=by
 obtain ⟨i0,hi0,hz0,hzs,hzb⟩:=info_parts Tryz.infoR
 have HV:Hid (RSl w v rs):=hv
 have hchk:=fun (w:World) (h:RSl w v rs)=>checkR_any rs v w h
 rw [h0] at hchk
 have hcm:=fun w=>checkMember_any m w hm
 rw [he] at hcm
 have HH:Hid (Maps.has (Dm (rnames rs) rs.length) (kS m.name)=false):=has_not hno
 clear h0 he hv
 obtain ⟨nm,st,lf,ad,sv⟩:=m
 simp only at *
 have hB0:Below w.heap.size w (w.alloc (.cells #[.string nm,.int .i64 st,.int .i64 lf,.int .i64 ad,.bool sv] 56)):=(Below.refl _ _).alloc (Nat.le_refl _) _
 go_enter Tryz.func195,Tryz.ntmps195
 go_wp2_with fail
 refine (hchk _ (HV.out.below hB0)).mono ?_
 rintro e w1 ⟨rfl,hb1⟩
 have c1:∀ o,w1.cell? ⟨w.heap.size,o,none⟩=#[Value.string nm,.int .i64 st,.int .i64 lf,.int .i64 ad,.bool sv][o]?:=fun o=>by
  rw [hb1.cell (p:=⟨w.heap.size,o,none⟩) (by simp)];exact cell_top' rfl
 have HB1:Hid (Below w.heap.size w w1):=hB0.trans (hb1.mono (by simp))
 have hz1:w.heap.size < w1.heap.size:=by have:=hb1.size;simp at this;omega
 clear hb1 hB0 hchk
 go_wp2_with fail
 refine (hcm _).mono ?_
 rintro e w2 ⟨rfl,hb2⟩
 have c2:∀ o,w2.cell? ⟨w.heap.size,o,none⟩=#[Value.string nm,.int .i64 st,.int .i64 lf,.int .i64 ad,.bool sv][o]?:=fun o=>by
  rw [hb2.cell (p:=⟨w.heap.size,o,none⟩) (by simp only;omega)];exact c1 o
 have HB2:Hid (Below w.heap.size w w2):=HB1.out.trans (hb2.mono HB1.out.size)
 have hz2:w.heap.size < w2.heap.size:=by have:=hb2.size;omega
 clear hb2 c1 hz1 HB1 hcm
 go_wp2_with fail
 refine (rclone_any rs v _ (HV.out.below HB2.out) (by omega)).mono ?_
 rintro e w3 ⟨v3,rfl,ho3,hb3⟩
 have HO3:Hid (ROwn w2.heap.size w3 v3 rs):=ho3
 have c3:w3.cell? ⟨w.heap.size,0,none⟩=some (.string nm):=by
  rw [hb3.cell (p:=⟨w.heap.size,0,none⟩) (by simp only;omega)];exact c2 0
 have C3:Hid (∀ o,w3.cell? ⟨w.heap.size,o,none⟩=#[Value.string nm,.int .i64 st,.int .i64 lf,.int .i64 ad,.bool sv][o]?):=fun o=>by
  rw [hb3.cell (p:=⟨w.heap.size,o,none⟩) (by simp only;omega)];exact c2 o
 have HB3:Hid (Below w.heap.size w w3):=HB2.out.trans (hb3.mono HB2.out.size)
 have hz3:w.heap.size < w3.heap.size:=by have:=hb3.size;omega
 have hz23:w2.heap.size≤w3.heap.size:=hb3.size
 clear hb3 ho3 c2
 go_wp2_with fail
 go_region_held3 (fun w'=>w'.cell? ⟨w.heap.size,0,none⟩=some (.string nm)) (first | assumption | go_keep) (first | (go_at_call 181;refine (met_any rs v _ ((HV.out.below HB3.out).below (Below.refl _ _).drew) (by omega)).mono ?_;rintro e w4 ⟨rfl,hown,hb4⟩;obtain ⟨cq,hrun,hat⟩:=look_any hown hm;rw [HH.out] at hrun;have hr2:(Instr.lookup 131 (.map (some w3.heap.size)) (.string nm) true).run Tryz.prog w4=.ok (.tuple #[.int .i64 cq,.bool false]) w4:=hrun;clear hrun hat hown;have HB4:Hid (Below w3.heap.size w3 w4):=(Below.refl w3.heap.size w3).drew.trans hb4;have hS:w4.cell? ⟨w.heap.size,0,none⟩=some (.string nm):=((hb4.cell (p:=⟨w.heap.size,0,none⟩) hz3).trans c3);clear hb4))
 obtain ⟨a3,ca3,hv3⟩:=HO3.out.slice
 subst hv3
 have HB5:Hid (Below w.heap.size w w4):=HB3.out.trans (HB4.out.mono HB3.out.size)
 clear HO3 C3 HB4 HB3 c3 hr2
 rw [hl]
 go_wp2_with fail
 go_ret2
 exact ⟨rfl,HB5.out⟩
set_option maxHeartbeats 1600000 in
set_option maxRecDepth 100000 in
theorem put_old (rs:List Rum) (v:Value) (m:Mem) (w:World) (hv:RSl w v rs) (hm:m.name.size≤maxLen) (h0:chkR rs=0) (he:m.e=0) (p:Nat) (hp:p < rs.length) (hpn:(rs.getD p dr).m.name=m.name) (HNEW:newM m (rs.getD p dr).m=false) :
 Calls Tryz.prog 195 #[v,.agg #[.string m.name,.int .i64 m.state,.int .i64 m.life,.int .i64 m.addr,.bool m.server]] w fun e w'=>∃ v',e=.returned (.tuple #[v',.int .i64 0])∧ROwn w.heap.size w' v' rs∧Below w.heap.size w w':=by
 obtain ⟨i0,hi0,hz0,hzs,hzb⟩:=info_parts Tryz.infoR
 have HV:Hid (RSl w v rs):=hv
 have hchk:=fun (w:World) (h:RSl w v rs)=>checkR_any rs v w h
 rw [h0] at hchk
 have hcm:=fun w=>checkMember_any m w hm
 rw [he] at hcm
 have HH:Hid (Maps.has (Dm (rnames rs) rs.length) (kS m.name)=true):=(Dm_has _ _ _).2 ⟨p,hp,by rw [rnames_get];exact hpn⟩
 have HAT:Hid ((Dm (rnames rs) rs.length).atKey (kS m.name) (.lit (.int .i64 0))=.lit (.int .i64 p)):=Dm_at _ _ _ _ p hp (by rw [rnames_get];exact hpn) (fun i hi hk=>by rw [rnames_get,← hpn];exact fun e=>(chkR_zero h0).2.2.2 p i hi hk e.symm)
 have hn20:rs.length≤20:=(chkR_zero h0).1
 have HEP:Hid ((rs.getD p dr).m.e=0):=(chkR_zero h0).2.1 p hp
 have hnp:(rs.getD p dr).m.name.size≤maxLen:=by obtain ⟨_,_,_,h,_⟩:=hv;exact h p
 have HN0:Hid (newE m (rs.getD p dr).m=0):=newE_zero he HEP.out hpn.symm
 clear h0 he hv HEP
 obtain ⟨nm,st,lf,ad,sv⟩:=m
 simp only at *
 have hB0:Below w.heap.size w (w.alloc (.cells #[.string nm,.int .i64 st,.int .i64 lf,.int .i64 ad,.bool sv] 56)):=(Below.refl _ _).alloc (Nat.le_refl _) _
 go_enter Tryz.func195,Tryz.ntmps195
 go_wp2_with fail
 refine (hchk _ (HV.out.below hB0)).mono ?_
 rintro e w1 ⟨rfl,hb1⟩
 have c1:∀ o,w1.cell? ⟨w.heap.size,o,none⟩=#[Value.string nm,.int .i64 st,.int .i64 lf,.int .i64 ad,.bool sv][o]?:=fun o=>by
  rw [hb1.cell (p:=⟨w.heap.size,o,none⟩) (by simp)];exact cell_top' rfl
 have HB1:Hid (Below w.heap.size w w1):=hB0.trans (hb1.mono (by simp))
 have hz1:w.heap.size < w1.heap.size:=by have:=hb1.size;simp at this;omega
 clear hb1 hB0 hchk
 go_wp2_with fail
 refine (hcm _).mono ?_
 rintro e w2 ⟨rfl,hb2⟩
 have c2:∀ o,w2.cell? ⟨w.heap.size,o,none⟩=#[Value.string nm,.int .i64 st,.int .i64 lf,.int .i64 ad,.bool sv][o]?:=fun o=>by
  rw [hb2.cell (p:=⟨w.heap.size,o,none⟩) (by simp only;omega)];exact c1 o
 have HB2:Hid (Below w.heap.size w w2):=HB1.out.trans (hb2.mono HB1.out.size)
 have hz2:w.heap.size < w2.heap.size:=by have:=hb2.size;omega
 clear hb2 c1 hz1 HB1 hcm
 go_wp2_with fail
 refine (rclone_any rs v _ (HV.out.below HB2.out) (by omega)).mono ?_
 rintro e w3 ⟨v3,rfl,ho3,hb3⟩
 have HO3:Hid (ROwn w2.heap.size w3 v3 rs):=ho3
 have c3:w3.cell? ⟨w.heap.size,0,none⟩=some (.string nm):=by
  rw [hb3.cell (p:=⟨w.heap.size,0,none⟩) (by simp only;omega)];exact c2 0
 have C3:Hid (∀ o,w3.cell? ⟨w.heap.size,o,none⟩=#[Value.string nm,.int .i64 st,.int .i64 lf,.int .i64 ad,.bool sv][o]?):=fun o=>by
  rw [hb3.cell (p:=⟨w.heap.size,o,none⟩) (by simp only;omega)];exact c2 o
 have HB3:Hid (Below w.heap.size w w3):=HB2.out.trans (hb3.mono HB2.out.size)
 have hz3:w.heap.size < w3.heap.size:=by have:=hb3.size;omega
 have hz23:w2.heap.size≤w3.heap.size:=hb3.size
 clear hb3 ho3 c2
 go_wp2_with fail
 go_region_held3 (fun w'=>w'.cell? ⟨w.heap.size,0,none⟩=some (.string nm)) (first | assumption | go_keep) (first | (go_at_call 181;refine (met_any rs v _ ((HV.out.below HB3.out).below (Below.refl _ _).drew) (by omega)).mono ?_;rintro e w4 ⟨rfl,hown,hb4⟩;obtain ⟨cq,hrun,hat⟩:=look_any hown hm;rw [HH.out] at hrun;rw [HAT.out] at hat;have hcq:cq=p:=(by simp at hat;exact hat.symm);subst hcq;have hr2:(Instr.lookup 131 (.map (some w3.heap.size)) (.string nm) true).run Tryz.prog w4=.ok (.tuple #[.int .i64 p,.bool true]) w4:=hrun;clear hrun hat hown;have HB4:Hid (Below w3.heap.size w3 w4):=(Below.refl w3.heap.size w3).drew.trans hb4;have hS:w4.cell? ⟨w.heap.size,0,none⟩=some (.string nm):=((hb4.cell (p:=⟨w.heap.size,0,none⟩) hz3).trans c3);clear hb4))
 obtain ⟨a3,ca3,hv3⟩:=HO3.out.slice
 subst hv3
 have C4:∀ o,w4.cell? ⟨w.heap.size,o,none⟩=#[Value.string nm,.int .i64 st,.int .i64 lf,.int .i64 ad,.bool sv][o]?:=fun o=>by
  rw [HB4.out.cell (p:=⟨w.heap.size,o,none⟩) hz3];exact C3.out o
 have HO4:Hid (ROwn w2.heap.size w4 (.slice a3 rs.length ca3) rs):=HO3.out.below HB4.out
 have HB5:Hid (Below w.heap.size w w4):=HB3.out.trans (HB4.out.mono HB3.out.size)
 have hz5:w2.heap.size≤w4.heap.size:=by have:=HB4.out.size;omega
 have HV4:Hid (RSl w4 v rs):=HV.out.below HB5.out
 clear HO3 C3 HB4 HB3 c3 hr2 HV
 obtain ⟨pa,ca,hvv,_,hrow⟩:=HV4.out
 subst hvv
 obtain ⟨b,off,hpa,hlb,hr⟩:∃ b off,pa=some ⟨b,off,none⟩∧b < w4.heap.size∧RRow w4 b off rs:=by
  rcases hrow with h | h
  ·rw [h] at hp;simp at hp
  ·exact h
 subst hpa
 obtain ⟨e0,e1,e2,e3,e4,e5⟩:=hr p hp
 have hN:=fun w=>newer2_any ⟨nm,st,lf,ad,sv⟩ (rs.getD p dr).m w hm hnp
 rw [HN0.out,HNEW] at hN
 simp only [beq_self_eq_true,Bool.true_and] at hN
 clear hrow hr HV4
 generalize (rs.getD p dr)=rp at *
 obtain ⟨⟨yn,ys,yl,ya,yv⟩,ytd⟩:=rp
 simp only at e0 e1 e2 e3 e4 e5 hN hpn
 have hpn2:=hpn.symm
 clear hpn
 subst hpn2
 generalize hN':rs.length=n at *
 have HN:Hid (rs.length=n):=hN'
 clear hN'
 go_wp2_with fail
 have E0:∀ d os,(Go.Sort.grow (redrawn w4 d) os).cell? ⟨w.heap.size,0,none⟩=some (.string nm):=cell_regrown (C4 0)
 have E1:∀ d os,(Go.Sort.grow (redrawn w4 d) os).cell? ⟨w.heap.size,1,none⟩=some (.int .i64 st):=cell_regrown (C4 1)
 have E2:∀ d os,(Go.Sort.grow (redrawn w4 d) os).cell? ⟨w.heap.size,2,none⟩=some (.int .i64 lf):=cell_regrown (C4 2)
 have E3:∀ d os,(Go.Sort.grow (redrawn w4 d) os).cell? ⟨w.heap.size,3,none⟩=some (.int .i64 ad):=cell_regrown (C4 3)
 have E4:∀ d os,(Go.Sort.grow (redrawn w4 d) os).cell? ⟨w.heap.size,4,none⟩=some (.bool sv):=cell_regrown (C4 4)
 have F0:∀ d os,(Go.Sort.grow (redrawn w4 d) os).cell? ⟨b,off+p * 6,none⟩=some (.string nm):=cell_regrown e0
 have F1:∀ d os,(Go.Sort.grow (redrawn w4 d) os).cell? ⟨b,off+p * 6+1,none⟩=some (.int .i64 ys):=cell_regrown e1
 have F2:∀ d os,(Go.Sort.grow (redrawn w4 d) os).cell? ⟨b,off+p * 6+2,none⟩=some (.int .i64 yl):=cell_regrown e2
 have F3:∀ d os,(Go.Sort.grow (redrawn w4 d) os).cell? ⟨b,off+p * 6+3,none⟩=some (.int .i64 ya):=cell_regrown e3
 have F4:∀ d os,(Go.Sort.grow (redrawn w4 d) os).cell? ⟨b,off+p * 6+4,none⟩=some (.bool yv):=cell_regrown e4
 have cN:∀ d os,Calls Tryz.prog 190 #[.agg #[.string nm,.int .i64 st,.int .i64 lf,.int .i64 ad,.bool sv],.agg #[.string nm,.int .i64 ys,.int .i64 yl,.int .i64 ya,.bool yv]] (Go.Sort.grow (redrawn w4 d) os) fun e w''=>e=.returned (.tuple #[.bool false,.int .i64 0])∧∃ p:Regrown,w''=Go.Sort.grow (redrawn w4 p.d) p.os:=fun d os=>
  Calls.regrown_of ((hN _).mono (by rintro e w' ⟨rfl,hb⟩;exact ⟨rfl,hb⟩))
 clear e0 e1 e2 e3 e4 e5 hN
 refine wp_region_quiet_below (by kernel_rfl) (by kernel_rfl) ?_
 repeat (quiet_step (exact cN _ _))
 refine wpQuiet_nil ?_
 intro _ hw'
 obtain ⟨⟨dq,osq⟩,hw''⟩:=hw'
 subst hw''
 have HBQ:Hid (Below w4.heap.size w4 (Go.Sort.grow (redrawn w4 dq) osq)):=below_regrown w4 dq osq
 clear cN E0 E1 E2 E3 E4 F0 F1 F2 F3 F4
 have HO6:Hid (ROwn w.heap.size (Go.Sort.grow (redrawn w4 dq) osq) (.slice a3 n ca3) rs):=(HO4.out.below HBQ.out).base (by omega)
 have HB6:Hid (Below w.heap.size w (Go.Sort.grow (redrawn w4 dq) osq)):=HB5.out.trans (HBQ.out.mono HB5.out.size)
 clear HO4 HBQ
 go_wp2_with fail
 go_ret2
 exact ⟨_,rfl,HO6.out,HB6.out⟩
set_option maxHeartbeats 3200000 in
set_option maxRecDepth 100000 in
theorem put_newer (rs:List Rum) (v:Value) (m:Mem) (w:World) (hv:RSl w v rs) (hm:m.name.size≤maxLen) (h0:chkR rs=0) (he:m.e=0) (p:Nat) (hp:p < rs.length) (hpn:(rs.getD p dr).m.name=m.name) (HNEW:newM m (rs.getD p dr).m=true) :
 Calls Tryz.prog 195 #[v,.agg #[.string m.name,.int .i64 m.state,.int .i64 m.life,.int .i64 m.addr,.bool m.server]] w fun e w'=>∃ v',e=.returned (.tuple #[v',.int .i64 0])∧ROwn w.heap.size w' v' (rs.eraseIdx p++[⟨m,0⟩])∧Below w.heap.size w w':=by
 obtain ⟨i0,hi0,hz0,hzs,hzb⟩:=info_parts Tryz.infoR
 have HV:Hid (RSl w v rs):=hv
 have hchk:=fun (w:World) (h:RSl w v rs)=>checkR_any rs v w h
 rw [h0] at hchk
 have hcm:=fun w=>checkMember_any m w hm
 rw [he] at hcm
 have HH:Hid (Maps.has (Dm (rnames rs) rs.length) (kS m.name)=true):=(Dm_has _ _ _).2 ⟨p,hp,by rw [rnames_get];exact hpn⟩
 have HAT:Hid ((Dm (rnames rs) rs.length).atKey (kS m.name) (.lit (.int .i64 0))=.lit (.int .i64 p)):=Dm_at _ _ _ _ p hp (by rw [rnames_get];exact hpn) (fun i hi hk=>by rw [rnames_get,← hpn];exact fun e=>(chkR_zero h0).2.2.2 p i hi hk e.symm)
 have hn20:rs.length≤20:=(chkR_zero h0).1
 have HEP:Hid ((rs.getD p dr).m.e=0):=(chkR_zero h0).2.1 p hp
 have hnp:(rs.getD p dr).m.name.size≤maxLen:=by obtain ⟨_,_,_,h,_⟩:=hv;exact h p
 have HN0:Hid (newE m (rs.getD p dr).m=0):=newE_zero he HEP.out hpn.symm
 clear h0 he hv HEP
 obtain ⟨nm,st,lf,ad,sv⟩:=m
 simp only at *
 have hB0:Below w.heap.size w (w.alloc (.cells #[.string nm,.int .i64 st,.int .i64 lf,.int .i64 ad,.bool sv] 56)):=(Below.refl _ _).alloc (Nat.le_refl _) _
 go_enter Tryz.func195,Tryz.ntmps195
 go_wp2_with fail
 refine (hchk _ (HV.out.below hB0)).mono ?_
 rintro e w1 ⟨rfl,hb1⟩
 have c1:∀ o,w1.cell? ⟨w.heap.size,o,none⟩=#[Value.string nm,.int .i64 st,.int .i64 lf,.int .i64 ad,.bool sv][o]?:=fun o=>by
  rw [hb1.cell (p:=⟨w.heap.size,o,none⟩) (by simp)];exact cell_top' rfl
 have HB1:Hid (Below w.heap.size w w1):=hB0.trans (hb1.mono (by simp))
 have hz1:w.heap.size < w1.heap.size:=by have:=hb1.size;simp at this;omega
 clear hb1 hB0 hchk
 go_wp2_with fail
 refine (hcm _).mono ?_
 rintro e w2 ⟨rfl,hb2⟩
 have c2:∀ o,w2.cell? ⟨w.heap.size,o,none⟩=#[Value.string nm,.int .i64 st,.int .i64 lf,.int .i64 ad,.bool sv][o]?:=fun o=>by
  rw [hb2.cell (p:=⟨w.heap.size,o,none⟩) (by simp only;omega)];exact c1 o
 have HB2:Hid (Below w.heap.size w w2):=HB1.out.trans (hb2.mono HB1.out.size)
 have hz2:w.heap.size < w2.heap.size:=by have:=hb2.size;omega
 clear hb2 c1 hz1 HB1 hcm
 go_wp2_with fail
 refine (rclone_any rs v _ (HV.out.below HB2.out) (by omega)).mono ?_
 rintro e w3 ⟨v3,rfl,ho3,hb3⟩
 have HO3:Hid (ROwn w2.heap.size w3 v3 rs):=ho3
 have c3:w3.cell? ⟨w.heap.size,0,none⟩=some (.string nm):=by
  rw [hb3.cell (p:=⟨w.heap.size,0,none⟩) (by simp only;omega)];exact c2 0
 have C3:Hid (∀ o,w3.cell? ⟨w.heap.size,o,none⟩=#[Value.string nm,.int .i64 st,.int .i64 lf,.int .i64 ad,.bool sv][o]?):=fun o=>by
  rw [hb3.cell (p:=⟨w.heap.size,o,none⟩) (by simp only;omega)];exact c2 o
 have HB3:Hid (Below w.heap.size w w3):=HB2.out.trans (hb3.mono HB2.out.size)
 have hz3:w.heap.size < w3.heap.size:=by have:=hb3.size;omega
 have hz23:w2.heap.size≤w3.heap.size:=hb3.size
 clear hb3 ho3 c2
 go_wp2_with fail
 go_region_held3 (fun w'=>w'.cell? ⟨w.heap.size,0,none⟩=some (.string nm)) (first | assumption | go_keep) (first | (go_at_call 181;refine (met_any rs v _ ((HV.out.below HB3.out).below (Below.refl _ _).drew) (by omega)).mono ?_;rintro e w4 ⟨rfl,hown,hb4⟩;obtain ⟨cq,hrun,hat⟩:=look_any hown hm;rw [HH.out] at hrun;rw [HAT.out] at hat;have hcq:cq=p:=(by simp at hat;exact hat.symm);subst hcq;have hr2:(Instr.lookup 131 (.map (some w3.heap.size)) (.string nm) true).run Tryz.prog w4=.ok (.tuple #[.int .i64 p,.bool true]) w4:=hrun;clear hrun hat hown;have HB4:Hid (Below w3.heap.size w3 w4):=(Below.refl w3.heap.size w3).drew.trans hb4;have hS:w4.cell? ⟨w.heap.size,0,none⟩=some (.string nm):=((hb4.cell (p:=⟨w.heap.size,0,none⟩) hz3).trans c3);clear hb4))
 obtain ⟨a3,ca3,hv3⟩:=HO3.out.slice
 subst hv3
 have C4:∀ o,w4.cell? ⟨w.heap.size,o,none⟩=#[Value.string nm,.int .i64 st,.int .i64 lf,.int .i64 ad,.bool sv][o]?:=fun o=>by
  rw [HB4.out.cell (p:=⟨w.heap.size,o,none⟩) hz3];exact C3.out o
 have HO4:Hid (ROwn w2.heap.size w4 (.slice a3 rs.length ca3) rs):=HO3.out.below HB4.out
 have HB5:Hid (Below w.heap.size w w4):=HB3.out.trans (HB4.out.mono HB3.out.size)
 have hz5:w2.heap.size≤w4.heap.size:=by have:=HB4.out.size;omega
 have HV4:Hid (RSl w4 v rs):=HV.out.below HB5.out
 clear HO3 C3 HB4 HB3 c3 hr2 HV
 obtain ⟨pa,ca,hvv,_,hrow⟩:=HV4.out
 subst hvv
 obtain ⟨b,off,hpa,hlb,hr⟩:∃ b off,pa=some ⟨b,off,none⟩∧b < w4.heap.size∧RRow w4 b off rs:=by
  rcases hrow with h | h
  ·rw [h] at hp;simp at hp
  ·exact h
 subst hpa
 obtain ⟨e0,e1,e2,e3,e4,e5⟩:=hr p hp
 have hN:=fun w=>newer2_any ⟨nm,st,lf,ad,sv⟩ (rs.getD p dr).m w hm hnp
 rw [HN0.out,HNEW] at hN
 simp only [beq_self_eq_true,Bool.true_and] at hN
 clear hrow hr HV4
 generalize (rs.getD p dr)=rp at *
 obtain ⟨⟨yn,ys,yl,ya,yv⟩,ytd⟩:=rp
 simp only at e0 e1 e2 e3 e4 e5 hN hpn
 have hpn2:=hpn.symm
 clear hpn
 subst hpn2
 generalize hN':rs.length=n at *
 have HN:Hid (rs.length=n):=hN'
 clear hN'
 go_wp2_with fail
 have E0:∀ d os,(Go.Sort.grow (redrawn w4 d) os).cell? ⟨w.heap.size,0,none⟩=some (.string nm):=cell_regrown (C4 0)
 have E1:∀ d os,(Go.Sort.grow (redrawn w4 d) os).cell? ⟨w.heap.size,1,none⟩=some (.int .i64 st):=cell_regrown (C4 1)
 have E2:∀ d os,(Go.Sort.grow (redrawn w4 d) os).cell? ⟨w.heap.size,2,none⟩=some (.int .i64 lf):=cell_regrown (C4 2)
 have E3:∀ d os,(Go.Sort.grow (redrawn w4 d) os).cell? ⟨w.heap.size,3,none⟩=some (.int .i64 ad):=cell_regrown (C4 3)
 have E4:∀ d os,(Go.Sort.grow (redrawn w4 d) os).cell? ⟨w.heap.size,4,none⟩=some (.bool sv):=cell_regrown (C4 4)
 have F0:∀ d os,(Go.Sort.grow (redrawn w4 d) os).cell? ⟨b,off+p * 6,none⟩=some (.string nm):=cell_regrown e0
 have F1:∀ d os,(Go.Sort.grow (redrawn w4 d) os).cell? ⟨b,off+p * 6+1,none⟩=some (.int .i64 ys):=cell_regrown e1
 have F2:∀ d os,(Go.Sort.grow (redrawn w4 d) os).cell? ⟨b,off+p * 6+2,none⟩=some (.int .i64 yl):=cell_regrown e2
 have F3:∀ d os,(Go.Sort.grow (redrawn w4 d) os).cell? ⟨b,off+p * 6+3,none⟩=some (.int .i64 ya):=cell_regrown e3
 have F4:∀ d os,(Go.Sort.grow (redrawn w4 d) os).cell? ⟨b,off+p * 6+4,none⟩=some (.bool yv):=cell_regrown e4
 have cN:∀ d os,Calls Tryz.prog 190 #[.agg #[.string nm,.int .i64 st,.int .i64 lf,.int .i64 ad,.bool sv],.agg #[.string nm,.int .i64 ys,.int .i64 yl,.int .i64 ya,.bool yv]] (Go.Sort.grow (redrawn w4 d) os) fun e w''=>e=.returned (.tuple #[.bool true,.int .i64 0])∧∃ p:Regrown,w''=Go.Sort.grow (redrawn w4 p.d) p.os:=fun d os=>
  Calls.regrown_of ((hN _).mono (by rintro e w' ⟨rfl,hb⟩;exact ⟨rfl,hb⟩))
 clear e0 e1 e2 e3 e4 e5 hN
 refine wp_region_quiet_below (by kernel_rfl) (by kernel_rfl) ?_
 repeat (quiet_step (exact cN _ _))
 refine wpQuiet_nil ?_
 intro _ hw'
 obtain ⟨⟨dq,osq⟩,hw''⟩:=hw'
 subst hw''
 have HBQ:Hid (Below w4.heap.size w4 (Go.Sort.grow (redrawn w4 dq) osq)):=below_regrown w4 dq osq
 clear cN E0 E1 E2 E3 E4 F0 F1 F2 F3 F4
 have HN1:Hid (rs.length=n):=HN
 obtain ⟨g,c,ha3,hc3⟩:∃ g c,a3=some ⟨g,0,none⟩∧ca3=c:=by
  rcases HO4.out.2 with ⟨_,h0⟩ | ⟨g,c,cur,h,_⟩
  ·have:=HN.out;omega
  ·simp only [Value.slice.injEq] at h
   exact ⟨g,c,h.1,h.2.2⟩
 subst ha3
 subst hc3
 have HO6:Hid (ROwn w2.heap.size (Go.Sort.grow (redrawn w4 dq) osq) (.slice (some ⟨g,0,none⟩) n ca3) rs):=HO4.out.below HBQ.out
 have HB6:Hid (Below w.heap.size w (Go.Sort.grow (redrawn w4 dq) osq)):=HB5.out.trans (HBQ.out.mono HB5.out.size)
 have C6:∀ o,(Go.Sort.grow (redrawn w4 dq) osq).cell? ⟨w.heap.size,o,none⟩=#[Value.string nm,.int .i64 st,.int .i64 lf,.int .i64 ad,.bool sv][o]?:=fun o=>by
  rw [HBQ.out.cell (p:=⟨w.heap.size,o,none⟩) (by simp only;omega)];exact C4 o
 have hz6:w2.heap.size≤(Go.Sort.grow (redrawn w4 dq) osq).heap.size:=by have:=HBQ.out.size;omega
 clear HO4 HBQ C4
 generalize Go.Sort.grow (redrawn w4 dq) osq=w6 at *
 go_wp2_with fail
 refine (delete_any rs n p g ca3 w2.heap.size _ HN.out HO6.out hp (by omega)).mono ?_
 rintro e w7 ⟨rfl,ho7,hb7⟩
 have C7:∀ o,w7.cell? ⟨w.heap.size,o,none⟩=#[Value.string nm,.int .i64 st,.int .i64 lf,.int .i64 ad,.bool sv][o]?:=fun o=>by
  rw [hb7.cell (p:=⟨w.heap.size,o,none⟩) (by simp only;omega)];exact C6 o
 have HB7:Hid (Below w.heap.size w w7):=HB6.out.trans (hb7.mono (by omega))
 have hz7:w2.heap.size≤w7.heap.size:=by have:=hb7.size;omega
 have HLE:Hid ((rs.eraseIdx p).length=n - 1):=(show (rs.eraseIdx p).length=n - 1 by rw [List.length_eraseIdx,if_pos (by rw [HN.out];exact hp),HN.out])
 have HO8:Hid (∀ ob,(w7.alloc ob).ownsRow w2.heap.size 98 6 (.slice (some ⟨g,0,none⟩) (n - 1) ca3) (n - 1) (flR (rs.eraseIdx p))):=fun ob=>by
  have h:=ROwn.below (ms:=rs.eraseIdx p) ho7 ((Below.refl _ _).alloc (Nat.le_refl _) ob)
  have h2:(w7.alloc ob).ownsRow w2.heap.size 98 6 (.slice (some ⟨g,0,none⟩) (n - 1) ca3) (rs.eraseIdx p).length (flR (rs.eraseIdx p)):=h
  rw [HLE.out] at h2
  exact h2
 have HLT:Hid (∀ k,(Value.slice (some ⟨g,0,none⟩) (n - 1) ca3).ownBlock=some k→w.heap.size≤k):=fun k hk=>by have:=(ROwn.lt (ms:=rs.eraseIdx p) ho7 k hk).1;omega
 have HSN:Hid (∀ (w':World) (v':Value),w'.ownsRow w2.heap.size 98 6 v' (n - 1+1) (flR (rs.eraseIdx p)++(Rum.mk ⟨nm,st,lf,ad,sv⟩ 0).cs)→ROwn w.heap.size w' v' (rs.eraseIdx p++[⟨⟨nm,st,lf,ad,sv⟩,0⟩])):=fun w' v' h=>(rown_snoc (by rw [HLE.out];exact h)).base (by omega)
 have hn19:n - 1≤19:=by omega
 clear hb7 ho7 C6 HB6 HO6 HLE
 generalize hn1:n - 1=n1 at *
 clear hn1
 go_wp2_with (at_builtin;refine wpList_append_own _ rfl _ _ 46 rfl w2.heap.size 98 i0 _ 6 56 Tryz.underlying46 hi0 hz0 hzs hzb rfl (by omega) _ n1 (flR (rs.eraseIdx p)) rfl ?hown ⟨w7.heap.size,0,none⟩ 1 1 (Rum.mk ⟨nm,st,lf,ad,sv⟩ 0).cs rfl rfl ?hnews (rcs_one _) ?h63 ?hbytes ?hbase ?_)
 case hown=>exact HO8.out _
 case hnews=>(intro j u hj;rw [Addr.add_lit];exact (cell_top' (by simp)).trans (by simpa [Rum.cs] using hj))
 case h63=>(unfold maxLen;omega)
 case hbytes=>omega
 case hbase=>(simp;omega)
 intro v' w8 r1 r2 r3
 have R1:Hid (ROwn w.heap.size w8 v' (rs.eraseIdx p++[⟨⟨nm,st,lf,ad,sv⟩,0⟩])):=HSN.out w8 v' r1
 have R2:Hid (Below w.heap.size w w8):=(HB7.out.alloc HB7.out.size _).grown r2 (by have:=HB7.out.size;simp;omega) (fun k hk=>HLT.out k hk)
 clear r1 r2 r3
 go_wp2_with fail
 go_ret2
 exact ⟨v',rfl,R1.out,R2.out⟩
set_option maxHeartbeats 800000 in
theorem eqInM (d:Nat) (m:Mem) (w:World):(Op.equalIn (d+1+1) 56 (.agg #[.string m.name,.int .i64 m.state,.int .i64 m.life,.int .i64 m.addr,.bool m.server]) (.agg #[.string m.name,.int .i64 m.state,.int .i64 m.life,.int .i64 m.addr,.bool m.server])).run Tryz.prog w=.ok true w:=by
 obtain ⟨n1,s1,l1,a1,v1⟩:=m
 have u3:=run_underlying Tryz.underlying3
 have a3:=Tryz.isAgg3
 have z3:=Tryz.sizeOf3
 have u4:=run_underlying Tryz.underlying4
 have a4:=Tryz.isAgg4
 have z4:=Tryz.sizeOf4
 have u9:=run_underlying Tryz.underlying9
 have a9:=Tryz.isAgg9
 have z9:=Tryz.sizeOf9
 have hS:Tryz.prog.underlying 56=some (.struct (Tryz.prog.fieldsOf 56)):=by kernel_rfl
 have hp:Tryz.prog.stoodInHeld 56=false:=by kernel_rfl
 rw [run_equalIn_agg w (d+1) 56 _ _ hS hp]
 simp only [Program.fieldsOf,Tryz.underlying56]
 go_simp
set_option maxHeartbeats 800000 in
theorem eqInR (r:Rum) (w:World):(Op.equalIn 10000 98 (.agg #[.string r.m.name,.int .i64 r.m.state,.int .i64 r.m.life,.int .i64 r.m.addr,.bool r.m.server,.int .i64 r.told]) (.agg #[.string r.m.name,.int .i64 r.m.state,.int .i64 r.m.life,.int .i64 r.m.addr,.bool r.m.server,.int .i64 r.told])).run Tryz.prog w=.ok true w:=by
 have hM:=fun w=>eqInM 9997 r.m w
 obtain ⟨⟨n1,s1,l1,a1,v1⟩,t1⟩:=r
 have u3:=run_underlying Tryz.underlying3
 have a3:=Tryz.isAgg3
 have z3:=Tryz.sizeOf3
 have a24:=Tryz.isAgg56
 have z24:=Tryz.sizeOf56
 have hS:Tryz.prog.underlying 98=some (.struct (Tryz.prog.fieldsOf 98)):=by kernel_rfl
 have hp:Tryz.prog.stoodInHeld 98=false:=by kernel_rfl
 simp only at hM
 rw [show (10000:Nat)=9999+1 from rfl,run_equalIn_agg w 9999 98 _ _ hS hp]
 simp only [Program.fieldsOf,Tryz.underlying98]
 go_simp
theorem neqR (r:Rum) (w:World):Sem.run Tryz.prog (binOp .neq 98 (.agg #[.string r.m.name,.int .i64 r.m.state,.int .i64 r.m.life,.int .i64 r.m.addr,.bool r.m.server,.int .i64 r.told]) (.agg #[.string r.m.name,.int .i64 r.m.state,.int .i64 r.m.life,.int .i64 r.m.addr,.bool r.m.server,.int .i64 r.told])) w=.ok (.bool false) w:=by
 rw [run_neq_struct,eqInR]
 rfl
set_option maxHeartbeats 1600000 in
theorem sameR_self (rs:List Rum) (va vb:Value) (w:World) (ha:RSl w va rs) (hb:RSl w vb rs) (hsm:rs.length≤1000) :
 Calls Tryz.prog 77 #[va,vb] w fun e w'=>e=.returned (.bool true)∧Below w.heap.size w w':=by
 obtain ⟨pa,ca,rfl,_,ha⟩:=ha
 obtain ⟨pv,cb,rfl,_,hb⟩:=hb
 have HA:Hid (rs=[]∨∃ b off,pa=some ⟨b,off,none⟩∧b < w.heap.size∧RRow w b off rs):=ha
 have HB:Hid (rs=[]∨∃ b off,pv=some ⟨b,off,none⟩∧b < w.heap.size∧RRow w b off rs):=hb
 clear ha hb
 generalize hna:rs.length=n at *
 have HN:Hid (rs.length=n):=hna
 clear hna
 have hgR:Tryz.prog.eqGuardType Tryz.prog.depth 98=false:=by kernel_rfl
 go_enter Tryz.func77,Tryz.ntmps77
 go_wp2_with fail
 go_loopw [5] (fun i w'=>∃ k:Nat,k≤n∧i=.int .i64 k∧Hid (Below w.heap.size w w')) (fun i _=>n - (intOf i).toNat)
 case atStart=>exact ⟨0,Nat.zero_le _,rfl,Below.refl _ _⟩
 case round=>
  obtain ⟨k,hk,rfl,HBL⟩:=hrel
  by_cases hlt:k < n
  ·obtain ⟨b1,o1,hp1,hl1,hr1⟩:∃ b off,pa=some ⟨b,off,none⟩∧b < w.heap.size∧RRow w b off rs:=by
    rcases HA.out with h | h
    ·have:=HN.out;rw [h] at this;simp at this;omega
    ·exact h
   obtain ⟨b2,o2,hp2,hl2,hr2⟩:∃ b off,pv=some ⟨b,off,none⟩∧b < w.heap.size∧RRow w b off rs:=by
    rcases HB.out with h | h
    ·have:=HN.out;rw [h] at this;simp at this;omega
    ·exact h
   subst hp1
   subst hp2
   obtain ⟨c0,c1,c2,c3,c4,c5⟩:=hr1.below HBL.out hl1 k (by rw [HN.out];exact hlt)
   obtain ⟨d0,d1,d2,d3,d4,d5⟩:=hr2.below HBL.out hl2 k (by rw [HN.out];exact hlt)
   clear hr1 hr2
   have hneq:=neqR (rs.getD k dr)
   generalize rs.getD k dr=rk at *
   obtain ⟨⟨n1,s1,l1,a1,v1⟩,t1⟩:=rk
   simp only at c0 c1 c2 c3 c4 c5 d0 d1 d2 d3 d4 d5 hneq
   go_wp2_with fail
   go_quiet (fail)
   go_wp2_with fail
   go_roundw
   case rel=>exact ⟨k+1,by omega,by go_num,below_drewN HBL.out _⟩
   case measure=>simp [intOf];omega
  ·go_wp2_with fail
   go_ret
   exact ⟨rfl,HBL.out⟩
theorem beq_names (a b:ByteArray):(a.toList == b.toList)=decide (a=b):=by
 by_cases h:a=b
 ·subst h;simp
 ·have h2:¬ a.toList=b.toList:=fun e=>h (ba_ext (by rw [Lib.toList_data,Lib.toList_data] at e;exact e))
  simp [h,h2]
set_option maxHeartbeats 6400000 in
set_option maxRecDepth 100000 in
theorem checkRumors_any (rs:List Rum) (v:Value) (w:World) (hv:RSl w v rs) :
 Calls Tryz.prog 43 #[v] w fun e w'=>e=.returned (.int .i64 (chkR rs))∧Below w.heap.size w w':=by
 obtain ⟨pa,ca,rfl,hsz,ha⟩:=hv
 by_cases hmany:20 < rs.length
 ·have HE:Hid (chkR rs=2):=chkR_many hmany
  go_enter Tryz.func43,Tryz.ntmps43
  go_wp2_with fail
  go_ret
  exact ⟨ret_int HE.out.symm,Below.refl _ _⟩
 have HA:Hid (rs=[]∨∃ b off,pa=some ⟨b,off,none⟩∧b < w.heap.size∧RRow w b off rs):=ha
 have HS:Hid (∀ j,(rs.getD j dr).m.name.size≤maxLen):=hsz
 clear ha hsz
 generalize hN:rs.length=n at *
 have HN:Hid (rs.length=n):=hN
 clear hN
 have hn20:n≤20:=by omega
 go_enter Tryz.func43,Tryz.ntmps43
 go_wp2
 go_loopw [3] (fun i wr=>∃ k:Nat,k≤n∧i=.int .i64 k∧Hid (∀ j,j < k→(rs.getD j dr).m.e=0)∧Hid (Below w.heap.size w wr))
  (fun i _=>n - (intOf i).toNat)
 case atStart=>exact ⟨0,Nat.zero_le _,rfl,fun j hj=>by omega,Below.refl _ _⟩
 case round=>
  obtain ⟨k,hk,rfl,HZ,HB⟩:=hrel
  by_cases hlt:k < n
  ·obtain ⟨b,off,hp,hl,hr⟩:∃ b off,pa=some ⟨b,off,none⟩∧b < w.heap.size∧RRow w b off rs:=by
    rcases HA.out with h | h
    ·have:=HN.out;rw [h] at this;simp at this;omega
    ·exact h
   subst hp
   obtain ⟨c0,c1,c2,c3,c4,c5⟩:=hr.below HB.out hl k (by rw [HN.out];exact hlt)
   have hnm:=HS.out k
   have HX:Hid ((rs.getD k dr).m.e≠0→chkR rs=(rs.getD k dr).m.e):=fun h=>chkR_mem (by rw [HN.out];exact hn20) (by rw [HN.out];exact hlt) HZ.out h
   have HZ2:Hid ((rs.getD k dr).m.e=0→∀ j,j < k+1→(rs.getD j dr).m.e=0):=fun h j hj=>by
    by_cases e:j=k
    ·subst e;exact h
    ·exact HZ.out j (by omega)
   generalize (rs.getD k dr)=rk at *
   obtain ⟨⟨nm,st,lf,ad,sv⟩,td⟩:=rk
   simp only at c0 c1 c2 c3 c4 c5 hnm HX HZ2
   simp only [Mem.e] at HX HZ2
   clear hr HZ
   go_wp2_with fail
   refine (oneMember_any nm st lf ad sv _ hnm).mono ?_
   rintro e w1 ⟨rfl,rfl⟩
   have HB1:Hid (Below w.heap.size w (wr.alloc (.cells #[.string nm,.int .i64 st,.int .i64 lf,.int .i64 ad,.bool sv] 56))):=HB.out.alloc HB.out.size _
   clear c0 c1 c2 c3 c4 c5 HB
   by_cases he:oneE nm st lf ad=0
   ·have he':(oneE nm st lf ad != 0)=false:=by simpa using he
    have HZ3:Hid (∀ j,j < k+1→(rs.getD j dr).m.e=0):=HZ2.out he
    clear HX HZ2 he
    go_wp2_with fail
    go_roundw
    case rel=>exact ⟨k+1,by omega,by go_num,HZ3,HB1⟩
    case measure=>simp [intOf];omega
   ·have he':(oneE nm st lf ad != 0)=true:=by simpa using he
    have HE:Hid (chkR rs=oneE nm st lf ad):=HX.out he
    clear HX HZ2 he
    go_wp2_with fail
    go_ret
    exact ⟨ret_int HE.out.symm,HB1.out⟩
  ·have HZA:Hid (∀ j,j < rs.length→(rs.getD j dr).m.e=0):=fun j hj=>HZ.out j (by rw [HN.out] at hj;omega)
   clear HZ
   go_wp2_with fail
   go_loopw [5] (fun i wr=>∃ k:Nat,k≤n∧i=.int .i64 k∧Hid (∀ j,j < k→within (rs.getD j dr).told 0 100=true)∧Hid (Below w.heap.size w wr))
    (fun i _=>n - (intOf i).toNat)
   case atStart=>exact ⟨0,Nat.zero_le _,rfl,fun j hj=>by omega,HB⟩
   case round=>
    clear HB hlt hk
    obtain ⟨k2,hk,rfl,HZ,HB⟩:=hrel
    by_cases hlt:k2 < n
    ·obtain ⟨b,off,hp,hl,hr⟩:∃ b off,pa=some ⟨b,off,none⟩∧b < w.heap.size∧RRow w b off rs:=by
      rcases HA.out with h | h
      ·have:=HN.out;rw [h] at this;simp at this;omega
      ·exact h
     subst hp
     obtain ⟨c0,c1,c2,c3,c4,c5⟩:=hr.below HB.out hl k2 (by rw [HN.out];exact hlt)
     have HX:Hid (within (rs.getD k2 dr).told 0 100=false→chkR rs=3):=fun h=>chkR_told (by rw [HN.out];exact hn20) HZA.out (by rw [HN.out];exact hlt) h
     have HZ2:Hid (within (rs.getD k2 dr).told 0 100=true→∀ j,j < k2+1→within (rs.getD j dr).told 0 100=true):=fun h j hj=>by
      by_cases e:j=k2
      ·subst e;exact h
      ·exact HZ.out j (by omega)
     generalize (rs.getD k2 dr)=rk at *
     obtain ⟨⟨nm,st,lf,ad,sv⟩,td⟩:=rk
     simp only at c0 c1 c2 c3 c4 c5 HX HZ2
     clear hr HZ
     rcases ht:within td 0 100 with _ | _
     ·have HE:Hid (chkR rs=3):=HX.out ht
      clear HX HZ2
      go_wp2_with (go_at_call 22;refine (between_any _ _ _ _).mono ?_;rintro e w' ⟨rfl,rfl⟩;rw [ht])
      go_ret
      exact ⟨ret_int HE.out.symm,HB.out⟩
     ·have HZ3:Hid (∀ j,j < k2+1→within (rs.getD j dr).told 0 100=true):=HZ2.out ht
      clear HX HZ2
      go_wp2_with (go_at_call 22;refine (between_any _ _ _ _).mono ?_;rintro e w' ⟨rfl,rfl⟩;rw [ht])
      go_roundw
      case rel=>exact ⟨k2+1,by omega,by go_num,HZ3,HB⟩
      case measure=>simp [intOf];omega
    ·have HTA:Hid (AllTold rs):=fun j hj=>HZ.out j (by rw [HN.out] at hj;omega)
     clear HZ
     go_wp2_with fail
     go_loopw [6] (fun i wr=>∃ k:Nat,k≤n∧i=.int .i64 k∧Hid (∀ a b,a < b→b < k→(rs.getD a dr).m.name≠(rs.getD b dr).m.name)∧Hid (Below w.heap.size w wr))
      (fun i _=>n - (intOf i).toNat)
     case atStart=>exact ⟨0,Nat.zero_le _,rfl,fun a b _ hb=>by omega,HB⟩
     case round=>
      clear HB hlt hk
      obtain ⟨k3,hk,rfl,HZ,HB⟩:=hrel
      by_cases hlt:k3 < n
      ·obtain ⟨b,off,hp,hl,hr⟩:∃ b off,pa=some ⟨b,off,none⟩∧b < w.heap.size∧RRow w b off rs:=by
        rcases HA.out with h | h
        ·have:=HN.out;rw [h] at this;simp at this;omega
        ·exact h
       subst hp
       have HR:Hid (RRow w b off rs):=hr
       clear hr
       go_wp2_with fail
       go_loopw [7] (fun i wr=>∃ k:Nat,k≤k3∧i=.int .i64 k∧Hid (∀ a,a < k→(rs.getD a dr).m.name≠(rs.getD k3 dr).m.name)∧Hid (Below w.heap.size w wr))
        (fun i _=>k3 - (intOf i).toNat)
       case atStart=>exact ⟨0,Nat.zero_le _,rfl,fun a ha=>by omega,HB⟩
       case round=>
        clear HB hk
        obtain ⟨k4,hk4,rfl,HY,HB⟩:=hrel
        by_cases hlt4:k4 < k3
        ·obtain ⟨c0,_,_,_,_,_⟩:=HR.out.below HB.out hl k4 (by rw [HN.out];omega)
         obtain ⟨d0,_,_,_,_,_⟩:=HR.out.below HB.out hl k3 (by rw [HN.out];exact hlt)
         have HX:Hid ((rs.getD k4 dr).m.name=(rs.getD k3 dr).m.name→chkR rs=6):=fun h=>chkR_twice (by rw [HN.out];exact hn20) HZA.out HTA.out (fun hd=>hd k4 k3 hlt4 (by rw [HN.out];exact hlt) h)
         have HY2:Hid ((rs.getD k4 dr).m.name≠(rs.getD k3 dr).m.name→∀ a,a < k4+1→(rs.getD a dr).m.name≠(rs.getD k3 dr).m.name):=fun h a ha=>by
          by_cases e:a=k4
          ·subst e;exact h
          ·exact HY.out a (by omega)
         have hbq:=beq_names (rs.getD k4 dr).m.name (rs.getD k3 dr).m.name
         clear HY HZ
         generalize (rs.getD k4 dr).m.name=x4 at *
         generalize (rs.getD k3 dr).m.name=x3 at *
         by_cases hx:x4=x3
         ·have HE:Hid (chkR rs=6):=HX.out hx
          subst hx
          clear HX HY2 hbq
          go_wp2_with fail
          go_quiet (fail)
          go_wp2_with fail
          go_ret
          exact ⟨ret_int HE.out.symm,below_drewN HB.out _⟩
         ·have HY3:Hid (∀ a,a < k4+1→(rs.getD a dr).m.name≠x3):=HY2.out hx
          rw [decide_eq_false hx] at hbq
          clear HX HY2 hx
          go_wp2_with fail
          go_quiet (fail)
          go_wp2_with fail
          exact ⟨⟨k4+1,by omega,by go_num,HY3,below_drewN HB.out _⟩,by simp [intOf];omega⟩
        ·have HZ3:Hid (∀ a b,a < b→b < k3+1→(rs.getD a dr).m.name≠(rs.getD b dr).m.name):=fun a b hab hb=>by
          by_cases e:b=k3
          ·subst e;exact HY.out a (by omega)
          ·exact HZ.out a b hab (by omega)
         clear HZ HY
         go_wp2_with fail
         exact ⟨⟨k3+1,by omega,by go_num,HZ3,HB⟩,by simp [intOf];omega⟩
      ·have HE:Hid (chkR rs=0):=chkR_ok (by rw [HN.out];exact hn20) HZA.out HTA.out (fun a b hab hb=>HZ.out a b hab (by rw [HN.out] at hb;omega))
       clear HZ
       go_wp2_with fail
       go_ret
       exact ⟨ret_int HE.out.symm,HB.out⟩
end Go.Proofs.YtffdoiokmiklgaaGreatDoor
namespace Go.Proofs.YtffdoiokmiklgaaGreatDoor
open Go.RowKit
set_option maxHeartbeats 800000 in
theorem wIsIt_any (m:Mem) (nb:Nat) (nm:ByteArray) (w:World) (h:w.cell? ⟨nb,0,none⟩=some (.string nm)) :
 Calls Tryz.prog 142 #[.agg #[.string m.name,.int .i64 m.state,.int .i64 m.life,.int .i64 m.addr,.bool m.server],.pointer (some ⟨nb,0,none⟩)] w fun e w'=>e=.returned (.bool (decide (m.name=nm)))∧w'=w.alloc (.cells #[.string m.name,.int .i64 m.state,.int .i64 m.life,.int .i64 m.addr,.bool m.server] 56):=by
 have hb:nb < w.heap.size:=World.block_lt_of_cell? w _ h
 have h2:∀ ob,(w.alloc ob).cell? ⟨nb,0,none⟩=some (.string nm):=fun ob=>by
  rw [((Below.refl w.heap.size w).alloc (Nat.le_refl _) ob).cell (p:=⟨nb,0,none⟩) hb];exact h
 obtain ⟨mn,st,lf,ad,sv⟩:=m
 go_enter Tryz.func142,Tryz.ntmps142
 go_wp2_with fail
 go_ret
 exact ⟨ret_bool (beq_names _ _),rfl⟩
set_option maxHeartbeats 1600000 in
theorem wIndex_any (ms:List Mem) (pa:Option Addr) (n c nb:Nat) (nm:ByteArray) (w:World) (hv:Sl w (.slice pa n c) ms) (hsm:n≤1000) (ht:w.cell? ⟨nb,0,none⟩=some (.string nm)) :
 Calls Tryz.prog 143 #[.slice pa n c,.func (.func 142) #[] #[.pointer (some ⟨nb,0,none⟩)]] w fun e w'=>
  ((e=.returned (.int .i64 (-1))∧Hid (fstM ms nm=none))∨(∃ i:Nat,i < n∧e=.returned (.int .i64 i)∧Hid (fstM ms nm=some (ms.getD i dm))))∧Below w.heap.size w w':=by
 obtain ⟨pa',ca,he,_,ha⟩:=hv
 simp only [Value.slice.injEq] at he
 obtain ⟨rfl,hN,rfl⟩:=he
 have HA:Hid (ms=[]∨∃ b off,pa=some ⟨b,off,none⟩∧b < w.heap.size∧Row w b off ms):=ha
 have HN:Hid (ms.length=n):=hN.symm
 have HT:Hid (w.cell? ⟨nb,0,none⟩=some (.string nm)):=ht
 have htb:nb < w.heap.size:=World.block_lt_of_cell? w _ ht
 clear ha hN ht
 go_enter Tryz.func143,Tryz.ntmps143
 go_wp2_with fail
 go_loopw [8] (fun i wr=>∃ k:Nat,k≤n∧i=.int .i64 k∧Hid (∀ j,j < k→(ms.getD j dm).name≠nm)∧Hid (Below w.heap.size w wr)) (fun i _=>n - (intOf i).toNat)
 case atStart=>exact ⟨0,Nat.zero_le _,rfl,fun j hj=>by omega,Below.refl _ _⟩
 case round=>
  obtain ⟨k,hk,rfl,HZ,HB⟩:=hrel
  by_cases hlt:k < n
  ·obtain ⟨b,off,hp1,hl1,hr⟩:∃ b off,pa=some ⟨b,off,none⟩∧b < w.heap.size∧Row w b off ms:=by
    rcases HA.out with h | h
    ·have:=HN.out;rw [h] at this;simp at this;omega
    ·exact h
   subst hp1
   obtain ⟨c0,c1,c2,c3,c4⟩:=hr.later HB.out hl1 k (by rw [HN.out];exact hlt)
   clear hr
   have ht2:wr.cell? ⟨nb,0,none⟩=some (.string nm):=by rw [HB.out.cell (p:=⟨nb,0,none⟩) htb];exact HT.out
   have HY:Hid ((ms.getD k dm).name=nm→fstM ms nm=some (ms.getD k dm)):=fun h=>fstM_some (by rw [HN.out];exact hlt) HZ.out h
   have HZ2:Hid ((ms.getD k dm).name≠nm→∀ j,j < k+1→(ms.getD j dm).name≠nm):=fun h j hj=>by
    by_cases e:j=k
    ·subst e;exact h
    ·exact HZ.out j (by omega)
   have hF:=fun w h=>wIsIt_any (ms.getD k dm) nb nm w h
   by_cases hkp:(ms.getD k dm).name=nm
   ·have HF:Hid (fstM ms nm=some (ms.getD k dm)):=HY.out hkp
    rw [decide_eq_true hkp] at hF
    clear hkp HZ2 HY
    generalize hmk:ms.getD k dm=mk at *
    have HMK:Hid (ms.getD k dm=mk):=hmk
    clear hmk
    obtain ⟨mn,st,lf,ad,sv⟩:=mk
    simp only at c0 c1 c2 c3 c4 hF
    go_wp2_with fail
    refine (hF _ ht2).mono ?_
    rintro e w1 ⟨rfl,rfl⟩
    go_wp2_with fail
    go_ret
    exact ⟨.inr ⟨k,hlt,rfl,by rw [HMK.out];exact HF⟩,HB.out.alloc HB.out.size _⟩
   ·have HZ3:Hid (∀ j,j < k+1→(ms.getD j dm).name≠nm):=HZ2.out hkp
    rw [decide_eq_false hkp] at hF
    clear hkp HZ2 HY HZ
    generalize ms.getD k dm=mk at *
    obtain ⟨mn,st,lf,ad,sv⟩:=mk
    simp only at c0 c1 c2 c3 c4 hF
    go_wp2_with fail
    refine (hF _ ht2).mono ?_
    rintro e w1 ⟨rfl,rfl⟩
    go_wp2_with fail
    go_roundw
    case rel=>exact ⟨k+1,by omega,by go_num,HZ3,HB.out.alloc HB.out.size _⟩
    case measure=>simp [intOf];omega
  ·have HZ3:Hid (fstM ms nm=none):=fstM_none fun j hj=>HZ.out j (by have:=HN.out;omega)
   clear HZ
   go_wp2_with fail
   go_ret
   exact ⟨.inl ⟨rfl,HZ3⟩,HB.out⟩
theorem mOf_some {ms:List Mem} {t:ByteArray} {m:Mem} (h:fstM ms t=some m):mOf ms t=m:=by unfold mOf;rw [h];rfl
theorem mOf_none {ms:List Mem} {t:ByteArray} (h:fstM ms t=none):mOf ms t=dm:=by unfold mOf;rw [h];rfl
set_option maxHeartbeats 3200000 in
set_option maxRecDepth 100000 in
theorem wmember_any (b:Nat) (pm:Option Addr) (nm cm:Nat) (ms:List Mem) (t:ByteArray) (w:World) (hc:w.cell? ⟨b,2,none⟩=some (.slice pm nm cm)) (hm:Sl w (.slice pm nm cm) ms) (hn:nm≤1000) :
 Calls Tryz.prog 93 #[.pointer (some ⟨b,0,none⟩),.string t] w fun e w'=>e=.returned (.tuple #[.agg #[.string (mOf ms t).name,.int .i64 (mOf ms t).state,.int .i64 (mOf ms t).life,.int .i64 (mOf ms t).addr,.bool (mOf ms t).server],.bool (fstM ms t).isSome])∧Below w.heap.size w w':=by
 have HM:Hid (Sl w (.slice pm nm cm) ms):=hm
 have hb:b < w.heap.size:=World.block_lt_of_cell? w _ hc
 have HC:Hid (w.cell? ⟨b,2,none⟩=some (.slice pm nm cm)):=hc
 clear hm
 obtain ⟨W,hW⟩:∃ W,W=(w.alloc (.cells #[.string t] 9)).alloc (.cells #[.string ⟨#[]⟩,.int .i64 0,.int .i64 0,.int .i64 0,.bool false] 56):=⟨_,rfl⟩
 have hbW:Below w.heap.size w W:=by rw [hW];exact ((Below.refl _ _).alloc (Nat.le_refl _) _).alloc (by simp) _
 have hg1:W.heap[w.heap.size]?=some (.cells #[.string t] 9 (0,0)):=by
  rw [hW,Below.heap_alloc _ _ _ (by simp)];exact heap_alloc_new w _
 have hg2:W.heap[w.heap.size+1]?=some (.cells #[.string ⟨#[]⟩,.int .i64 0,.int .i64 0,.int .i64 0,.bool false] 56 (0,0)):=by
  have h:=heap_alloc_new (w.alloc (.cells #[.string t] 9)) (.cells #[.string ⟨#[]⟩,.int .i64 0,.int .i64 0,.int .i64 0,.bool false] 56)
  rw [hW];simpa using h
 have hsW:W.heap.size=w.heap.size+2:=by rw [hW];simp
 go_enter Tryz.func93,Tryz.ntmps93
 go_wp2_with fail
 rw [← hW]
 clear hW
 refine (wIndex_any ms pm nm cm _ t W (HM.out.below hbW) hn (cellsAt hg1 0)).mono ?_
 rintro e w1 ⟨hor,hb1⟩
 have h2:w1.heap[w.heap.size+1]?=_:=(hb1.block _ (by omega)).trans hg2
 have HB:Hid (Below w.heap.size w w1):=hbW.trans (hb1.mono (by omega))
 have HM1:Hid (Sl w1 (.slice pm nm cm) ms):=HM.out.below HB.out
 have d2:w1.cell? ⟨b,2,none⟩=some (.slice pm nm cm):=by rw [HB.out.cell (p:=⟨b,2,none⟩) hb];exact HC.out
 have r0:w1.cell? ⟨w.heap.size+1,0,none⟩=some (.string ⟨#[]⟩):=cellsAt h2 0
 have r1:w1.cell? ⟨w.heap.size+1,1,none⟩=some (.int .i64 0):=cellsAt h2 1
 have r2:w1.cell? ⟨w.heap.size+1,2,none⟩=some (.int .i64 0):=cellsAt h2 2
 have r3:w1.cell? ⟨w.heap.size+1,3,none⟩=some (.int .i64 0):=cellsAt h2 3
 have r4:w1.cell? ⟨w.heap.size+1,4,none⟩=some (.bool false):=cellsAt h2 4
 have z0:w1.frozen? ⟨w.heap.size+1,0,none⟩=false:=by simp [World.frozen?,h2]
 have z1:w1.frozen? ⟨w.heap.size+1,1,none⟩=false:=by simp [World.frozen?,h2]
 have z2:w1.frozen? ⟨w.heap.size+1,2,none⟩=false:=by simp [World.frozen?,h2]
 have z3:w1.frozen? ⟨w.heap.size+1,3,none⟩=false:=by simp [World.frozen?,h2]
 have z4:w1.frozen? ⟨w.heap.size+1,4,none⟩=false:=by simp [World.frozen?,h2]
 have hz2:w.heap.size+1 < w1.heap.size:=(Array.getElem?_eq_some_iff.1 h2).1
 clear hbW hg1 hg2 hb1 h2 hsW hc
 rcases hor with ⟨rfl,HF⟩ | ⟨i,hi,rfl,HF⟩
 ·have HO:Hid (mOf ms t=dm∧(fstM ms t).isSome=false):=⟨mOf_none HF.out,by rw [HF.out];rfl⟩
  go_wp2_with fail
  refine bodyPost_ret (v:=.tuple #[.agg #[.string ⟨#[]⟩,.int .i64 0,.int .i64 0,.int .i64 0,.bool false],.bool false]) ?_ rfl ⟨by rw [HO.out.1,HO.out.2];rfl,?_⟩
  ·simp [results,Tryz.results93,go_sem,r0,r1,r2,r3,r4]
  exact ((((HB.out.setCell (p:=⟨w.heap.size+1,0,none⟩) (by simp) _).setCell (p:=⟨w.heap.size+1,1,none⟩) (by simp) _).setCell (p:=⟨w.heap.size+1,2,none⟩) (by simp) _).setCell (p:=⟨w.heap.size+1,3,none⟩) (by simp) _).setCell (p:=⟨w.heap.size+1,4,none⟩) (by simp) _
 ·have HO:Hid (mOf ms t=ms.getD i dm∧(fstM ms t).isSome=true):=⟨mOf_some HF.out,by rw [HF.out];rfl⟩
  obtain ⟨pa',ca,he,_,ha⟩:=HM1.out
  simp only [Value.slice.injEq] at he
  obtain ⟨rfl,hN,rfl⟩:=he
  obtain ⟨b2,off,hp1,hl1,hr⟩:∃ b off,pm=some ⟨b,off,none⟩∧b < w1.heap.size∧Row w1 b off ms:=by
   rcases ha with h | h
   ·rw [h] at hN;simp at hN;omega
   ·exact h
  subst hp1
  obtain ⟨c0,c1,c2,c3,c4⟩:=hr i (by omega)
  clear hr hN ha HF
  generalize ms.getD i dm=mk at *
  obtain ⟨mn,st,lf,ad,sv⟩:=mk
  simp only at c0 c1 c2 c3 c4
  go_wp2_with fail
  refine bodyPost_ret (v:=.tuple #[.agg #[.string mn,.int .i64 st,.int .i64 lf,.int .i64 ad,.bool sv],.bool true]) ?_ rfl ⟨by rw [HO.out.1,HO.out.2],?_⟩
  ·simp [results,Tryz.results93,go_sem,r0,r1,r2,r3,r4]
  exact ((((HB.out.setCell (p:=⟨w.heap.size+1,0,none⟩) (by simp) _).setCell (p:=⟨w.heap.size+1,1,none⟩) (by simp) _).setCell (p:=⟨w.heap.size+1,2,none⟩) (by simp) _).setCell (p:=⟨w.heap.size+1,3,none⟩) (by simp) _).setCell (p:=⟨w.heap.size+1,4,none⟩) (by simp) _
def aheadP (ms:List Mem) (r:Rum):Bool:=match fstM ms r.m.name with
 | none=>true
 | some k=>newE r.m k == 0 && newM r.m k
set_option maxHeartbeats 3200000 in
set_option maxRecDepth 100000 in
theorem isAhead_any (b:Nat) (pm:Option Addr) (nm cm:Nat) (ms:List Mem) (r:Rum) (w:World) (hc:w.cell? ⟨b,2,none⟩=some (.slice pm nm cm)) (hm:Sl w (.slice pm nm cm) ms) (hn:nm≤1000) (hr:r.m.name.size≤maxLen) :
 Calls Tryz.prog 131 #[.pointer (some ⟨b,0,none⟩),.agg #[.string r.m.name,.int .i64 r.m.state,.int .i64 r.m.life,.int .i64 r.m.addr,.bool r.m.server,.int .i64 r.told]] w fun e w'=>e=.returned (.bool (aheadP ms r))∧Below w.heap.size w w':=by
 have hb:b < w.heap.size:=World.block_lt_of_cell? w _ hc
 have HS:Hid (∀ m,fstM ms r.m.name=some m→m.name.size≤maxLen):=fun m h=>by
  obtain ⟨a,c,he,hs,_⟩:=hm
  exact ns_mem hs m (fstM_mem h).1
 have HD:Hid (aheadP ms r=match fstM ms r.m.name with
  | none=>true
  | some k=>newE r.m k == 0 && newM r.m k):=rfl
 generalize aheadP ms r=res at *
 obtain ⟨W,hW⟩:∃ W,W=w.alloc (.cells #[.string r.m.name,.int .i64 r.m.state,.int .i64 r.m.life,.int .i64 r.m.addr,.bool r.m.server,.int .i64 r.told] 98):=⟨_,rfl⟩
 have hbW:Below w.heap.size w W:=by rw [hW];exact (Below.refl _ _).alloc (Nat.le_refl _) _
 have hg:W.heap[w.heap.size]?=some (.cells #[.string r.m.name,.int .i64 r.m.state,.int .i64 r.m.life,.int .i64 r.m.addr,.bool r.m.server,.int .i64 r.told] 98 (0,0)):=by rw [hW];exact heap_alloc_new w _
 have HCW:Hid (Calls Tryz.prog 93 #[.pointer (some ⟨b,0,none⟩),.string r.m.name] W fun e w'=>e=.returned (.tuple #[.agg #[.string (mOf ms r.m.name).name,.int .i64 (mOf ms r.m.name).state,.int .i64 (mOf ms r.m.name).life,.int .i64 (mOf ms r.m.name).addr,.bool (mOf ms r.m.name).server],.bool (fstM ms r.m.name).isSome])∧Below W.heap.size W w'):=
  wmember_any b pm nm cm ms r.m.name W (by rw [hbW.cell (p:=⟨b,2,none⟩) hb];exact hc) (hm.below hbW) hn
 have x0:W.cell? ⟨w.heap.size,0,none⟩=some (.string r.m.name):=cellsAt hg 0
 have hsW:W.heap.size=w.heap.size+1:=by rw [hW];simp
 clear hc hm
 go_enter Tryz.func131,Tryz.ntmps131
 go_wp2_with fail
 rw [← hW]
 clear hW
 refine HCW.out.mono ?_
 rintro e w1 ⟨rfl,hb1⟩
 have hg1:w1.heap[w.heap.size]?=_:=(hb1.block _ (by omega)).trans hg
 have y0:w1.cell? ⟨w.heap.size,0,none⟩=some (.string r.m.name):=cellsAt hg1 0
 have y1:w1.cell? ⟨w.heap.size,1,none⟩=some (.int .i64 r.m.state):=cellsAt hg1 1
 have y2:w1.cell? ⟨w.heap.size,2,none⟩=some (.int .i64 r.m.life):=cellsAt hg1 2
 have y3:w1.cell? ⟨w.heap.size,3,none⟩=some (.int .i64 r.m.addr):=cellsAt hg1 3
 have y4:w1.cell? ⟨w.heap.size,4,none⟩=some (.bool r.m.server):=cellsAt hg1 4
 have hs1:w.heap.size < w1.heap.size:=(Array.getElem?_eq_some_iff.1 hg1).1
 have HB1:Hid (Below w.heap.size w w1):=hbW.trans (hb1.mono (by omega))
 clear hb1 hg1 hg hbW HCW x0
 rcases hf:fstM ms r.m.name with _ | k
 ·have HR:Hid (res=true):=HD.out.trans (by rw [hf])
  have hmo:mOf ms r.m.name=dm:=mOf_none hf
  rw [hmo]
  clear hf hmo
  go_wp2_with fail
  go_ret
  exact ⟨ret_bool HR.out.symm,HB1.out.alloc HB1.out.size _⟩
 ·have HR:Hid (res=(newE r.m k == 0 && newM r.m k)):=HD.out.trans (by rw [hf])
  have hk:=HS.out k hf
  have hmo:mOf ms r.m.name=k:=mOf_some hf
  rw [hmo]
  clear hf hmo
  have HN:Hid (∀ W,Calls Tryz.prog 190 #[.agg #[.string r.m.name,.int .i64 r.m.state,.int .i64 r.m.life,.int .i64 r.m.addr,.bool r.m.server],.agg #[.string k.name,.int .i64 k.state,.int .i64 k.life,.int .i64 k.addr,.bool k.server]] W fun e w'=>e=.returned (.tuple #[.bool (newE r.m k == 0 && newM r.m k),.int .i64 (newE r.m k)])∧Below W.heap.size W w'):=fun W=>newer2_any r.m k W hr hk
  generalize (newE r.m k == 0 && newM r.m k)=q at *
  go_wp2_with fail
  refine (HN.out _).mono ?_
  rintro e w2 ⟨rfl,hb2⟩
  have HB2:Hid (Below w.heap.size w w2):=(HB1.out.alloc HB1.out.size _).trans (hb2.mono (by have:=HB1.out.size;simp;omega))
  clear hb2
  go_wp2_with fail
  go_ret
  exact ⟨ret_bool HR.out.symm,HB2.out⟩
set_option maxHeartbeats 1600000 in
set_option maxRecDepth 100000 in
theorem cIndex_any (b:Nat) (pm:Option Addr) (nm cm:Nat) (ms:List Mem) (rs:List Rum) (v:Value) (w:World) (hv:RSl w v rs) (hc:w.cell? ⟨b,2,none⟩=some (.slice pm nm cm)) (hm:Sl w (.slice pm nm cm) ms) (hn:nm≤1000) (hsm:rs.length≤1000) :
 Calls Tryz.prog 189 #[v,.func (.func 131) #[.pointer (some ⟨b,0,none⟩)] #[]] w fun e w'=>
  ((e=.returned (.int .i64 (-1))∧Hid (rs.any (aheadP ms)=false))∨(∃ i:Nat,i < rs.length∧e=.returned (.int .i64 i)∧Hid (rs.any (aheadP ms)=true)))∧Below w.heap.size w w':=by
 obtain ⟨pa,ca,rfl,hs,ha⟩:=hv
 have hb:b < w.heap.size:=World.block_lt_of_cell? w _ hc
 have HA:Hid (rs=[]∨∃ b off,pa=some ⟨b,off,none⟩∧b < w.heap.size∧RRow w b off rs):=ha
 have HS:Hid (∀ j,(rs.getD j dr).m.name.size≤maxLen):=hs
 have HI:Hid (∀ W,Below w.heap.size w W→∀ r:Rum,r.m.name.size≤maxLen→Calls Tryz.prog 131 #[.pointer (some ⟨b,0,none⟩),.agg #[.string r.m.name,.int .i64 r.m.state,.int .i64 r.m.life,.int .i64 r.m.addr,.bool r.m.server,.int .i64 r.told]] W fun e w'=>e=.returned (.bool (aheadP ms r))∧Below W.heap.size W w'):=fun W hW r hr=>
  isAhead_any b pm nm cm ms r W (by rw [hW.cell (p:=⟨b,2,none⟩) hb];exact hc) (hm.below hW) hn hr
 clear ha hs hc hm
 generalize hN:rs.length=n at *
 have HN:Hid (rs.length=n):=hN
 clear hN
 go_enter Tryz.func189,Tryz.ntmps189
 go_wp2_with fail
 go_loopw [8] (fun i wr=>∃ k:Nat,k≤n∧i=.int .i64 k∧Hid (∀ j,j < k→aheadP ms (rs.getD j dr)=false)∧Hid (Below w.heap.size w wr)) (fun i _=>n - (intOf i).toNat)
 case atStart=>exact ⟨0,Nat.zero_le _,rfl,fun j hj=>by omega,Below.refl _ _⟩
 case round=>
  obtain ⟨k,hk,rfl,HZ,HB⟩:=hrel
  by_cases hlt:k < n
  ·obtain ⟨b2,off,hp1,hl1,hr⟩:∃ b off,pa=some ⟨b,off,none⟩∧b < w.heap.size∧RRow w b off rs:=by
    rcases HA.out with h | h
    ·have:=HN.out;rw [h] at this;simp at this;omega
    ·exact h
   subst hp1
   obtain ⟨c0,c1,c2,c3,c4,c5⟩:=hr.below HB.out hl1 k (by rw [HN.out];exact hlt)
   clear hr
   have hnm:=HS.out k
   have HY:Hid (aheadP ms (rs.getD k dr)=true→rs.any (aheadP ms)=true):=fun h=>by
    rw [show rs.getD k dr=rs[k]'(by rw [HN.out];exact hlt) by simp [List.getD,List.getElem?_eq_getElem (show k < rs.length by rw [HN.out];exact hlt)]] at h
    exact List.any_eq_true.2 ⟨_,List.getElem_mem _,h⟩
   have HZ2:Hid (aheadP ms (rs.getD k dr)=false→∀ j,j < k+1→aheadP ms (rs.getD j dr)=false):=fun h j hj=>by
    by_cases e:j=k
    ·subst e;exact h
    ·exact HZ.out j (by omega)
   have HF:Hid (∀ W,Below w.heap.size w W→Calls Tryz.prog 131 #[.pointer (some ⟨b,0,none⟩),.agg #[.string (rs.getD k dr).m.name,.int .i64 (rs.getD k dr).m.state,.int .i64 (rs.getD k dr).m.life,.int .i64 (rs.getD k dr).m.addr,.bool (rs.getD k dr).m.server,.int .i64 (rs.getD k dr).told]] W fun e w'=>e=.returned (.bool (aheadP ms (rs.getD k dr)))∧Below W.heap.size W w'):=fun W hW=>HI.out W hW _ hnm
   generalize hah:aheadP ms (rs.getD k dr)=ah at *
   clear hah
   generalize rs.getD k dr=rk at *
   obtain ⟨⟨mn,st,lf,ad,sv⟩,td⟩:=rk
   simp only at c0 c1 c2 c3 c4 c5 HF
   clear HZ
   have hsz:=HB.out.size
   cases ah
   ·have HZ3:Hid (∀ j,j < k+1→aheadP ms (rs.getD j dr)=false):=HZ2.out rfl
    clear HY HZ2
    go_wp2_with fail
    refine (HF.out _ HB.out).mono ?_
    rintro e w1 ⟨rfl,hb1⟩
    have HB1:Hid (Below w.heap.size w w1):=HB.out.trans (hb1.mono hsz)
    clear hb1
    go_wp2_with fail
    go_roundw
    case rel=>exact ⟨k+1,by omega,by go_num,HZ3,HB1⟩
    case measure=>simp [intOf];omega
   ·have HR:Hid (rs.any (aheadP ms)=true):=HY.out rfl
    clear HY HZ2
    go_wp2_with fail
    refine (HF.out _ HB.out).mono ?_
    rintro e w1 ⟨rfl,hb1⟩
    have HB1:Hid (Below w.heap.size w w1):=HB.out.trans (hb1.mono hsz)
    clear hb1
    go_wp2_with fail
    go_ret
    exact ⟨.inr ⟨k,hlt,rfl,HR⟩,HB1.out⟩
  ·have HZ3:Hid (rs.any (aheadP ms)=false):=by
    rcases h:rs.any (aheadP ms) with _ | _
    ·rfl
    ·obtain ⟨r,hr,h2⟩:=List.any_eq_true.1 h
     obtain ⟨j,hj,rfl⟩:=List.getElem_of_mem hr
     have h3:=HZ.out j (by have:=HN.out;omega)
     rw [show rs.getD j dr=rs[j] by simp [List.getD,List.getElem?_eq_getElem hj],h2] at h3
     cases h3
   clear HZ
   go_wp2_with fail
   go_ret
   exact ⟨.inl ⟨rfl,HZ3⟩,HB.out⟩
set_option maxHeartbeats 1600000 in
theorem contains_any (b:Nat) (pm:Option Addr) (nm cm:Nat) (ms:List Mem) (rs:List Rum) (v:Value) (w:World) (hv:RSl w v rs) (hc:w.cell? ⟨b,2,none⟩=some (.slice pm nm cm)) (hm:Sl w (.slice pm nm cm) ms) (hn:nm≤1000) (hsm:rs.length≤1000) :
 Calls Tryz.prog 130 #[v,.func (.func 131) #[.pointer (some ⟨b,0,none⟩)] #[]] w fun e w'=>e=.returned (.bool (rs.any (aheadP ms)))∧Below w.heap.size w w':=by
 have HI:Hid (Calls Tryz.prog 189 #[v,.func (.func 131) #[.pointer (some ⟨b,0,none⟩)] #[]] w fun e w'=>
  ((e=.returned (.int .i64 (-1))∧Hid (rs.any (aheadP ms)=false))∨(∃ i:Nat,i < rs.length∧e=.returned (.int .i64 i)∧Hid (rs.any (aheadP ms)=true)))∧Below w.heap.size w w'):=cIndex_any b pm nm cm ms rs v w hv hc hm hn hsm
 clear hv hc hm
 generalize rs.any (aheadP ms)=q at *
 go_enter Tryz.func130,Tryz.ntmps130
 go_wp2_with fail
 refine HI.out.mono ?_
 rintro e w1 ⟨hor,hb1⟩
 have HB:Hid (Below w.heap.size w w1):=hb1
 clear hb1
 rcases hor with ⟨rfl,HF⟩ | ⟨i,hi,rfl,HF⟩
 ·go_wp2_with fail
  go_ret
  exact ⟨ret_bool HF.out.symm,HB.out⟩
 ·go_wp2_with fail
  go_ret
  exact ⟨ret_bool HF.out.symm,HB.out⟩
abbrev ndA (n:Nd) (vm vr vs vg vw:Value):Array Value:=#[.string n.name,.string n.centre,vm,vr,vs,vg,.int .i64 n.p.x,.int .i64 n.p.y,.int .i64 n.p.z,.int .i64 n.p.h,.int .i64 n.p.s,vw]
structure NdIs (w:World) (n:Nd) (vm vr vs vg vw:Value):Prop where
 ms:Sl w vm n.ms
 rs:RSl w vr n.rs
 sv:Sv.Sl w vs n.sv
 gw:Gw.Sl w vg n.gw
 wh:Wh.Sl w vw n.wh
 name:n.name.size≤maxLen
 centre:n.centre.size≤maxLen
theorem NdIs.below {w w':World} {n:Nd} {vm vr vs vg vw:Value} (h:NdIs w n vm vr vs vg vw) (hb:Below w.heap.size w w'):NdIs w' n vm vr vs vg vw:=⟨h.ms.below hb,h.rs.below hb,h.sv.below hb,h.gw.below hb,h.wh.below hb,h.name,h.centre⟩
theorem Sl_nil (w:World):Sl w (.slice none 0 0) []:=⟨none,0,rfl,ns_get (fun m hm=>by simp at hm),.inl rfl⟩
theorem Sv.Sl_nil (w:World):Sv.Sl w (.slice none 0 0) []:=⟨none,0,rfl,Sv.ns_get (fun m hm=>by simp at hm),.inl rfl⟩
theorem Gw.Sl_nil (w:World):Gw.Sl w (.slice none 0 0) []:=⟨none,0,rfl,Gw.ns_get (fun m hm=>by simp at hm),.inl rfl⟩
theorem Wh.Sl_nil (w:World):Wh.Sl w (.slice none 0 0) []:=⟨none,0,rfl,Wh.ns_get (fun m hm=>by simp at hm),.inl rfl⟩
theorem pk_where {nm:ByteArray} {wh:List Wh.Whe} (h:labB nm=true):Pk.e ⟨nm,true,[],[],[],wh⟩=Wh.chk wh:=by
 unfold Pk.e
 rw [if_pos (by simp [h])]
 rfl
theorem roomy_nil:Roomy (.slice none 0 0):=by unfold Roomy;exact Nat.le_refl _
theorem pcheck_where (nm:ByteArray) (wh:List Wh.Whe) (vw:Value) (W:World) (hwh:Wh.Sl W vw wh) (hnm:nm.size≤maxLen) (hl:labB nm=true) :
 Calls Tryz.prog 88 #[.agg #[.string nm,.bool true,.slice none 0 0,.slice none 0 0,.slice none 0 0,vw]] W fun e w'=>e=.returned (.int .i64 (Wh.chk wh))∧Below W.heap.size W w':=by
 have hp:PkIs W ⟨nm,true,[],[],[],wh⟩ (.slice none 0 0) (.slice none 0 0) (.slice none 0 0) vw:=⟨Sl_nil W,Sv.Sl_nil W,Gw.Sl_nil W,hwh,hnm,roomy_nil⟩
 rw [← pk_where hl]
 exact pcheck_any ⟨nm,true,[],[],[],wh⟩ (.slice none 0 0) (.slice none 0 0) (.slice none 0 0) vw W hp (.inl rfl)
theorem cell_topW {W:World} {cs:Array Value} {t:TypeId} {g k:Nat} (hg:g=W.heap.size):((W.alloc (.cells cs t)).drew).cell? ⟨g,k,none⟩=cs[k]?:=by subst hg;exact cellsAt (heap_alloc_new W _) k
theorem lab2_any (a b:ByteArray) (ha:a.size≤maxLen) (hb:b.size≤maxLen) (g c:Nat) (W:World) (h0:W.cell? ⟨g,0,none⟩=some (.string a)) (h1:W.cell? ⟨g,1,none⟩=some (.string b)) :
 Calls Tryz.prog 38 #[.slice (some ⟨g,0,none⟩) 2 c] W fun e w'=>e=.returned (.bool (labB a && labB b))∧w'=W:=by
 have h:=labels_any [a,b] g c W (fun j hj=>by
  have:j=0∨j=1:=by simp at hj;omega
  rcases this with rfl | rfl
  ·exact h0
  ·exact h1) (fun j=>by
  match j with
  | 0=>exact ha
  | 1=>exact hb
  | _+2=>simp [List.getD]) (by simp)
 rw [show [a,b].all labB=(labB a && labB b) by simp] at h
 exact h
set_option maxHeartbeats 12800000 in
set_option maxRecDepth 100000 in
theorem checkParts_any (n:Nd) (b:Nat) (vm vr vs vg vw:Value) (w:World) (h:NdIs w n vm vr vs vg vw) (hg:w.heap[b]?=some (.cells (ndA n vm vr vs vg vw) 133 (0,0))) :
 Calls Tryz.prog 86 #[.pointer (some ⟨b,0,none⟩)] w fun e w'=>e=.returned (.int .i64 n.pE)∧Below w.heap.size w w':=by
 obtain ⟨nm,ct,ms,rs,sv,gw,⟨px,py,pz,ph,pq⟩,wh⟩:=n
 obtain ⟨hms,hrs,hsv,hgw,hwh,hnm,hct⟩:=h
 simp only at hms hrs hsv hgw hwh hnm hct hg
 have hb:b < w.heap.size:=(Array.getElem?_eq_some_iff.1 hg).1
 have HM:Hid (∀ W,Below w.heap.size w W→Calls Tryz.prog 125 #[vm] W fun e w'=>e=.returned (.int .i64 (chk ms))∧Below W.heap.size W w'):=fun W hW=>check_any ms vm W (hms.below hW)
 have HRC:Hid (∀ W,Below w.heap.size w W→Calls Tryz.prog 126 #[vr] W fun e w'=>e=.returned (.int .i64 (chkR rs))∧Below W.heap.size W w'):=fun W hW=>checkR_any rs vr W (hrs.below hW)
 have HS:Hid (∀ W,Below w.heap.size w W→Calls Tryz.prog 127 #[vs] W fun e w'=>e=.returned (.int .i64 (Sv.chk sv))∧Below W.heap.size W w'):=fun W hW=>Sv.check_any sv vs W (hsv.below hW)
 have HG:Hid (∀ W,Below w.heap.size w W→Calls Tryz.prog 128 #[vg] W fun e w'=>e=.returned (.int .i64 (Gw.chk gw))∧Below W.heap.size W w'):=fun W hW=>Gw.check_any gw vg W (hgw.below hW)
 have HP:Hid (∀ W,Below w.heap.size w W→Calls Tryz.prog 129 #[.agg #[.int .i64 px,.int .i64 py,.int .i64 pz,.int .i64 ph,.int .i64 pq]] W fun e w'=>e=.returned (.int .i64 (chkP ⟨px,py,pz,ph,pq⟩))∧Below W.heap.size W w'):=fun W _=>checkP_any ⟨px,py,pz,ph,pq⟩ W
 have HX:Hid (∀ W,Below w.heap.size w W→W.cell? ⟨b,0,none⟩=some (.string nm)∧W.cell? ⟨b,1,none⟩=some (.string ct)∧W.cell? ⟨b,2,none⟩=some vm∧W.cell? ⟨b,3,none⟩=some vr∧W.cell? ⟨b,4,none⟩=some vs∧W.cell? ⟨b,5,none⟩=some vg∧W.cell? ⟨b,6,none⟩=some (.int .i64 px)∧W.cell? ⟨b,7,none⟩=some (.int .i64 py)∧W.cell? ⟨b,8,none⟩=some (.int .i64 pz)∧W.cell? ⟨b,9,none⟩=some (.int .i64 ph)∧W.cell? ⟨b,10,none⟩=some (.int .i64 pq)∧W.cell? ⟨b,11,none⟩=some vw):=fun W hW=>
  have hg':=(hW.block _ hb).trans hg
  ⟨cellsAt hg' 0,cellsAt hg' 1,cellsAt hg' 2,cellsAt hg' 3,cellsAt hg' 4,cellsAt hg' 5,cellsAt hg' 6,cellsAt hg' 7,cellsAt hg' 8,cellsAt hg' 9,cellsAt hg' 10,cellsAt hg' 11⟩
 have HE:Nd.pE ⟨nm,ct,ms,rs,sv,gw,⟨px,py,pz,ph,pq⟩,wh⟩=if (labB nm && labB ct)=true then
  (if chk ms=0 then (if chkR rs=0 then (if Sv.chk sv=0 then (if Gw.chk gw=0 then (if chkP ⟨px,py,pz,ph,pq⟩=0 then Wh.chk wh else chkP ⟨px,py,pz,ph,pq⟩) else Gw.chk gw) else Sv.chk sv) else chkR rs) else chk ms) else 1:=by unfold Nd.pE;with_reducible rfl
 have HL:Hid (∀ (W:World) (g:Nat),W.cell? ⟨g,0,none⟩=some (.string nm)→W.cell? ⟨g,1,none⟩=some (.string ct)→Calls Tryz.prog 38 #[.slice (some ⟨g,0,none⟩) 2 2] W fun e w'=>e=.returned (.bool (labB nm && labB ct))∧w'=W):=fun W g h0 h1=>lab2_any nm ct hnm hct g 2 W h0 h1
 have HW:Hid (labB nm=true→∀ W,Below w.heap.size w W→Calls Tryz.prog 88 #[.agg #[.string nm,.bool true,.slice none 0 0,.slice none 0 0,.slice none 0 0,vw]] W fun e w'=>e=.returned (.int .i64 (Wh.chk wh))∧Below W.heap.size W w'):=fun hl W hW=>pcheck_where nm wh vw W (hwh.below hW) hnm hl
 have HLN:Hid ((labB nm && labB ct)=true→labB nm=true):=fun h=>by rw [Bool.and_eq_true] at h;exact h.1
 generalize (labB nm && labB ct)=lb at *
 generalize Nd.pE ⟨nm,ct,ms,rs,sv,gw,⟨px,py,pz,ph,pq⟩,wh⟩=res at *
 generalize chk ms=m1 at *
 generalize chkR rs=r1 at *
 generalize Sv.chk sv=s1 at *
 generalize Gw.chk gw=g1 at *
 generalize chkP ⟨px,py,pz,ph,pq⟩=p1 at *
 generalize Wh.chk wh=wz at *
 obtain ⟨a5,c5,rfl,_,_⟩:=hwh
 generalize wh.length=n5 at *
 clear hms hrs hsv hgw
 obtain ⟨y0,y1,y2,y3,y4,y5,y6,y7,y8,y9,y10,y11⟩:=HX.out w (Below.refl _ _)
 clear hg
 go_enter Tryz.func86,Tryz.ntmps86
 go_wp2_with fail
 go_region_held3 (fun w'=>w'.cell? ⟨b,0,none⟩=some (.string nm)∧w'.cell? ⟨b,1,none⟩=some (.string ct)) (go_keep) (first | (go_at_call 38;refine (HL.out _ _ (cell_topW rfl) (cell_topW rfl)).mono ?_;rintro e w' ⟨rfl,rfl⟩))
 obtain ⟨W0,hW0⟩:∃ W0,W0=(w.alloc (.cells #[.string nm,.string ct] 9)).drew:=⟨_,rfl⟩
 have HB0:Hid (Below w.heap.size w W0):=by rw [hW0];exact ((Below.refl _ _).alloc (Nat.le_refl _) _).drew
 rw [← hW0]
 clear hW0 HL y0 y1 y2 y3 y4 y5 y6 y7 y8 y9 y10 y11
 obtain ⟨y0,y1,y2,y3,y4,y5,y6,y7,y8,y9,y10,y11⟩:=HX.out W0 HB0.out
 cases lb
 ·rw [if_neg (by simp)] at HE
  have HR:Hid (res=1):=HE
  clear HE
  go_wp2_with fail
  go_ret
  exact ⟨ret_int HR.out.symm,HB0.out⟩
 rw [if_pos rfl] at HE
 have HW:Hid (∀ W,Below w.heap.size w W→Calls Tryz.prog 88 #[.agg #[.string nm,.bool true,.slice none 0 0,.slice none 0 0,.slice none 0 0,.slice a5 n5 c5]] W fun e w'=>e=.returned (.int .i64 wz)∧Below W.heap.size W w'):=HW.out (HLN.out rfl)
 go_wp2_with fail
 refine (HM.out _ HB0.out).mono ?_
 rintro e w1 ⟨rfl,hb1⟩
 have HB1:Hid (Below w.heap.size w w1):=HB0.out.trans (hb1.mono HB0.out.size)
 clear hb1 y0 y1 y2 y3 y4 y5 y6 y7 y8 y9 y10 y11
 obtain ⟨y0,y1,y2,y3,y4,y5,y6,y7,y8,y9,y10,y11⟩:=HX.out w1 HB1.out
 by_cases hm1:m1=0
 ·rw [if_pos hm1] at HE
  subst hm1
  go_wp2_with fail
  refine (HRC.out _ HB1.out).mono ?_
  rintro e w2 ⟨rfl,hb2⟩
  have HB2:Hid (Below w.heap.size w w2):=HB1.out.trans (hb2.mono HB1.out.size)
  clear hb2 y0 y1 y2 y3 y4 y5 y6 y7 y8 y9 y10 y11
  obtain ⟨y0,y1,y2,y3,y4,y5,y6,y7,y8,y9,y10,y11⟩:=HX.out w2 HB2.out
  by_cases hr1:r1=0
  ·rw [if_pos hr1] at HE
   subst hr1
   go_wp2_with fail
   refine (HS.out _ HB2.out).mono ?_
   rintro e w3 ⟨rfl,hb3⟩
   have HB3:Hid (Below w.heap.size w w3):=HB2.out.trans (hb3.mono HB2.out.size)
   clear hb3 y0 y1 y2 y3 y4 y5 y6 y7 y8 y9 y10 y11
   obtain ⟨y0,y1,y2,y3,y4,y5,y6,y7,y8,y9,y10,y11⟩:=HX.out w3 HB3.out
   by_cases hs1:s1=0
   ·rw [if_pos hs1] at HE
    subst hs1
    go_wp2_with fail
    refine (HG.out _ HB3.out).mono ?_
    rintro e w4 ⟨rfl,hb4⟩
    have HB4:Hid (Below w.heap.size w w4):=HB3.out.trans (hb4.mono HB3.out.size)
    clear hb4 y0 y1 y2 y3 y4 y5 y6 y7 y8 y9 y10 y11
    obtain ⟨y0,y1,y2,y3,y4,y5,y6,y7,y8,y9,y10,y11⟩:=HX.out w4 HB4.out
    by_cases hg1:g1=0
    ·rw [if_pos hg1] at HE
     subst hg1
     go_wp2_with fail
     refine (HP.out _ HB4.out).mono ?_
     rintro e w5 ⟨rfl,hb5⟩
     have HB5:Hid (Below w.heap.size w w5):=HB4.out.trans (hb5.mono HB4.out.size)
     clear hb5 y0 y1 y2 y3 y4 y5 y6 y7 y8 y9 y10 y11
     obtain ⟨y0,y1,y2,y3,y4,y5,y6,y7,y8,y9,y10,y11⟩:=HX.out w5 HB5.out
     by_cases hp1:p1=0
     ·rw [if_pos hp1] at HE
      subst hp1
      go_wp2_with fail
      go_region_held3 (fun w'=>w'.cell? ⟨b,0,none⟩=some (.string nm)∧w'.cell? ⟨b,11,none⟩=some (.slice a5 n5 c5)) (first | assumption | go_keep) (first | (go_at_call 88;refine (HW.out _ HB5.out.drew).mono ?_;rintro e w9 ⟨rfl,hb9⟩;have HB9:Hid (Below w.heap.size w w9):=HB5.out.drew.trans (hb9.mono HB5.out.size);have hS:w9.cell? ⟨b,0,none⟩=some (.string nm)∧w9.cell? ⟨b,11,none⟩=some (.slice a5 n5 c5):=⟨(HX.out w9 HB9.out).1,(HX.out w9 HB9.out).2.2.2.2.2.2.2.2.2.2.2⟩))
      go_wp2_with fail
      go_ret
      exact ⟨ret_int HE.symm,HB9.out⟩
     ·have hp1':(p1 != 0)=true:=by simpa using hp1
      rw [if_neg hp1] at HE
      have HR:Hid (res=p1):=HE
      clear hp1 HE
      go_wp2_with fail
      go_ret
      exact ⟨ret_int HR.out.symm,HB5.out⟩
    ·have hg1':(g1 != 0)=true:=by simpa using hg1
     rw [if_neg hg1] at HE
     have HR:Hid (res=g1):=HE
     clear hg1 HE
     go_wp2_with fail
     go_ret
     exact ⟨ret_int HR.out.symm,HB4.out⟩
   ·have hs1':(s1 != 0)=true:=by simpa using hs1
    rw [if_neg hs1] at HE
    have HR:Hid (res=s1):=HE
    clear hs1 HE
    go_wp2_with fail
    go_ret
    exact ⟨ret_int HR.out.symm,HB3.out⟩
  ·have hr1':(r1 != 0)=true:=by simpa using hr1
   rw [if_neg hr1] at HE
   have HR:Hid (res=r1):=HE
   clear hr1 HE
   go_wp2_with fail
   go_ret
   exact ⟨ret_int HR.out.symm,HB2.out⟩
 ·have hm1':(m1 != 0)=true:=by simpa using hm1
  rw [if_neg hm1] at HE
  have HR:Hid (res=m1):=HE
  clear hm1 HE
  go_wp2_with fail
  go_ret
  exact ⟨ret_int HR.out.symm,HB1.out⟩
end Go.Proofs.YtffdoiokmiklgaaGreatDoor
