import Derived.Test.YtffdoiokmiklgaaGreatDoortr7
import Derived.Test.YtffdoiokmiklgaaGreatDoortr11
import Derived.Lib.QuietBelow
namespace Go.Proofs.YtffdoiokmiklgaaGreatDoor
open Go.RowKit Go.WideMaps Go.Maps
theorem chkR_zero {rs:List Rum} (h:chkR rs=0):rs.length≤20∧(∀ j,j < rs.length→(rs.getD j dr).m.e=0)∧AllTold rs∧Distinct rs:=by
 unfold chkR at h
 by_cases h1:20 < rs.length
 ·rw [if_pos h1] at h;omega
 rw [if_neg h1] at h
 by_cases h2:firstE (rmems rs)=0
 ·rw [if_pos h2] at h
  by_cases h3:AllTold rs
  ·rw [if_pos h3] at h
   by_cases h4:Distinct rs
   ·refine ⟨by omega,fun j hj=>?_,h3,h4⟩
    have:=firstE_at0 h2 j (by rw [rmems_len];exact hj)
    rwa [rmems_get] at this
   ·rw [if_neg h4] at h;omega
  ·rw [if_neg h3] at h;omega
 ·rw [if_neg h2] at h;exact absurd h h2
theorem newE_zero {a b:Mem} (ha:a.e=0) (hb:b.e=0) (hn:a.name=b.name):newE a b=0:=by
 have h:chkTwo [a] [b]=0:=by rw [chkTwo,chk_oneR,chk_oneR];simp [ha,hb]
 rw [newE,if_pos h,if_pos hn]
set_option maxHeartbeats 3200000 in
set_option maxRecDepth 100000 in
theorem put_full (rs:List Rum) (v:Value) (m:Mem) (w:World) (hv:RSl w v rs) (hm:m.name.size≤maxLen) (h0:chkR rs=0) (he:m.e=0) (hno:NotIn rs m.name) (hl:rs.length=20) :
 Calls Tryz.prog 195 #[v,.agg #[.string m.name,.int .i64 m.state,.int .i64 m.life,.int .i64 m.addr,.bool m.server]] w fun e w'=>e=.returned (.tuple #[.slice none 0 0,.int .i64 2])∧Below w.heap.size w w':=by
 obtain ⟨i0,hi0,hz0,hzs,hzb⟩:=info_parts Tryz.infoR
 have HV:Hid (RSl w v rs):=hv
 have hchk:=fun (w:World) (h:RSl w v rs)=>checkR_any rs v w h
 rw [h0] at hchk
 have hcm:=fun w=>checkMember_any m w hm
 rw [he] at hcm
 have HH:Hid (Maps.has (Dm (rnames rs) rs.length) (kS m.name)=false):=has_not hno
 clear h0 he hv
 obtain ⟨nm,st,lf,ad,sv⟩:=m
 simp only at *
 have hB0:Below w.heap.size w (w.alloc (.cells #[.string nm,.int .i64 st,.int .i64 lf,.int .i64 ad,.bool sv] 56)):=(Below.refl _ _).alloc (Nat.le_refl _) _
 go_enter Tryz.func195,Tryz.ntmps195
 go_wp2_with fail
 refine (hchk _ (HV.out.below hB0)).mono ?_
 rintro e w1 ⟨rfl,hb1⟩
 have c1:∀ o,w1.cell? ⟨w.heap.size,o,none⟩=#[Value.string nm,.int .i64 st,.int .i64 lf,.int .i64 ad,.bool sv][o]?:=fun o=>by
  rw [hb1.cell (p:=⟨w.heap.size,o,none⟩) (by simp)];exact cell_top' rfl
 have HB1:Hid (Below w.heap.size w w1):=hB0.trans (hb1.mono (by simp))
 have hz1:w.heap.size < w1.heap.size:=by have:=hb1.size;simp at this;omega
 clear hb1 hB0 hchk
 go_wp2_with fail
 refine (hcm _).mono ?_
 rintro e w2 ⟨rfl,hb2⟩
 have c2:∀ o,w2.cell? ⟨w.heap.size,o,none⟩=#[Value.string nm,.int .i64 st,.int .i64 lf,.int .i64 ad,.bool sv][o]?:=fun o=>by
  rw [hb2.cell (p:=⟨w.heap.size,o,none⟩) (by simp only;omega)];exact c1 o
 have HB2:Hid (Below w.heap.size w w2):=HB1.out.trans (hb2.mono HB1.out.size)
 have hz2:w.heap.size < w2.heap.size:=by have:=hb2.size;omega
 clear hb2 c1 hz1 HB1 hcm
 go_wp2_with fail
 refine (rclone_any rs v _ (HV.out.below HB2.out) (by omega)).mono ?_
 rintro e w3 ⟨v3,rfl,ho3,hb3⟩
 have HO3:Hid (ROwn w2.heap.size w3 v3 rs):=ho3
 have c3:w3.cell? ⟨w.heap.size,0,none⟩=some (.string nm):=by
  rw [hb3.cell (p:=⟨w.heap.size,0,none⟩) (by simp only;omega)];exact c2 0
 have C3:Hid (∀ o,w3.cell? ⟨w.heap.size,o,none⟩=#[Value.string nm,.int .i64 st,.int .i64 lf,.int .i64 ad,.bool sv][o]?):=fun o=>by
  rw [hb3.cell (p:=⟨w.heap.size,o,none⟩) (by simp only;omega)];exact c2 o
 have HB3:Hid (Below w.heap.size w w3):=HB2.out.trans (hb3.mono HB2.out.size)
 have hz3:w.heap.size < w3.heap.size:=by have:=hb3.size;omega
 have hz23:w2.heap.size≤w3.heap.size:=hb3.size
 clear hb3 ho3 c2
 go_wp2_with fail
 go_region_held3 (fun w'=>w'.cell? ⟨w.heap.size,0,none⟩=some (.string nm)) (first | assumption | go_keep) (first | (go_at_call 181;refine (met_any rs v _ ((HV.out.below HB3.out).below (Below.refl _ _).drew) (by omega)).mono ?_;rintro e w4 ⟨rfl,hown,hb4⟩;obtain ⟨cq,hrun,hat⟩:=look_any hown hm;rw [HH.out] at hrun;have hr2:(Instr.lookup 131 (.map (some w3.heap.size)) (.string nm) true).run Tryz.prog w4=.ok (.tuple #[.int .i64 cq,.bool false]) w4:=hrun;clear hrun hat hown;have HB4:Hid (Below w3.heap.size w3 w4):=(Below.refl w3.heap.size w3).drew.trans hb4;have hS:w4.cell? ⟨w.heap.size,0,none⟩=some (.string nm):=((hb4.cell (p:=⟨w.heap.size,0,none⟩) hz3).trans c3);clear hb4))
 obtain ⟨a3,ca3,hv3⟩:=HO3.out.slice
 subst hv3
 have HB5:Hid (Below w.heap.size w w4):=HB3.out.trans (HB4.out.mono HB3.out.size)
 clear HO3 C3 HB4 HB3 c3 hr2
 rw [hl]
 go_wp2_with fail
 go_ret2
 exact ⟨rfl,HB5.out⟩
set_option maxHeartbeats 1600000 in
set_option maxRecDepth 100000 in
theorem put_old (rs:List Rum) (v:Value) (m:Mem) (w:World) (hv:RSl w v rs) (hm:m.name.size≤maxLen) (h0:chkR rs=0) (he:m.e=0) (p:Nat) (hp:p < rs.length) (hpn:(rs.getD p dr).m.name=m.name) (HNEW:newM m (rs.getD p dr).m=false) :
 Calls Tryz.prog 195 #[v,.agg #[.string m.name,.int .i64 m.state,.int .i64 m.life,.int .i64 m.addr,.bool m.server]] w fun e w'=>∃ v',e=.returned (.tuple #[v',.int .i64 0])∧ROwn w.heap.size w' v' rs∧Below w.heap.size w w':=by
 obtain ⟨i0,hi0,hz0,hzs,hzb⟩:=info_parts Tryz.infoR
 have HV:Hid (RSl w v rs):=hv
 have hchk:=fun (w:World) (h:RSl w v rs)=>checkR_any rs v w h
 rw [h0] at hchk
 have hcm:=fun w=>checkMember_any m w hm
 rw [he] at hcm
 have HH:Hid (Maps.has (Dm (rnames rs) rs.length) (kS m.name)=true):=(Dm_has _ _ _).2 ⟨p,hp,by rw [rnames_get];exact hpn⟩
 have HAT:Hid ((Dm (rnames rs) rs.length).atKey (kS m.name) (.lit (.int .i64 0))=.lit (.int .i64 p)):=Dm_at _ _ _ _ p hp (by rw [rnames_get];exact hpn) (fun i hi hk=>by rw [rnames_get,← hpn];exact fun e=>(chkR_zero h0).2.2.2 p i hi hk e.symm)
 have hn20:rs.length≤20:=(chkR_zero h0).1
 have HEP:Hid ((rs.getD p dr).m.e=0):=(chkR_zero h0).2.1 p hp
 have hnp:(rs.getD p dr).m.name.size≤maxLen:=by obtain ⟨_,_,_,h,_⟩:=hv;exact h p
 have HN0:Hid (newE m (rs.getD p dr).m=0):=newE_zero he HEP.out hpn.symm
 clear h0 he hv HEP
 obtain ⟨nm,st,lf,ad,sv⟩:=m
 simp only at *
 have hB0:Below w.heap.size w (w.alloc (.cells #[.string nm,.int .i64 st,.int .i64 lf,.int .i64 ad,.bool sv] 56)):=(Below.refl _ _).alloc (Nat.le_refl _) _
 go_enter Tryz.func195,Tryz.ntmps195
 go_wp2_with fail
 refine (hchk _ (HV.out.below hB0)).mono ?_
 rintro e w1 ⟨rfl,hb1⟩
 have c1:∀ o,w1.cell? ⟨w.heap.size,o,none⟩=#[Value.string nm,.int .i64 st,.int .i64 lf,.int .i64 ad,.bool sv][o]?:=fun o=>by
  rw [hb1.cell (p:=⟨w.heap.size,o,none⟩) (by simp)];exact cell_top' rfl
 have HB1:Hid (Below w.heap.size w w1):=hB0.trans (hb1.mono (by simp))
 have hz1:w.heap.size < w1.heap.size:=by have:=hb1.size;simp at this;omega
 clear hb1 hB0 hchk
 go_wp2_with fail
 refine (hcm _).mono ?_
 rintro e w2 ⟨rfl,hb2⟩
 have c2:∀ o,w2.cell? ⟨w.heap.size,o,none⟩=#[Value.string nm,.int .i64 st,.int .i64 lf,.int .i64 ad,.bool sv][o]?:=fun o=>by
  rw [hb2.cell (p:=⟨w.heap.size,o,none⟩) (by simp only;omega)];exact c1 o
 have HB2:Hid (Below w.heap.size w w2):=HB1.out.trans (hb2.mono HB1.out.size)
 have hz2:w.heap.size < w2.heap.size:=by have:=hb2.size;omega
 clear hb2 c1 hz1 HB1 hcm
 go_wp2_with fail
 refine (rclone_any rs v _ (HV.out.below HB2.out) (by omega)).mono ?_
 rintro e w3 ⟨v3,rfl,ho3,hb3⟩
 have HO3:Hid (ROwn w2.heap.size w3 v3 rs):=ho3
 have c3:w3.cell? ⟨w.heap.size,0,none⟩=some (.string nm):=by
  rw [hb3.cell (p:=⟨w.heap.size,0,none⟩) (by simp only;omega)];exact c2 0
 have C3:Hid (∀ o,w3.cell? ⟨w.heap.size,o,none⟩=#[Value.string nm,.int .i64 st,.int .i64 lf,.int .i64 ad,.bool sv][o]?):=fun o=>by
  rw [hb3.cell (p:=⟨w.heap.size,o,none⟩) (by simp only;omega)];exact c2 o
 have HB3:Hid (Below w.heap.size w w3):=HB2.out.trans (hb3.mono HB2.out.size)
 have hz3:w.heap.size < w3.heap.size:=by have:=hb3.size;omega
 have hz23:w2.heap.size≤w3.heap.size:=hb3.size
 clear hb3 ho3 c2
 go_wp2_with fail
 go_region_held3 (fun w'=>w'.cell? ⟨w.heap.size,0,none⟩=some (.string nm)) (first | assumption | go_keep) (first | (go_at_call 181;refine (met_any rs v _ ((HV.out.below HB3.out).below (Below.refl _ _).drew) (by omega)).mono ?_;rintro e w4 ⟨rfl,hown,hb4⟩;obtain ⟨cq,hrun,hat⟩:=look_any hown hm;rw [HH.out] at hrun;rw [HAT.out] at hat;have hcq:cq=p:=(by simp at hat;exact hat.symm);subst hcq;have hr2:(Instr.lookup 131 (.map (some w3.heap.size)) (.string nm) true).run Tryz.prog w4=.ok (.tuple #[.int .i64 p,.bool true]) w4:=hrun;clear hrun hat hown;have HB4:Hid (Below w3.heap.size w3 w4):=(Below.refl w3.heap.size w3).drew.trans hb4;have hS:w4.cell? ⟨w.heap.size,0,none⟩=some (.string nm):=((hb4.cell (p:=⟨w.heap.size,0,none⟩) hz3).trans c3);clear hb4))
 obtain ⟨a3,ca3,hv3⟩:=HO3.out.slice
 subst hv3
 have C4:∀ o,w4.cell? ⟨w.heap.size,o,none⟩=#[Value.string nm,.int .i64 st,.int .i64 lf,.int .i64 ad,.bool sv][o]?:=fun o=>by
  rw [HB4.out.cell (p:=⟨w.heap.size,o,none⟩) hz3];exact C3.out o
 have HO4:Hid (ROwn w2.heap.size w4 (.slice a3 rs.length ca3) rs):=HO3.out.below HB4.out
 have HB5:Hid (Below w.heap.size w w4):=HB3.out.trans (HB4.out.mono HB3.out.size)
 have hz5:w2.heap.size≤w4.heap.size:=by have:=HB4.out.size;omega
 have HV4:Hid (RSl w4 v rs):=HV.out.below HB5.out
 clear HO3 C3 HB4 HB3 c3 hr2 HV
 obtain ⟨pa,ca,hvv,_,hrow⟩:=HV4.out
 subst hvv
 obtain ⟨b,off,hpa,hlb,hr⟩:∃ b off,pa=some ⟨b,off,none⟩∧b < w4.heap.size∧RRow w4 b off rs:=by
  rcases hrow with h | h
  ·rw [h] at hp;simp at hp
  ·exact h
 subst hpa
 obtain ⟨e0,e1,e2,e3,e4,e5⟩:=hr p hp
 have hN:=fun w=>newer2_any ⟨nm,st,lf,ad,sv⟩ (rs.getD p dr).m w hm hnp
 rw [HN0.out,HNEW] at hN
 simp only [beq_self_eq_true,Bool.true_and] at hN
 clear hrow hr HV4
 generalize (rs.getD p dr)=rp at *
 obtain ⟨⟨yn,ys,yl,ya,yv⟩,ytd⟩:=rp
 simp only at e0 e1 e2 e3 e4 e5 hN hpn
 have hpn2:=hpn.symm
 clear hpn
 subst hpn2
 generalize hN':rs.length=n at *
 have HN:Hid (rs.length=n):=hN'
 clear hN'
 go_wp2_with fail
 have E0:∀ d os,(Go.Sort.grow (redrawn w4 d) os).cell? ⟨w.heap.size,0,none⟩=some (.string nm):=cell_regrown (C4 0)
 have E1:∀ d os,(Go.Sort.grow (redrawn w4 d) os).cell? ⟨w.heap.size,1,none⟩=some (.int .i64 st):=cell_regrown (C4 1)
 have E2:∀ d os,(Go.Sort.grow (redrawn w4 d) os).cell? ⟨w.heap.size,2,none⟩=some (.int .i64 lf):=cell_regrown (C4 2)
 have E3:∀ d os,(Go.Sort.grow (redrawn w4 d) os).cell? ⟨w.heap.size,3,none⟩=some (.int .i64 ad):=cell_regrown (C4 3)
 have E4:∀ d os,(Go.Sort.grow (redrawn w4 d) os).cell? ⟨w.heap.size,4,none⟩=some (.bool sv):=cell_regrown (C4 4)
 have F0:∀ d os,(Go.Sort.grow (redrawn w4 d) os).cell? ⟨b,off+p * 6,none⟩=some (.string nm):=cell_regrown e0
 have F1:∀ d os,(Go.Sort.grow (redrawn w4 d) os).cell? ⟨b,off+p * 6+1,none⟩=some (.int .i64 ys):=cell_regrown e1
 have F2:∀ d os,(Go.Sort.grow (redrawn w4 d) os).cell? ⟨b,off+p * 6+2,none⟩=some (.int .i64 yl):=cell_regrown e2
 have F3:∀ d os,(Go.Sort.grow (redrawn w4 d) os).cell? ⟨b,off+p * 6+3,none⟩=some (.int .i64 ya):=cell_regrown e3
 have F4:∀ d os,(Go.Sort.grow (redrawn w4 d) os).cell? ⟨b,off+p * 6+4,none⟩=some (.bool yv):=cell_regrown e4
 have cN:∀ d os,Calls Tryz.prog 190 #[.agg #[.string nm,.int .i64 st,.int .i64 lf,.int .i64 ad,.bool sv],.agg #[.string nm,.int .i64 ys,.int .i64 yl,.int .i64 ya,.bool yv]] (Go.Sort.grow (redrawn w4 d) os) fun e w''=>e=.returned (.tuple #[.bool false,.int .i64 0])∧∃ p:Regrown,w''=Go.Sort.grow (redrawn w4 p.d) p.os:=fun d os=>
  Calls.regrown_of ((hN _).mono (by rintro e w' ⟨rfl,hb⟩;exact ⟨rfl,hb⟩))
 clear e0 e1 e2 e3 e4 e5 hN
 refine wp_region_quiet_below (by kernel_rfl) (by kernel_rfl) ?_
 repeat (quiet_step (exact cN _ _))
 refine wpQuiet_nil ?_
 intro _ hw'
 obtain ⟨⟨dq,osq⟩,hw''⟩:=hw'
 subst hw''
 have HBQ:Hid (Below w4.heap.size w4 (Go.Sort.grow (redrawn w4 dq) osq)):=below_regrown w4 dq osq
 clear cN E0 E1 E2 E3 E4 F0 F1 F2 F3 F4
 have HO6:Hid (ROwn w.heap.size (Go.Sort.grow (redrawn w4 dq) osq) (.slice a3 n ca3) rs):=(HO4.out.below HBQ.out).base (by omega)
 have HB6:Hid (Below w.heap.size w (Go.Sort.grow (redrawn w4 dq) osq)):=HB5.out.trans (HBQ.out.mono HB5.out.size)
 clear HO4 HBQ
 go_wp2_with fail
 go_ret2
 exact ⟨_,rfl,HO6.out,HB6.out⟩
set_option maxHeartbeats 3200000 in
set_option maxRecDepth 100000 in
theorem put_newer (rs:List Rum) (v:Value) (m:Mem) (w:World) (hv:RSl w v rs) (hm:m.name.size≤maxLen) (h0:chkR rs=0) (he:m.e=0) (p:Nat) (hp:p < rs.length) (hpn:(rs.getD p dr).m.name=m.name) (HNEW:newM m (rs.getD p dr).m=true) :
 Calls Tryz.prog 195 #[v,.agg #[.string m.name,.int .i64 m.state,.int .i64 m.life,.int .i64 m.addr,.bool m.server]] w fun e w'=>∃ v',e=.returned (.tuple #[v',.int .i64 0])∧ROwn w.heap.size w' v' (rs.eraseIdx p++[⟨m,0⟩])∧Below w.heap.size w w':=by
 obtain ⟨i0,hi0,hz0,hzs,hzb⟩:=info_parts Tryz.infoR
 have HV:Hid (RSl w v rs):=hv
 have hchk:=fun (w:World) (h:RSl w v rs)=>checkR_any rs v w h
 rw [h0] at hchk
 have hcm:=fun w=>checkMember_any m w hm
 rw [he] at hcm
 have HH:Hid (Maps.has (Dm (rnames rs) rs.length) (kS m.name)=true):=(Dm_has _ _ _).2 ⟨p,hp,by rw [rnames_get];exact hpn⟩
 have HAT:Hid ((Dm (rnames rs) rs.length).atKey (kS m.name) (.lit (.int .i64 0))=.lit (.int .i64 p)):=Dm_at _ _ _ _ p hp (by rw [rnames_get];exact hpn) (fun i hi hk=>by rw [rnames_get,← hpn];exact fun e=>(chkR_zero h0).2.2.2 p i hi hk e.symm)
 have hn20:rs.length≤20:=(chkR_zero h0).1
 have HEP:Hid ((rs.getD p dr).m.e=0):=(chkR_zero h0).2.1 p hp
 have hnp:(rs.getD p dr).m.name.size≤maxLen:=by obtain ⟨_,_,_,h,_⟩:=hv;exact h p
 have HN0:Hid (newE m (rs.getD p dr).m=0):=newE_zero he HEP.out hpn.symm
 clear h0 he hv HEP
 obtain ⟨nm,st,lf,ad,sv⟩:=m
 simp only at *
 have hB0:Below w.heap.size w (w.alloc (.cells #[.string nm,.int .i64 st,.int .i64 lf,.int .i64 ad,.bool sv] 56)):=(Below.refl _ _).alloc (Nat.le_refl _) _
 go_enter Tryz.func195,Tryz.ntmps195
 go_wp2_with fail
 refine (hchk _ (HV.out.below hB0)).mono ?_
 rintro e w1 ⟨rfl,hb1⟩
 have c1:∀ o,w1.cell? ⟨w.heap.size,o,none⟩=#[Value.string nm,.int .i64 st,.int .i64 lf,.int .i64 ad,.bool sv][o]?:=fun o=>by
  rw [hb1.cell (p:=⟨w.heap.size,o,none⟩) (by simp)];exact cell_top' rfl
 have HB1:Hid (Below w.heap.size w w1):=hB0.trans (hb1.mono (by simp))
 have hz1:w.heap.size < w1.heap.size:=by have:=hb1.size;simp at this;omega
 clear hb1 hB0 hchk
 go_wp2_with fail
 refine (hcm _).mono ?_
 rintro e w2 ⟨rfl,hb2⟩
 have c2:∀ o,w2.cell? ⟨w.heap.size,o,none⟩=#[Value.string nm,.int .i64 st,.int .i64 lf,.int .i64 ad,.bool sv][o]?:=fun o=>by
  rw [hb2.cell (p:=⟨w.heap.size,o,none⟩) (by simp only;omega)];exact c1 o
 have HB2:Hid (Below w.heap.size w w2):=HB1.out.trans (hb2.mono HB1.out.size)
 have hz2:w.heap.size < w2.heap.size:=by have:=hb2.size;omega
 clear hb2 c1 hz1 HB1 hcm
 go_wp2_with fail
 refine (rclone_any rs v _ (HV.out.below HB2.out) (by omega)).mono ?_
 rintro e w3 ⟨v3,rfl,ho3,hb3⟩
 have HO3:Hid (ROwn w2.heap.size w3 v3 rs):=ho3
 have c3:w3.cell? ⟨w.heap.size,0,none⟩=some (.string nm):=by
  rw [hb3.cell (p:=⟨w.heap.size,0,none⟩) (by simp only;omega)];exact c2 0
 have C3:Hid (∀ o,w3.cell? ⟨w.heap.size,o,none⟩=#[Value.string nm,.int .i64 st,.int .i64 lf,.int .i64 ad,.bool sv][o]?):=fun o=>by
  rw [hb3.cell (p:=⟨w.heap.size,o,none⟩) (by simp only;omega)];exact c2 o
 have HB3:Hid (Below w.heap.size w w3):=HB2.out.trans (hb3.mono HB2.out.size)
 have hz3:w.heap.size < w3.heap.size:=by have:=hb3.size;omega
 have hz23:w2.heap.size≤w3.heap.size:=hb3.size
 clear hb3 ho3 c2
 go_wp2_with fail
 go_region_held3 (fun w'=>w'.cell? ⟨w.heap.size,0,none⟩=some (.string nm)) (first | assumption | go_keep) (first | (go_at_call 181;refine (met_any rs v _ ((HV.out.below HB3.out).below (Below.refl _ _).drew) (by omega)).mono ?_;rintro e w4 ⟨rfl,hown,hb4⟩;obtain ⟨cq,hrun,hat⟩:=look_any hown hm;rw [HH.out] at hrun;rw [HAT.out] at hat;have hcq:cq=p:=(by simp at hat;exact hat.symm);subst hcq;have hr2:(Instr.lookup 131 (.map (some w3.heap.size)) (.string nm) true).run Tryz.prog w4=.ok (.tuple #[.int .i64 p,.bool true]) w4:=hrun;clear hrun hat hown;have HB4:Hid (Below w3.heap.size w3 w4):=(Below.refl w3.heap.size w3).drew.trans hb4;have hS:w4.cell? ⟨w.heap.size,0,none⟩=some (.string nm):=((hb4.cell (p:=⟨w.heap.size,0,none⟩) hz3).trans c3);clear hb4))
 obtain ⟨a3,ca3,hv3⟩:=HO3.out.slice
 subst hv3
 have C4:∀ o,w4.cell? ⟨w.heap.size,o,none⟩=#[Value.string nm,.int .i64 st,.int .i64 lf,.int .i64 ad,.bool sv][o]?:=fun o=>by
  rw [HB4.out.cell (p:=⟨w.heap.size,o,none⟩) hz3];exact C3.out o
 have HO4:Hid (ROwn w2.heap.size w4 (.slice a3 rs.length ca3) rs):=HO3.out.below HB4.out
 have HB5:Hid (Below w.heap.size w w4):=HB3.out.trans (HB4.out.mono HB3.out.size)
 have hz5:w2.heap.size≤w4.heap.size:=by have:=HB4.out.size;omega
 have HV4:Hid (RSl w4 v rs):=HV.out.below HB5.out
 clear HO3 C3 HB4 HB3 c3 hr2 HV
 obtain ⟨pa,ca,hvv,_,hrow⟩:=HV4.out
 subst hvv
 obtain ⟨b,off,hpa,hlb,hr⟩:∃ b off,pa=some ⟨b,off,none⟩∧b < w4.heap.size∧RRow w4 b off rs:=by
  rcases hrow with h | h
  ·rw [h] at hp;simp at hp
  ·exact h
 subst hpa
 obtain ⟨e0,e1,e2,e3,e4,e5⟩:=hr p hp
 have hN:=fun w=>newer2_any ⟨nm,st,lf,ad,sv⟩ (rs.getD p dr).m w hm hnp
 rw [HN0.out,HNEW] at hN
 simp only [beq_self_eq_true,Bool.true_and] at hN
 clear hrow hr HV4
 generalize (rs.getD p dr)=rp at *
 obtain ⟨⟨yn,ys,yl,ya,yv⟩,ytd⟩:=rp
 simp only at e0 e1 e2 e3 e4 e5 hN hpn
 have hpn2:=hpn.symm
 clear hpn
 subst hpn2
 generalize hN':rs.length=n at *
 have HN:Hid (rs.length=n):=hN'
 clear hN'
 go_wp2_with fail
 have E0:∀ d os,(Go.Sort.grow (redrawn w4 d) os).cell? ⟨w.heap.size,0,none⟩=some (.string nm):=cell_regrown (C4 0)
 have E1:∀ d os,(Go.Sort.grow (redrawn w4 d) os).cell? ⟨w.heap.size,1,none⟩=some (.int .i64 st):=cell_regrown (C4 1)
 have E2:∀ d os,(Go.Sort.grow (redrawn w4 d) os).cell? ⟨w.heap.size,2,none⟩=some (.int .i64 lf):=cell_regrown (C4 2)
 have E3:∀ d os,(Go.Sort.grow (redrawn w4 d) os).cell? ⟨w.heap.size,3,none⟩=some (.int .i64 ad):=cell_regrown (C4 3)
 have E4:∀ d os,(Go.Sort.grow (redrawn w4 d) os).cell? ⟨w.heap.size,4,none⟩=some (.bool sv):=cell_regrown (C4 4)
 have F0:∀ d os,(Go.Sort.grow (redrawn w4 d) os).cell? ⟨b,off+p * 6,none⟩=some (.string nm):=cell_regrown e0
 have F1:∀ d os,(Go.Sort.grow (redrawn w4 d) os).cell? ⟨b,off+p * 6+1,none⟩=some (.int .i64 ys):=cell_regrown e1
 have F2:∀ d os,(Go.Sort.grow (redrawn w4 d) os).cell? ⟨b,off+p * 6+2,none⟩=some (.int .i64 yl):=cell_regrown e2
 have F3:∀ d os,(Go.Sort.grow (redrawn w4 d) os).cell? ⟨b,off+p * 6+3,none⟩=some (.int .i64 ya):=cell_regrown e3
 have F4:∀ d os,(Go.Sort.grow (redrawn w4 d) os).cell? ⟨b,off+p * 6+4,none⟩=some (.bool yv):=cell_regrown e4
 have cN:∀ d os,Calls Tryz.prog 190 #[.agg #[.string nm,.int .i64 st,.int .i64 lf,.int .i64 ad,.bool sv],.agg #[.string nm,.int .i64 ys,.int .i64 yl,.int .i64 ya,.bool yv]] (Go.Sort.grow (redrawn w4 d) os) fun e w''=>e=.returned (.tuple #[.bool true,.int .i64 0])∧∃ p:Regrown,w''=Go.Sort.grow (redrawn w4 p.d) p.os:=fun d os=>
  Calls.regrown_of ((hN _).mono (by rintro e w' ⟨rfl,hb⟩;exact ⟨rfl,hb⟩))
 clear e0 e1 e2 e3 e4 e5 hN
 refine wp_region_quiet_below (by kernel_rfl) (by kernel_rfl) ?_
 repeat (quiet_step (exact cN _ _))
 refine wpQuiet_nil ?_
 intro _ hw'
 obtain ⟨⟨dq,osq⟩,hw''⟩:=hw'
 subst hw''
 have HBQ:Hid (Below w4.heap.size w4 (Go.Sort.grow (redrawn w4 dq) osq)):=below_regrown w4 dq osq
 clear cN E0 E1 E2 E3 E4 F0 F1 F2 F3 F4
 have HN1:Hid (rs.length=n):=HN
 obtain ⟨g,c,ha3,hc3⟩:∃ g c,a3=some ⟨g,0,none⟩∧ca3=c:=by
  rcases HO4.out.2 with ⟨_,h0⟩ | ⟨g,c,cur,h,_⟩
  ·have:=HN.out;omega
  ·simp only [Value.slice.injEq] at h
   exact ⟨g,c,h.1,h.2.2⟩
 subst ha3
 subst hc3
 have HO6:Hid (ROwn w2.heap.size (Go.Sort.grow (redrawn w4 dq) osq) (.slice (some ⟨g,0,none⟩) n ca3) rs):=HO4.out.below HBQ.out
 have HB6:Hid (Below w.heap.size w (Go.Sort.grow (redrawn w4 dq) osq)):=HB5.out.trans (HBQ.out.mono HB5.out.size)
 have C6:∀ o,(Go.Sort.grow (redrawn w4 dq) osq).cell? ⟨w.heap.size,o,none⟩=#[Value.string nm,.int .i64 st,.int .i64 lf,.int .i64 ad,.bool sv][o]?:=fun o=>by
  rw [HBQ.out.cell (p:=⟨w.heap.size,o,none⟩) (by simp only;omega)];exact C4 o
 have hz6:w2.heap.size≤(Go.Sort.grow (redrawn w4 dq) osq).heap.size:=by have:=HBQ.out.size;omega
 clear HO4 HBQ C4
 generalize Go.Sort.grow (redrawn w4 dq) osq=w6 at *
 go_wp2_with fail
 refine (delete_any rs n p g ca3 w2.heap.size _ HN.out HO6.out hp (by omega)).mono ?_
 rintro e w7 ⟨rfl,ho7,hb7⟩
 have C7:∀ o,w7.cell? ⟨w.heap.size,o,none⟩=#[Value.string nm,.int .i64 st,.int .i64 lf,.int .i64 ad,.bool sv][o]?:=fun o=>by
  rw [hb7.cell (p:=⟨w.heap.size,o,none⟩) (by simp only;omega)];exact C6 o
 have HB7:Hid (Below w.heap.size w w7):=HB6.out.trans (hb7.mono (by omega))
 have hz7:w2.heap.size≤w7.heap.size:=by have:=hb7.size;omega
 have HLE:Hid ((rs.eraseIdx p).length=n - 1):=(show (rs.eraseIdx p).length=n - 1 by rw [List.length_eraseIdx,if_pos (by rw [HN.out];exact hp),HN.out])
 have HO8:Hid (∀ ob,(w7.alloc ob).ownsRow w2.heap.size 98 6 (.slice (some ⟨g,0,none⟩) (n - 1) ca3) (n - 1) (flR (rs.eraseIdx p))):=fun ob=>by
  have h:=ROwn.below (ms:=rs.eraseIdx p) ho7 ((Below.refl _ _).alloc (Nat.le_refl _) ob)
  have h2:(w7.alloc ob).ownsRow w2.heap.size 98 6 (.slice (some ⟨g,0,none⟩) (n - 1) ca3) (rs.eraseIdx p).length (flR (rs.eraseIdx p)):=h
  rw [HLE.out] at h2
  exact h2
 have HLT:Hid (∀ k,(Value.slice (some ⟨g,0,none⟩) (n - 1) ca3).ownBlock=some k→w.heap.size≤k):=fun k hk=>by have:=(ROwn.lt (ms:=rs.eraseIdx p) ho7 k hk).1;omega
 have HSN:Hid (∀ (w':World) (v':Value),w'.ownsRow w2.heap.size 98 6 v' (n - 1+1) (flR (rs.eraseIdx p)++(Rum.mk ⟨nm,st,lf,ad,sv⟩ 0).cs)→ROwn w.heap.size w' v' (rs.eraseIdx p++[⟨⟨nm,st,lf,ad,sv⟩,0⟩])):=fun w' v' h=>(rown_snoc (by rw [HLE.out];exact h)).base (by omega)
 have hn19:n - 1≤19:=by omega
 clear hb7 ho7 C6 HB6 HO6 HLE
 generalize hn1:n - 1=n1 at *
 clear hn1
 go_wp2_with (at_builtin;refine wpList_append_own _ rfl _ _ 46 rfl w2.heap.size 98 i0 _ 6 56 Tryz.underlying46 hi0 hz0 hzs hzb rfl (by omega) _ n1 (flR (rs.eraseIdx p)) rfl ?hown ⟨w7.heap.size,0,none⟩ 1 1 (Rum.mk ⟨nm,st,lf,ad,sv⟩ 0).cs rfl rfl ?hnews (rcs_one _) ?h63 ?hbytes ?hbase ?_)
 case hown=>exact HO8.out _
 case hnews=>(intro j u hj;rw [Addr.add_lit];exact (cell_top' (by simp)).trans (by simpa [Rum.cs] using hj))
 case h63=>(unfold maxLen;omega)
 case hbytes=>omega
 case hbase=>(simp;omega)
 intro v' w8 r1 r2 r3
 have R1:Hid (ROwn w.heap.size w8 v' (rs.eraseIdx p++[⟨⟨nm,st,lf,ad,sv⟩,0⟩])):=HSN.out w8 v' r1
 have R2:Hid (Below w.heap.size w w8):=(HB7.out.alloc HB7.out.size _).grown r2 (by have:=HB7.out.size;simp;omega) (fun k hk=>HLT.out k hk)
 clear r1 r2 r3
 go_wp2_with fail
 go_ret2
 exact ⟨v',rfl,R1.out,R2.out⟩
theorem beq_names (a b:ByteArray):(a.toList == b.toList)=decide (a=b):=by
 by_cases h:a=b
 ·subst h;simp
 ·have h2:¬ a.toList=b.toList:=fun e=>h (ba_ext (by rw [Lib.toList_data,Lib.toList_data] at e;exact e))
  simp [h,h2]
end Go.Proofs.YtffdoiokmiklgaaGreatDoor
