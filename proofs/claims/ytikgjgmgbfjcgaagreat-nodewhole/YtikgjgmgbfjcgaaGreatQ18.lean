import Derived.Test.YtikgjgmgbfjcgaaGreatQ16
import Derived.Test.YtikgjgmgbfjcgaaGreatQ17
import Derived.Lib.QuietBelow
namespace Go.Proofs.YtikgjgmgbfjcgaaGreat
open Go.RowKit Go.WideMaps Go.Maps
theorem chkR_zero {rs:List Rum} (h:chkR rs=0):rs.length≤20∧(∀ j,j < rs.length→(rs.getD j dr).m.e=0)∧AllTold rs∧Distinct rs:=by
 unfold chkR at h
 by_cases h1:20 < rs.length
 ·rw [if_pos h1] at h;omega
 rw [if_neg h1] at h
 by_cases h2:firstE (rmems rs)=0
 ·rw [if_pos h2] at h
  by_cases h3:AllTold rs
  ·rw [if_pos h3] at h
   by_cases h4:Distinct rs
   ·refine ⟨by omega,fun j hj=>?_,h3,h4⟩
    have:=firstE_at0 h2 j (by rw [rmems_len];exact hj)
    rwa [rmems_get] at this
   ·rw [if_neg h4] at h;omega
  ·rw [if_neg h3] at h;omega
 ·rw [if_neg h2] at h;exact absurd h h2
theorem newE_zero {a b:Mem} (ha:a.e=0) (hb:b.e=0) (hn:a.name=b.name):newE a b=0:=by
 have h:chkTwo [a] [b]=0:=by rw [chkTwo,chk_oneR,chk_oneR];simp [ha,hb]
 rw [newE,if_pos h,if_pos hn]
set_option maxHeartbeats 3200000 in
set_option maxRecDepth 100000 in
theorem put_full (rs:List Rum) (v:Value) (m:Mem) (w:World) (hv:RSl w v rs) (hm:m.name.size≤maxLen) (h0:chkR rs=0) (he:m.e=0) (hno:NotIn rs m.name) (hl:rs.length=20) :
 Calls Tryz.prog 206 #[v,.agg #[.string m.name,.int .i64 m.state,.int .i64 m.life,.int .i64 m.addr,.bool m.server]] w fun e w'=>e=.returned (.tuple #[.slice none 0 0,.int .i64 2])∧Below w.heap.size w w':=by
 obtain ⟨i0,hi0,hz0,hzs,hzb⟩:=info_parts Tryz.infoR
 have HV:Hid (RSl w v rs):=hv
 have hchk:=fun (w:World) (h:RSl w v rs)=>checkR_any rs v w h
 rw [h0] at hchk
 have hcm:=fun w=>checkMember_any m w hm
 rw [he] at hcm
 have HH:Hid (Maps.has (Dm (rnames rs) rs.length) (kS m.name)=false):=has_not hno
 clear h0 he hv
 obtain ⟨nm,st,lf,ad,sv⟩:=m
 simp only at *
 have hB0:Below w.heap.size w (w.alloc (.cells #[.string nm,.int .i64 st,.int .i64 lf,.int .i64 ad,.bool sv] 37)):=(Below.refl _ _).alloc (Nat.le_refl _) _
 go_enter Tryz.func206,Tryz.ntmps206
 go_wp2_with fail
 refine (hchk _ (HV.out.below hB0)).mono ?_
 rintro e w1 ⟨rfl,hb1⟩
 have c1:∀ o,w1.cell? ⟨w.heap.size,o,none⟩=#[Value.string nm,.int .i64 st,.int .i64 lf,.int .i64 ad,.bool sv][o]?:=fun o=>by
  rw [hb1.cell (p:=⟨w.heap.size,o,none⟩) (by simp)];exact cell_top' rfl
 have HB1:Hid (Below w.heap.size w w1):=hB0.trans (hb1.mono (by simp))
 have hz1:w.heap.size < w1.heap.size:=by have:=hb1.size;simp at this;omega
 clear hb1 hB0 hchk
 go_wp2_with fail
 refine (hcm _).mono ?_
 rintro e w2 ⟨rfl,hb2⟩
 have c2:∀ o,w2.cell? ⟨w.heap.size,o,none⟩=#[Value.string nm,.int .i64 st,.int .i64 lf,.int .i64 ad,.bool sv][o]?:=fun o=>by
  rw [hb2.cell (p:=⟨w.heap.size,o,none⟩) (by simp only;omega)];exact c1 o
 have HB2:Hid (Below w.heap.size w w2):=HB1.out.trans (hb2.mono HB1.out.size)
 have hz2:w.heap.size < w2.heap.size:=by have:=hb2.size;omega
 clear hb2 c1 hz1 HB1 hcm
 go_wp2_with fail
 refine (rclone_any rs v _ (HV.out.below HB2.out) (by omega)).mono ?_
 rintro e w3 ⟨v3,rfl,ho3,hb3⟩
 have HO3:Hid (ROwn w2.heap.size w3 v3 rs):=ho3
 have c3:w3.cell? ⟨w.heap.size,0,none⟩=some (.string nm):=by
  rw [hb3.cell (p:=⟨w.heap.size,0,none⟩) (by simp only;omega)];exact c2 0
 have C3:Hid (∀ o,w3.cell? ⟨w.heap.size,o,none⟩=#[Value.string nm,.int .i64 st,.int .i64 lf,.int .i64 ad,.bool sv][o]?):=fun o=>by
  rw [hb3.cell (p:=⟨w.heap.size,o,none⟩) (by simp only;omega)];exact c2 o
 have HB3:Hid (Below w.heap.size w w3):=HB2.out.trans (hb3.mono HB2.out.size)
 have hz3:w.heap.size < w3.heap.size:=by have:=hb3.size;omega
 have hz23:w2.heap.size≤w3.heap.size:=hb3.size
 clear hb3 ho3 c2
 go_wp2_with fail
 go_region_held3 (fun w'=>w'.cell? ⟨w.heap.size,0,none⟩=some (.string nm)) (first | assumption | go_keep) (first | (go_at_call 144;refine (met_any rs v _ ((HV.out.below HB3.out).below (Below.refl _ _).drew) (by omega)).mono ?_;rintro e w4 ⟨rfl,hown,hb4⟩;obtain ⟨cq,hrun,hat⟩:=look_any hown hm;rw [HH.out] at hrun;have hr2:(Instr.lookup 162 (.map (some w3.heap.size)) (.string nm) true).run Tryz.prog w4=.ok (.tuple #[.int .i64 cq,.bool false]) w4:=hrun;clear hrun hat hown;have HB4:Hid (Below w3.heap.size w3 w4):=(Below.refl w3.heap.size w3).drew.trans hb4;have hS:w4.cell? ⟨w.heap.size,0,none⟩=some (.string nm):=((hb4.cell (p:=⟨w.heap.size,0,none⟩) hz3).trans c3);clear hb4))
 obtain ⟨a3,ca3,hv3⟩:=HO3.out.slice
 subst hv3
 have HB5:Hid (Below w.heap.size w w4):=HB3.out.trans (HB4.out.mono HB3.out.size)
 clear HO3 C3 HB4 HB3 c3 hr2
 rw [hl]
 go_wp2_with fail
 go_ret2
 exact ⟨rfl,HB5.out⟩
set_option maxHeartbeats 1600000 in
set_option maxRecDepth 100000 in
theorem put_old (rs:List Rum) (v:Value) (m:Mem) (w:World) (hv:RSl w v rs) (hm:m.name.size≤maxLen) (h0:chkR rs=0) (he:m.e=0) (p:Nat) (hp:p < rs.length) (hpn:(rs.getD p dr).m.name=m.name) (HNEW:newM m (rs.getD p dr).m=false) :
 Calls Tryz.prog 206 #[v,.agg #[.string m.name,.int .i64 m.state,.int .i64 m.life,.int .i64 m.addr,.bool m.server]] w fun e w'=>∃ v',e=.returned (.tuple #[v',.int .i64 0])∧ROwn w.heap.size w' v' rs∧Below w.heap.size w w':=by
 obtain ⟨i0,hi0,hz0,hzs,hzb⟩:=info_parts Tryz.infoR
 have HV:Hid (RSl w v rs):=hv
 have hchk:=fun (w:World) (h:RSl w v rs)=>checkR_any rs v w h
 rw [h0] at hchk
 have hcm:=fun w=>checkMember_any m w hm
 rw [he] at hcm
 have HH:Hid (Maps.has (Dm (rnames rs) rs.length) (kS m.name)=true):=(Dm_has _ _ _).2 ⟨p,hp,by rw [rnames_get];exact hpn⟩
 have HAT:Hid ((Dm (rnames rs) rs.length).atKey (kS m.name) (.lit (.int .i64 0))=.lit (.int .i64 p)):=Dm_at _ _ _ _ p hp (by rw [rnames_get];exact hpn) (fun i hi hk=>by rw [rnames_get,← hpn];exact fun e=>(chkR_zero h0).2.2.2 p i hi hk e.symm)
 have hn20:rs.length≤20:=(chkR_zero h0).1
 have HEP:Hid ((rs.getD p dr).m.e=0):=(chkR_zero h0).2.1 p hp
 have hnp:(rs.getD p dr).m.name.size≤maxLen:=by obtain ⟨_,_,_,h,_⟩:=hv;exact h p
 have HN0:Hid (newE m (rs.getD p dr).m=0):=newE_zero he HEP.out hpn.symm
 clear h0 he hv HEP
 obtain ⟨nm,st,lf,ad,sv⟩:=m
 simp only at *
 have hB0:Below w.heap.size w (w.alloc (.cells #[.string nm,.int .i64 st,.int .i64 lf,.int .i64 ad,.bool sv] 37)):=(Below.refl _ _).alloc (Nat.le_refl _) _
 go_enter Tryz.func206,Tryz.ntmps206
 go_wp2_with fail
 refine (hchk _ (HV.out.below hB0)).mono ?_
 rintro e w1 ⟨rfl,hb1⟩
 have c1:∀ o,w1.cell? ⟨w.heap.size,o,none⟩=#[Value.string nm,.int .i64 st,.int .i64 lf,.int .i64 ad,.bool sv][o]?:=fun o=>by
  rw [hb1.cell (p:=⟨w.heap.size,o,none⟩) (by simp)];exact cell_top' rfl
 have HB1:Hid (Below w.heap.size w w1):=hB0.trans (hb1.mono (by simp))
 have hz1:w.heap.size < w1.heap.size:=by have:=hb1.size;simp at this;omega
 clear hb1 hB0 hchk
 go_wp2_with fail
 refine (hcm _).mono ?_
 rintro e w2 ⟨rfl,hb2⟩
 have c2:∀ o,w2.cell? ⟨w.heap.size,o,none⟩=#[Value.string nm,.int .i64 st,.int .i64 lf,.int .i64 ad,.bool sv][o]?:=fun o=>by
  rw [hb2.cell (p:=⟨w.heap.size,o,none⟩) (by simp only;omega)];exact c1 o
 have HB2:Hid (Below w.heap.size w w2):=HB1.out.trans (hb2.mono HB1.out.size)
 have hz2:w.heap.size < w2.heap.size:=by have:=hb2.size;omega
 clear hb2 c1 hz1 HB1 hcm
 go_wp2_with fail
 refine (rclone_any rs v _ (HV.out.below HB2.out) (by omega)).mono ?_
 rintro e w3 ⟨v3,rfl,ho3,hb3⟩
 have HO3:Hid (ROwn w2.heap.size w3 v3 rs):=ho3
 have c3:w3.cell? ⟨w.heap.size,0,none⟩=some (.string nm):=by
  rw [hb3.cell (p:=⟨w.heap.size,0,none⟩) (by simp only;omega)];exact c2 0
 have C3:Hid (∀ o,w3.cell? ⟨w.heap.size,o,none⟩=#[Value.string nm,.int .i64 st,.int .i64 lf,.int .i64 ad,.bool sv][o]?):=fun o=>by
  rw [hb3.cell (p:=⟨w.heap.size,o,none⟩) (by simp only;omega)];exact c2 o
 have HB3:Hid (Below w.heap.size w w3):=HB2.out.trans (hb3.mono HB2.out.size)
 have hz3:w.heap.size < w3.heap.size:=by have:=hb3.size;omega
 have hz23:w2.heap.size≤w3.heap.size:=hb3.size
 clear hb3 ho3 c2
 go_wp2_with fail
 go_region_held3 (fun w'=>w'.cell? ⟨w.heap.size,0,none⟩=some (.string nm)) (first | assumption | go_keep) (first | (go_at_call 144;refine (met_any rs v _ ((HV.out.below HB3.out).below (Below.refl _ _).drew) (by omega)).mono ?_;rintro e w4 ⟨rfl,hown,hb4⟩;obtain ⟨cq,hrun,hat⟩:=look_any hown hm;rw [HH.out] at hrun;rw [HAT.out] at hat;have hcq:cq=p:=(by simp at hat;exact hat.symm);subst hcq;have hr2:(Instr.lookup 162 (.map (some w3.heap.size)) (.string nm) true).run Tryz.prog w4=.ok (.tuple #[.int .i64 p,.bool true]) w4:=hrun;clear hrun hat hown;have HB4:Hid (Below w3.heap.size w3 w4):=(Below.refl w3.heap.size w3).drew.trans hb4;have hS:w4.cell? ⟨w.heap.size,0,none⟩=some (.string nm):=((hb4.cell (p:=⟨w.heap.size,0,none⟩) hz3).trans c3);clear hb4))
 obtain ⟨a3,ca3,hv3⟩:=HO3.out.slice
 subst hv3
 have C4:∀ o,w4.cell? ⟨w.heap.size,o,none⟩=#[Value.string nm,.int .i64 st,.int .i64 lf,.int .i64 ad,.bool sv][o]?:=fun o=>by
  rw [HB4.out.cell (p:=⟨w.heap.size,o,none⟩) hz3];exact C3.out o
 have HO4:Hid (ROwn w2.heap.size w4 (.slice a3 rs.length ca3) rs):=HO3.out.below HB4.out
 have HB5:Hid (Below w.heap.size w w4):=HB3.out.trans (HB4.out.mono HB3.out.size)
 have hz5:w2.heap.size≤w4.heap.size:=by have:=HB4.out.size;omega
 have HV4:Hid (RSl w4 v rs):=HV.out.below HB5.out
 clear HO3 C3 HB4 HB3 c3 hr2 HV
 obtain ⟨pa,ca,hvv,_,hrow⟩:=HV4.out
 subst hvv
 obtain ⟨b,off,hpa,hlb,hr⟩:∃ b off,pa=some ⟨b,off,none⟩∧b < w4.heap.size∧RRow w4 b off rs:=by
  rcases hrow with h | h
  ·rw [h] at hp;simp at hp
  ·exact h
 subst hpa
 obtain ⟨e0,e1,e2,e3,e4,e5⟩:=hr p hp
 have hN:=fun w=>newer2_any ⟨nm,st,lf,ad,sv⟩ (rs.getD p dr).m w hm hnp
 rw [HN0.out,HNEW] at hN
 simp only [beq_self_eq_true,Bool.true_and] at hN
 clear hrow hr HV4
 generalize (rs.getD p dr)=rp at *
 obtain ⟨⟨yn,ys,yl,ya,yv⟩,ytd⟩:=rp
 simp only at e0 e1 e2 e3 e4 e5 hN hpn
 have hpn2:=hpn.symm
 clear hpn
 subst hpn2
 generalize hN':rs.length=n at *
 have HN:Hid (rs.length=n):=hN'
 clear hN'
 go_wp2_with fail
 have E0:∀ d os,(Go.Sort.grow (redrawn w4 d) os).cell? ⟨w.heap.size,0,none⟩=some (.string nm):=cell_regrown (C4 0)
 have E1:∀ d os,(Go.Sort.grow (redrawn w4 d) os).cell? ⟨w.heap.size,1,none⟩=some (.int .i64 st):=cell_regrown (C4 1)
 have E2:∀ d os,(Go.Sort.grow (redrawn w4 d) os).cell? ⟨w.heap.size,2,none⟩=some (.int .i64 lf):=cell_regrown (C4 2)
 have E3:∀ d os,(Go.Sort.grow (redrawn w4 d) os).cell? ⟨w.heap.size,3,none⟩=some (.int .i64 ad):=cell_regrown (C4 3)
 have E4:∀ d os,(Go.Sort.grow (redrawn w4 d) os).cell? ⟨w.heap.size,4,none⟩=some (.bool sv):=cell_regrown (C4 4)
 have F0:∀ d os,(Go.Sort.grow (redrawn w4 d) os).cell? ⟨b,off+p * 6,none⟩=some (.string nm):=cell_regrown e0
 have F1:∀ d os,(Go.Sort.grow (redrawn w4 d) os).cell? ⟨b,off+p * 6+1,none⟩=some (.int .i64 ys):=cell_regrown e1
 have F2:∀ d os,(Go.Sort.grow (redrawn w4 d) os).cell? ⟨b,off+p * 6+2,none⟩=some (.int .i64 yl):=cell_regrown e2
 have F3:∀ d os,(Go.Sort.grow (redrawn w4 d) os).cell? ⟨b,off+p * 6+3,none⟩=some (.int .i64 ya):=cell_regrown e3
 have F4:∀ d os,(Go.Sort.grow (redrawn w4 d) os).cell? ⟨b,off+p * 6+4,none⟩=some (.bool yv):=cell_regrown e4
 have cN:∀ d os,Calls Tryz.prog 157 #[.agg #[.string nm,.int .i64 st,.int .i64 lf,.int .i64 ad,.bool sv],.agg #[.string nm,.int .i64 ys,.int .i64 yl,.int .i64 ya,.bool yv]] (Go.Sort.grow (redrawn w4 d) os) fun e w''=>e=.returned (.tuple #[.bool false,.int .i64 0])∧∃ p:Regrown,w''=Go.Sort.grow (redrawn w4 p.d) p.os:=fun d os=>
  Calls.regrown_of ((hN _).mono (by rintro e w' ⟨rfl,hb⟩;exact ⟨rfl,hb⟩))
 clear e0 e1 e2 e3 e4 e5 hN
 refine wp_region_quiet_below (by kernel_rfl) (by kernel_rfl) ?_
 repeat (quiet_step (exact cN _ _))
 refine wpQuiet_nil ?_
 intro _ hw'
 obtain ⟨⟨dq,osq⟩,hw''⟩:=hw'
 subst hw''
 have HBQ:Hid (Below w4.heap.size w4 (Go.Sort.grow (redrawn w4 dq) osq)):=below_regrown w4 dq osq
 clear cN E0 E1 E2 E3 E4 F0 F1 F2 F3 F4
 have HO6:Hid (ROwn w.heap.size (Go.Sort.grow (redrawn w4 dq) osq) (.slice a3 n ca3) rs):=(HO4.out.below HBQ.out).base (by omega)
 have HB6:Hid (Below w.heap.size w (Go.Sort.grow (redrawn w4 dq) osq)):=HB5.out.trans (HBQ.out.mono HB5.out.size)
 clear HO4 HBQ
 go_wp2_with fail
 go_ret2
 exact ⟨_,rfl,HO6.out,HB6.out⟩
set_option maxHeartbeats 3200000 in
set_option maxRecDepth 100000 in
theorem put_newer (rs:List Rum) (v:Value) (m:Mem) (w:World) (hv:RSl w v rs) (hm:m.name.size≤maxLen) (h0:chkR rs=0) (he:m.e=0) (p:Nat) (hp:p < rs.length) (hpn:(rs.getD p dr).m.name=m.name) (HNEW:newM m (rs.getD p dr).m=true) :
 Calls Tryz.prog 206 #[v,.agg #[.string m.name,.int .i64 m.state,.int .i64 m.life,.int .i64 m.addr,.bool m.server]] w fun e w'=>∃ v',e=.returned (.tuple #[v',.int .i64 0])∧ROwn w.heap.size w' v' (rs.eraseIdx p++[⟨m,0⟩])∧Below w.heap.size w w':=by
 obtain ⟨i0,hi0,hz0,hzs,hzb⟩:=info_parts Tryz.infoR
 have HV:Hid (RSl w v rs):=hv
 have hchk:=fun (w:World) (h:RSl w v rs)=>checkR_any rs v w h
 rw [h0] at hchk
 have hcm:=fun w=>checkMember_any m w hm
 rw [he] at hcm
 have HH:Hid (Maps.has (Dm (rnames rs) rs.length) (kS m.name)=true):=(Dm_has _ _ _).2 ⟨p,hp,by rw [rnames_get];exact hpn⟩
 have HAT:Hid ((Dm (rnames rs) rs.length).atKey (kS m.name) (.lit (.int .i64 0))=.lit (.int .i64 p)):=Dm_at _ _ _ _ p hp (by rw [rnames_get];exact hpn) (fun i hi hk=>by rw [rnames_get,← hpn];exact fun e=>(chkR_zero h0).2.2.2 p i hi hk e.symm)
 have hn20:rs.length≤20:=(chkR_zero h0).1
 have HEP:Hid ((rs.getD p dr).m.e=0):=(chkR_zero h0).2.1 p hp
 have hnp:(rs.getD p dr).m.name.size≤maxLen:=by obtain ⟨_,_,_,h,_⟩:=hv;exact h p
 have HN0:Hid (newE m (rs.getD p dr).m=0):=newE_zero he HEP.out hpn.symm
 clear h0 he hv HEP
 obtain ⟨nm,st,lf,ad,sv⟩:=m
 simp only at *
 have hB0:Below w.heap.size w (w.alloc (.cells #[.string nm,.int .i64 st,.int .i64 lf,.int .i64 ad,.bool sv] 37)):=(Below.refl _ _).alloc (Nat.le_refl _) _
 go_enter Tryz.func206,Tryz.ntmps206
 go_wp2_with fail
 refine (hchk _ (HV.out.below hB0)).mono ?_
 rintro e w1 ⟨rfl,hb1⟩
 have c1:∀ o,w1.cell? ⟨w.heap.size,o,none⟩=#[Value.string nm,.int .i64 st,.int .i64 lf,.int .i64 ad,.bool sv][o]?:=fun o=>by
  rw [hb1.cell (p:=⟨w.heap.size,o,none⟩) (by simp)];exact cell_top' rfl
 have HB1:Hid (Below w.heap.size w w1):=hB0.trans (hb1.mono (by simp))
 have hz1:w.heap.size < w1.heap.size:=by have:=hb1.size;simp at this;omega
 clear hb1 hB0 hchk
 go_wp2_with fail
 refine (hcm _).mono ?_
 rintro e w2 ⟨rfl,hb2⟩
 have c2:∀ o,w2.cell? ⟨w.heap.size,o,none⟩=#[Value.string nm,.int .i64 st,.int .i64 lf,.int .i64 ad,.bool sv][o]?:=fun o=>by
  rw [hb2.cell (p:=⟨w.heap.size,o,none⟩) (by simp only;omega)];exact c1 o
 have HB2:Hid (Below w.heap.size w w2):=HB1.out.trans (hb2.mono HB1.out.size)
 have hz2:w.heap.size < w2.heap.size:=by have:=hb2.size;omega
 clear hb2 c1 hz1 HB1 hcm
 go_wp2_with fail
 refine (rclone_any rs v _ (HV.out.below HB2.out) (by omega)).mono ?_
 rintro e w3 ⟨v3,rfl,ho3,hb3⟩
 have HO3:Hid (ROwn w2.heap.size w3 v3 rs):=ho3
 have c3:w3.cell? ⟨w.heap.size,0,none⟩=some (.string nm):=by
  rw [hb3.cell (p:=⟨w.heap.size,0,none⟩) (by simp only;omega)];exact c2 0
 have C3:Hid (∀ o,w3.cell? ⟨w.heap.size,o,none⟩=#[Value.string nm,.int .i64 st,.int .i64 lf,.int .i64 ad,.bool sv][o]?):=fun o=>by
  rw [hb3.cell (p:=⟨w.heap.size,o,none⟩) (by simp only;omega)];exact c2 o
 have HB3:Hid (Below w.heap.size w w3):=HB2.out.trans (hb3.mono HB2.out.size)
 have hz3:w.heap.size < w3.heap.size:=by have:=hb3.size;omega
 have hz23:w2.heap.size≤w3.heap.size:=hb3.size
 clear hb3 ho3 c2
 go_wp2_with fail
 go_region_held3 (fun w'=>w'.cell? ⟨w.heap.size,0,none⟩=some (.string nm)) (first | assumption | go_keep) (first | (go_at_call 144;refine (met_any rs v _ ((HV.out.below HB3.out).below (Below.refl _ _).drew) (by omega)).mono ?_;rintro e w4 ⟨rfl,hown,hb4⟩;obtain ⟨cq,hrun,hat⟩:=look_any hown hm;rw [HH.out] at hrun;rw [HAT.out] at hat;have hcq:cq=p:=(by simp at hat;exact hat.symm);subst hcq;have hr2:(Instr.lookup 162 (.map (some w3.heap.size)) (.string nm) true).run Tryz.prog w4=.ok (.tuple #[.int .i64 p,.bool true]) w4:=hrun;clear hrun hat hown;have HB4:Hid (Below w3.heap.size w3 w4):=(Below.refl w3.heap.size w3).drew.trans hb4;have hS:w4.cell? ⟨w.heap.size,0,none⟩=some (.string nm):=((hb4.cell (p:=⟨w.heap.size,0,none⟩) hz3).trans c3);clear hb4))
 obtain ⟨a3,ca3,hv3⟩:=HO3.out.slice
 subst hv3
 have C4:∀ o,w4.cell? ⟨w.heap.size,o,none⟩=#[Value.string nm,.int .i64 st,.int .i64 lf,.int .i64 ad,.bool sv][o]?:=fun o=>by
  rw [HB4.out.cell (p:=⟨w.heap.size,o,none⟩) hz3];exact C3.out o
 have HO4:Hid (ROwn w2.heap.size w4 (.slice a3 rs.length ca3) rs):=HO3.out.below HB4.out
 have HB5:Hid (Below w.heap.size w w4):=HB3.out.trans (HB4.out.mono HB3.out.size)
 have hz5:w2.heap.size≤w4.heap.size:=by have:=HB4.out.size;omega
 have HV4:Hid (RSl w4 v rs):=HV.out.below HB5.out
 clear HO3 C3 HB4 HB3 c3 hr2 HV
 obtain ⟨pa,ca,hvv,_,hrow⟩:=HV4.out
 subst hvv
 obtain ⟨b,off,hpa,hlb,hr⟩:∃ b off,pa=some ⟨b,off,none⟩∧b < w4.heap.size∧RRow w4 b off rs:=by
  rcases hrow with h | h
  ·rw [h] at hp;simp at hp
  ·exact h
 subst hpa
 obtain ⟨e0,e1,e2,e3,e4,e5⟩:=hr p hp
 have hN:=fun w=>newer2_any ⟨nm,st,lf,ad,sv⟩ (rs.getD p dr).m w hm hnp
 rw [HN0.out,HNEW] at hN
 simp only [beq_self_eq_true,Bool.true_and] at hN
 clear hrow hr HV4
 generalize (rs.getD p dr)=rp at *
 obtain ⟨⟨yn,ys,yl,ya,yv⟩,ytd⟩:=rp
 simp only at e0 e1 e2 e3 e4 e5 hN hpn
 have hpn2:=hpn.symm
 clear hpn
 subst hpn2
 generalize hN':rs.length=n at *
 have HN:Hid (rs.length=n):=hN'
 clear hN'
 go_wp2_with fail
 have E0:∀ d os,(Go.Sort.grow (redrawn w4 d) os).cell? ⟨w.heap.size,0,none⟩=some (.string nm):=cell_regrown (C4 0)
 have E1:∀ d os,(Go.Sort.grow (redrawn w4 d) os).cell? ⟨w.heap.size,1,none⟩=some (.int .i64 st):=cell_regrown (C4 1)
 have E2:∀ d os,(Go.Sort.grow (redrawn w4 d) os).cell? ⟨w.heap.size,2,none⟩=some (.int .i64 lf):=cell_regrown (C4 2)
 have E3:∀ d os,(Go.Sort.grow (redrawn w4 d) os).cell? ⟨w.heap.size,3,none⟩=some (.int .i64 ad):=cell_regrown (C4 3)
 have E4:∀ d os,(Go.Sort.grow (redrawn w4 d) os).cell? ⟨w.heap.size,4,none⟩=some (.bool sv):=cell_regrown (C4 4)
 have F0:∀ d os,(Go.Sort.grow (redrawn w4 d) os).cell? ⟨b,off+p * 6,none⟩=some (.string nm):=cell_regrown e0
 have F1:∀ d os,(Go.Sort.grow (redrawn w4 d) os).cell? ⟨b,off+p * 6+1,none⟩=some (.int .i64 ys):=cell_regrown e1
 have F2:∀ d os,(Go.Sort.grow (redrawn w4 d) os).cell? ⟨b,off+p * 6+2,none⟩=some (.int .i64 yl):=cell_regrown e2
 have F3:∀ d os,(Go.Sort.grow (redrawn w4 d) os).cell? ⟨b,off+p * 6+3,none⟩=some (.int .i64 ya):=cell_regrown e3
 have F4:∀ d os,(Go.Sort.grow (redrawn w4 d) os).cell? ⟨b,off+p * 6+4,none⟩=some (.bool yv):=cell_regrown e4
 have cN:∀ d os,Calls Tryz.prog 157 #[.agg #[.string nm,.int .i64 st,.int .i64 lf,.int .i64 ad,.bool sv],.agg #[.string nm,.int .i64 ys,.int .i64 yl,.int .i64 ya,.bool yv]] (Go.Sort.grow (redrawn w4 d) os) fun e w''=>e=.returned (.tuple #[.bool true,.int .i64 0])∧∃ p:Regrown,w''=Go.Sort.grow (redrawn w4 p.d) p.os:=fun d os=>
  Calls.regrown_of ((hN _).mono (by rintro e w' ⟨rfl,hb⟩;exact ⟨rfl,hb⟩))
 clear e0 e1 e2 e3 e4 e5 hN
 refine wp_region_quiet_below (by kernel_rfl) (by kernel_rfl) ?_
 repeat (quiet_step (exact cN _ _))
 refine wpQuiet_nil ?_
 intro _ hw'
 obtain ⟨⟨dq,osq⟩,hw''⟩:=hw'
 subst hw''
 have HBQ:Hid (Below w4.heap.size w4 (Go.Sort.grow (redrawn w4 dq) osq)):=below_regrown w4 dq osq
 clear cN E0 E1 E2 E3 E4 F0 F1 F2 F3 F4
 have HN1:Hid (rs.length=n):=HN
 obtain ⟨g,c,ha3,hc3⟩:∃ g c,a3=some ⟨g,0,none⟩∧ca3=c:=by
  rcases HO4.out.2 with ⟨_,h0⟩ | ⟨g,c,cur,h,_⟩
  ·have:=HN.out;omega
  ·simp only [Value.slice.injEq] at h
   exact ⟨g,c,h.1,h.2.2⟩
 subst ha3
 subst hc3
 have HO6:Hid (ROwn w2.heap.size (Go.Sort.grow (redrawn w4 dq) osq) (.slice (some ⟨g,0,none⟩) n ca3) rs):=HO4.out.below HBQ.out
 have HB6:Hid (Below w.heap.size w (Go.Sort.grow (redrawn w4 dq) osq)):=HB5.out.trans (HBQ.out.mono HB5.out.size)
 have C6:∀ o,(Go.Sort.grow (redrawn w4 dq) osq).cell? ⟨w.heap.size,o,none⟩=#[Value.string nm,.int .i64 st,.int .i64 lf,.int .i64 ad,.bool sv][o]?:=fun o=>by
  rw [HBQ.out.cell (p:=⟨w.heap.size,o,none⟩) (by simp only;omega)];exact C4 o
 have hz6:w2.heap.size≤(Go.Sort.grow (redrawn w4 dq) osq).heap.size:=by have:=HBQ.out.size;omega
 clear HO4 HBQ C4
 generalize Go.Sort.grow (redrawn w4 dq) osq=w6 at *
 go_wp2_with fail
 refine (delete_any rs n p g ca3 w2.heap.size _ HN.out HO6.out hp (by omega)).mono ?_
 rintro e w7 ⟨rfl,ho7,hb7⟩
 have C7:∀ o,w7.cell? ⟨w.heap.size,o,none⟩=#[Value.string nm,.int .i64 st,.int .i64 lf,.int .i64 ad,.bool sv][o]?:=fun o=>by
  rw [hb7.cell (p:=⟨w.heap.size,o,none⟩) (by simp only;omega)];exact C6 o
 have HB7:Hid (Below w.heap.size w w7):=HB6.out.trans (hb7.mono (by omega))
 have hz7:w2.heap.size≤w7.heap.size:=by have:=hb7.size;omega
 have HLE:Hid ((rs.eraseIdx p).length=n - 1):=(show (rs.eraseIdx p).length=n - 1 by rw [List.length_eraseIdx,if_pos (by rw [HN.out];exact hp),HN.out])
 have HO8:Hid (∀ ob,(w7.alloc ob).ownsRow w2.heap.size 82 6 (.slice (some ⟨g,0,none⟩) (n - 1) ca3) (n - 1) (flR (rs.eraseIdx p))):=fun ob=>by
  have h:=ROwn.below (ms:=rs.eraseIdx p) ho7 ((Below.refl _ _).alloc (Nat.le_refl _) ob)
  have h2:(w7.alloc ob).ownsRow w2.heap.size 82 6 (.slice (some ⟨g,0,none⟩) (n - 1) ca3) (rs.eraseIdx p).length (flR (rs.eraseIdx p)):=h
  rw [HLE.out] at h2
  exact h2
 have HLT:Hid (∀ k,(Value.slice (some ⟨g,0,none⟩) (n - 1) ca3).ownBlock=some k→w.heap.size≤k):=fun k hk=>by have:=(ROwn.lt (ms:=rs.eraseIdx p) ho7 k hk).1;omega
 have HSN:Hid (∀ (w':World) (v':Value),w'.ownsRow w2.heap.size 82 6 v' (n - 1+1) (flR (rs.eraseIdx p)++(Rum.mk ⟨nm,st,lf,ad,sv⟩ 0).cs)→ROwn w.heap.size w' v' (rs.eraseIdx p++[⟨⟨nm,st,lf,ad,sv⟩,0⟩])):=fun w' v' h=>(rown_snoc (by rw [HLE.out];exact h)).base (by omega)
 have hn19:n - 1≤19:=by omega
 clear hb7 ho7 C6 HB6 HO6 HLE
 generalize hn1:n - 1=n1 at *
 clear hn1
 go_wp2_with (at_builtin;refine wpList_append_own _ rfl _ _ 23 rfl w2.heap.size 82 i0 _ 6 56 Tryz.underlying23 hi0 hz0 hzs hzb rfl (by omega) _ n1 (flR (rs.eraseIdx p)) rfl ?hown ⟨w7.heap.size,0,none⟩ 1 1 (Rum.mk ⟨nm,st,lf,ad,sv⟩ 0).cs rfl rfl ?hnews (rcs_one _) ?h63 ?hbytes ?hbase ?_)
 case hown=>exact HO8.out _
 case hnews=>(intro j u hj;rw [Addr.add_lit];exact (cell_top' (by simp)).trans (by simpa [Rum.cs] using hj))
 case h63=>(unfold maxLen;omega)
 case hbytes=>omega
 case hbase=>(simp;omega)
 intro v' w8 r1 r2 r3
 have R1:Hid (ROwn w.heap.size w8 v' (rs.eraseIdx p++[⟨⟨nm,st,lf,ad,sv⟩,0⟩])):=HSN.out w8 v' r1
 have R2:Hid (Below w.heap.size w w8):=(HB7.out.alloc HB7.out.size _).grown r2 (by have:=HB7.out.size;simp;omega) (fun k hk=>HLT.out k hk)
 clear r1 r2 r3
 go_wp2_with fail
 go_ret2
 exact ⟨v',rfl,R1.out,R2.out⟩
set_option maxHeartbeats 800000 in
theorem eqInM (d:Nat) (m:Mem) (w:World):(Op.equalIn (d+1+1) 37 (.agg #[.string m.name,.int .i64 m.state,.int .i64 m.life,.int .i64 m.addr,.bool m.server]) (.agg #[.string m.name,.int .i64 m.state,.int .i64 m.life,.int .i64 m.addr,.bool m.server])).run Tryz.prog w=.ok true w:=by
 obtain ⟨n1,s1,l1,a1,v1⟩:=m
 have u3:=run_underlying Tryz.underlying3
 have a3:=Tryz.isAgg3
 have z3:=Tryz.sizeOf3
 have u4:=run_underlying Tryz.underlying4
 have a4:=Tryz.isAgg4
 have z4:=Tryz.sizeOf4
 have u9:=run_underlying Tryz.underlying9
 have a9:=Tryz.isAgg9
 have z9:=Tryz.sizeOf9
 have hS:Tryz.prog.underlying 37=some (.struct (Tryz.prog.fieldsOf 37)):=by kernel_rfl
 have hp:Tryz.prog.stoodInHeld 37=false:=by kernel_rfl
 rw [run_equalIn_agg w (d+1) 37 _ _ hS hp]
 simp only [Program.fieldsOf,Tryz.underlying37]
 go_simp
set_option maxHeartbeats 800000 in
theorem eqInR (r:Rum) (w:World):(Op.equalIn 10000 82 (.agg #[.string r.m.name,.int .i64 r.m.state,.int .i64 r.m.life,.int .i64 r.m.addr,.bool r.m.server,.int .i64 r.told]) (.agg #[.string r.m.name,.int .i64 r.m.state,.int .i64 r.m.life,.int .i64 r.m.addr,.bool r.m.server,.int .i64 r.told])).run Tryz.prog w=.ok true w:=by
 have hM:=fun w=>eqInM 9997 r.m w
 obtain ⟨⟨n1,s1,l1,a1,v1⟩,t1⟩:=r
 have u3:=run_underlying Tryz.underlying3
 have a3:=Tryz.isAgg3
 have z3:=Tryz.sizeOf3
 have a24:=Tryz.isAgg37
 have z24:=Tryz.sizeOf37
 have hS:Tryz.prog.underlying 82=some (.struct (Tryz.prog.fieldsOf 82)):=by kernel_rfl
 have hp:Tryz.prog.stoodInHeld 82=false:=by kernel_rfl
 simp only at hM
 rw [show (10000:Nat)=9999+1 from rfl,run_equalIn_agg w 9999 82 _ _ hS hp]
 simp only [Program.fieldsOf,Tryz.underlying82]
 go_simp
theorem neqR (r:Rum) (w:World):Sem.run Tryz.prog (binOp .neq 82 (.agg #[.string r.m.name,.int .i64 r.m.state,.int .i64 r.m.life,.int .i64 r.m.addr,.bool r.m.server,.int .i64 r.told]) (.agg #[.string r.m.name,.int .i64 r.m.state,.int .i64 r.m.life,.int .i64 r.m.addr,.bool r.m.server,.int .i64 r.told])) w=.ok (.bool false) w:=by
 rw [run_neq_struct,eqInR]
 rfl
set_option maxHeartbeats 1600000 in
theorem sameR_self (rs:List Rum) (va vb:Value) (w:World) (ha:RSl w va rs) (hb:RSl w vb rs) (hsm:rs.length≤1000) :
 Calls Tryz.prog 95 #[va,vb] w fun e w'=>e=.returned (.bool true)∧Below w.heap.size w w':=by
 obtain ⟨pa,ca,rfl,_,ha⟩:=ha
 obtain ⟨pv,cb,rfl,_,hb⟩:=hb
 have HA:Hid (rs=[]∨∃ b off,pa=some ⟨b,off,none⟩∧b < w.heap.size∧RRow w b off rs):=ha
 have HB:Hid (rs=[]∨∃ b off,pv=some ⟨b,off,none⟩∧b < w.heap.size∧RRow w b off rs):=hb
 clear ha hb
 generalize hna:rs.length=n at *
 have HN:Hid (rs.length=n):=hna
 clear hna
 have hgR:Tryz.prog.eqGuardType Tryz.prog.depth 82=false:=by kernel_rfl
 go_enter Tryz.func95,Tryz.ntmps95
 go_wp2_with fail
 go_loopw [5] (fun i w'=>∃ k:Nat,k≤n∧i=.int .i64 k∧Hid (Below w.heap.size w w')) (fun i _=>n - (intOf i).toNat)
 case atStart=>exact ⟨0,Nat.zero_le _,rfl,Below.refl _ _⟩
 case round=>
  obtain ⟨k,hk,rfl,HBL⟩:=hrel
  by_cases hlt:k < n
  ·obtain ⟨b1,o1,hp1,hl1,hr1⟩:∃ b off,pa=some ⟨b,off,none⟩∧b < w.heap.size∧RRow w b off rs:=by
    rcases HA.out with h | h
    ·have:=HN.out;rw [h] at this;simp at this;omega
    ·exact h
   obtain ⟨b2,o2,hp2,hl2,hr2⟩:∃ b off,pv=some ⟨b,off,none⟩∧b < w.heap.size∧RRow w b off rs:=by
    rcases HB.out with h | h
    ·have:=HN.out;rw [h] at this;simp at this;omega
    ·exact h
   subst hp1
   subst hp2
   obtain ⟨c0,c1,c2,c3,c4,c5⟩:=hr1.below HBL.out hl1 k (by rw [HN.out];exact hlt)
   obtain ⟨d0,d1,d2,d3,d4,d5⟩:=hr2.below HBL.out hl2 k (by rw [HN.out];exact hlt)
   clear hr1 hr2
   have hneq:=neqR (rs.getD k dr)
   generalize rs.getD k dr=rk at *
   obtain ⟨⟨n1,s1,l1,a1,v1⟩,t1⟩:=rk
   simp only at c0 c1 c2 c3 c4 c5 d0 d1 d2 d3 d4 d5 hneq
   go_wp2_with fail
   go_quiet (fail)
   go_wp2_with fail
   go_roundw
   case rel=>exact ⟨k+1,by omega,by go_num,below_drewN HBL.out _⟩
   case measure=>simp [intOf];omega
  ·go_wp2_with fail
   go_ret
   exact ⟨rfl,HBL.out⟩
theorem beq_names (a b:ByteArray):(a.toList == b.toList)=decide (a=b):=by
 by_cases h:a=b
 ·subst h;simp
 ·have h2:¬ a.toList=b.toList:=fun e=>h (ba_ext (by rw [Lib.toList_data,Lib.toList_data] at e;exact e))
  simp [h,h2]
set_option maxHeartbeats 6400000 in
set_option maxRecDepth 100000 in
theorem checkRumors_any (rs:List Rum) (v:Value) (w:World) (hv:RSl w v rs) :
 Calls Tryz.prog 47 #[v] w fun e w'=>e=.returned (.int .i64 (chkR rs))∧Below w.heap.size w w':=by
 obtain ⟨pa,ca,rfl,hsz,ha⟩:=hv
 by_cases hmany:20 < rs.length
 ·have HE:Hid (chkR rs=2):=chkR_many hmany
  go_enter Tryz.func47,Tryz.ntmps47
  go_wp2_with fail
  go_ret
  exact ⟨ret_int HE.out.symm,Below.refl _ _⟩
 have HA:Hid (rs=[]∨∃ b off,pa=some ⟨b,off,none⟩∧b < w.heap.size∧RRow w b off rs):=ha
 have HS:Hid (∀ j,(rs.getD j dr).m.name.size≤maxLen):=hsz
 clear ha hsz
 generalize hN:rs.length=n at *
 have HN:Hid (rs.length=n):=hN
 clear hN
 have hn20:n≤20:=by omega
 go_enter Tryz.func47,Tryz.ntmps47
 go_wp2
 go_loopw [3] (fun i wr=>∃ k:Nat,k≤n∧i=.int .i64 k∧Hid (∀ j,j < k→(rs.getD j dr).m.e=0)∧Hid (Below w.heap.size w wr))
  (fun i _=>n - (intOf i).toNat)
 case atStart=>exact ⟨0,Nat.zero_le _,rfl,fun j hj=>by omega,Below.refl _ _⟩
 case round=>
  obtain ⟨k,hk,rfl,HZ,HB⟩:=hrel
  by_cases hlt:k < n
  ·obtain ⟨b,off,hp,hl,hr⟩:∃ b off,pa=some ⟨b,off,none⟩∧b < w.heap.size∧RRow w b off rs:=by
    rcases HA.out with h | h
    ·have:=HN.out;rw [h] at this;simp at this;omega
    ·exact h
   subst hp
   obtain ⟨c0,c1,c2,c3,c4,c5⟩:=hr.below HB.out hl k (by rw [HN.out];exact hlt)
   have hnm:=HS.out k
   have HX:Hid ((rs.getD k dr).m.e≠0→chkR rs=(rs.getD k dr).m.e):=fun h=>chkR_mem (by rw [HN.out];exact hn20) (by rw [HN.out];exact hlt) HZ.out h
   have HZ2:Hid ((rs.getD k dr).m.e=0→∀ j,j < k+1→(rs.getD j dr).m.e=0):=fun h j hj=>by
    by_cases e:j=k
    ·subst e;exact h
    ·exact HZ.out j (by omega)
   generalize (rs.getD k dr)=rk at *
   obtain ⟨⟨nm,st,lf,ad,sv⟩,td⟩:=rk
   simp only at c0 c1 c2 c3 c4 c5 hnm HX HZ2
   simp only [Mem.e] at HX HZ2
   clear hr HZ
   go_wp2_with fail
   refine (oneMember_any nm st lf ad sv _ hnm).mono ?_
   rintro e w1 ⟨rfl,rfl⟩
   have HB1:Hid (Below w.heap.size w (wr.alloc (.cells #[.string nm,.int .i64 st,.int .i64 lf,.int .i64 ad,.bool sv] 37))):=HB.out.alloc HB.out.size _
   clear c0 c1 c2 c3 c4 c5 HB
   by_cases he:oneE nm st lf ad=0
   ·have he':(oneE nm st lf ad != 0)=false:=by simpa using he
    have HZ3:Hid (∀ j,j < k+1→(rs.getD j dr).m.e=0):=HZ2.out he
    clear HX HZ2 he
    go_wp2_with fail
    go_roundw
    case rel=>exact ⟨k+1,by omega,by go_num,HZ3,HB1⟩
    case measure=>simp [intOf];omega
   ·have he':(oneE nm st lf ad != 0)=true:=by simpa using he
    have HE:Hid (chkR rs=oneE nm st lf ad):=HX.out he
    clear HX HZ2 he
    go_wp2_with fail
    go_ret
    exact ⟨ret_int HE.out.symm,HB1.out⟩
  ·have HZA:Hid (∀ j,j < rs.length→(rs.getD j dr).m.e=0):=fun j hj=>HZ.out j (by rw [HN.out] at hj;omega)
   clear HZ
   go_wp2_with fail
   go_loopw [5] (fun i wr=>∃ k:Nat,k≤n∧i=.int .i64 k∧Hid (∀ j,j < k→within (rs.getD j dr).told 0 100=true)∧Hid (Below w.heap.size w wr))
    (fun i _=>n - (intOf i).toNat)
   case atStart=>exact ⟨0,Nat.zero_le _,rfl,fun j hj=>by omega,HB⟩
   case round=>
    clear HB hlt hk
    obtain ⟨k2,hk,rfl,HZ,HB⟩:=hrel
    by_cases hlt:k2 < n
    ·obtain ⟨b,off,hp,hl,hr⟩:∃ b off,pa=some ⟨b,off,none⟩∧b < w.heap.size∧RRow w b off rs:=by
      rcases HA.out with h | h
      ·have:=HN.out;rw [h] at this;simp at this;omega
      ·exact h
     subst hp
     obtain ⟨c0,c1,c2,c3,c4,c5⟩:=hr.below HB.out hl k2 (by rw [HN.out];exact hlt)
     have HX:Hid (within (rs.getD k2 dr).told 0 100=false→chkR rs=3):=fun h=>chkR_told (by rw [HN.out];exact hn20) HZA.out (by rw [HN.out];exact hlt) h
     have HZ2:Hid (within (rs.getD k2 dr).told 0 100=true→∀ j,j < k2+1→within (rs.getD j dr).told 0 100=true):=fun h j hj=>by
      by_cases e:j=k2
      ·subst e;exact h
      ·exact HZ.out j (by omega)
     generalize (rs.getD k2 dr)=rk at *
     obtain ⟨⟨nm,st,lf,ad,sv⟩,td⟩:=rk
     simp only at c0 c1 c2 c3 c4 c5 HX HZ2
     clear hr HZ
     rcases ht:within td 0 100 with _ | _
     ·have HE:Hid (chkR rs=3):=HX.out ht
      clear HX HZ2
      go_wp2_with (go_at_call 43;refine (between_any _ _ _ _).mono ?_;rintro e w' ⟨rfl,rfl⟩;rw [ht])
      go_ret
      exact ⟨ret_int HE.out.symm,HB.out⟩
     ·have HZ3:Hid (∀ j,j < k2+1→within (rs.getD j dr).told 0 100=true):=HZ2.out ht
      clear HX HZ2
      go_wp2_with (go_at_call 43;refine (between_any _ _ _ _).mono ?_;rintro e w' ⟨rfl,rfl⟩;rw [ht])
      go_roundw
      case rel=>exact ⟨k2+1,by omega,by go_num,HZ3,HB⟩
      case measure=>simp [intOf];omega
    ·have HTA:Hid (AllTold rs):=fun j hj=>HZ.out j (by rw [HN.out] at hj;omega)
     clear HZ
     go_wp2_with fail
     go_loopw [6] (fun i wr=>∃ k:Nat,k≤n∧i=.int .i64 k∧Hid (∀ a b,a < b→b < k→(rs.getD a dr).m.name≠(rs.getD b dr).m.name)∧Hid (Below w.heap.size w wr))
      (fun i _=>n - (intOf i).toNat)
     case atStart=>exact ⟨0,Nat.zero_le _,rfl,fun a b _ hb=>by omega,HB⟩
     case round=>
      clear HB hlt hk
      obtain ⟨k3,hk,rfl,HZ,HB⟩:=hrel
      by_cases hlt:k3 < n
      ·obtain ⟨b,off,hp,hl,hr⟩:∃ b off,pa=some ⟨b,off,none⟩∧b < w.heap.size∧RRow w b off rs:=by
        rcases HA.out with h | h
        ·have:=HN.out;rw [h] at this;simp at this;omega
        ·exact h
       subst hp
       have HR:Hid (RRow w b off rs):=hr
       clear hr
       go_wp2_with fail
       go_loopw [7] (fun i wr=>∃ k:Nat,k≤k3∧i=.int .i64 k∧Hid (∀ a,a < k→(rs.getD a dr).m.name≠(rs.getD k3 dr).m.name)∧Hid (Below w.heap.size w wr))
        (fun i _=>k3 - (intOf i).toNat)
       case atStart=>exact ⟨0,Nat.zero_le _,rfl,fun a ha=>by omega,HB⟩
       case round=>
        clear HB hk
        obtain ⟨k4,hk4,rfl,HY,HB⟩:=hrel
        by_cases hlt4:k4 < k3
        ·obtain ⟨c0,_,_,_,_,_⟩:=HR.out.below HB.out hl k4 (by rw [HN.out];omega)
         obtain ⟨d0,_,_,_,_,_⟩:=HR.out.below HB.out hl k3 (by rw [HN.out];exact hlt)
         have HX:Hid ((rs.getD k4 dr).m.name=(rs.getD k3 dr).m.name→chkR rs=6):=fun h=>chkR_twice (by rw [HN.out];exact hn20) HZA.out HTA.out (fun hd=>hd k4 k3 hlt4 (by rw [HN.out];exact hlt) h)
         have HY2:Hid ((rs.getD k4 dr).m.name≠(rs.getD k3 dr).m.name→∀ a,a < k4+1→(rs.getD a dr).m.name≠(rs.getD k3 dr).m.name):=fun h a ha=>by
          by_cases e:a=k4
          ·subst e;exact h
          ·exact HY.out a (by omega)
         have hbq:=beq_names (rs.getD k4 dr).m.name (rs.getD k3 dr).m.name
         clear HY HZ
         generalize (rs.getD k4 dr).m.name=x4 at *
         generalize (rs.getD k3 dr).m.name=x3 at *
         by_cases hx:x4=x3
         ·have HE:Hid (chkR rs=6):=HX.out hx
          subst hx
          clear HX HY2 hbq
          go_wp2_with fail
          go_quiet (fail)
          go_wp2_with fail
          go_ret
          exact ⟨ret_int HE.out.symm,below_drewN HB.out _⟩
         ·have HY3:Hid (∀ a,a < k4+1→(rs.getD a dr).m.name≠x3):=HY2.out hx
          rw [decide_eq_false hx] at hbq
          clear HX HY2 hx
          go_wp2_with fail
          go_quiet (fail)
          go_wp2_with fail
          exact ⟨⟨k4+1,by omega,by go_num,HY3,below_drewN HB.out _⟩,by simp [intOf];omega⟩
        ·have HZ3:Hid (∀ a b,a < b→b < k3+1→(rs.getD a dr).m.name≠(rs.getD b dr).m.name):=fun a b hab hb=>by
          by_cases e:b=k3
          ·subst e;exact HY.out a (by omega)
          ·exact HZ.out a b hab (by omega)
         clear HZ HY
         go_wp2_with fail
         exact ⟨⟨k3+1,by omega,by go_num,HZ3,HB⟩,by simp [intOf];omega⟩
      ·have HE:Hid (chkR rs=0):=chkR_ok (by rw [HN.out];exact hn20) HZA.out HTA.out (fun a b hab hb=>HZ.out a b hab (by rw [HN.out] at hb;omega))
       clear HZ
       go_wp2_with fail
       go_ret
       exact ⟨ret_int HE.out.symm,HB.out⟩
end Go.Proofs.YtikgjgmgbfjcgaaGreat
