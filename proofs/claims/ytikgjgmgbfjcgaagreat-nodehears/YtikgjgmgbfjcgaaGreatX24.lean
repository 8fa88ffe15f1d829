import Derived.Test.YtikgjgmgbfjcgaaGreatX17
import Derived.Test.YtikgjgmgbfjcgaaGreatX15
import Derived.Lib.ItoaNum
namespace Go.Proofs.YtikgjgmgbfjcgaaGreat
open Go.RowKit Go.WideMaps Go.Maps
theorem beq_name' {a b:ByteArray} (h:a≠b):(a.toList == b.toList)=false∧¬ a.toList=b.toList:=by
 have h2:¬ a.toList=b.toList:=fun e=>h (ba_ext (by rw [Lib.toList_data,Lib.toList_data] at e;exact e))
 exact ⟨by simpa using h2,h2⟩
def outR (rs:List Rum) (p k:Nat):List Rum:=(rs.take k).eraseIdx p
theorem outR_zero (rs:List Rum) (p:Nat):outR rs p 0=[]:=by simp [outR]
theorem take_snocR {rs:List Rum} {k:Nat} (hk:k < rs.length):rs.take (k+1)=rs.take k++[rs.getD k dr]:=by
 rw [List.take_succ_eq_append_getElem hk];simp [List.getD,List.getElem?_eq_getElem hk]
theorem outR_step {rs:List Rum} {p k:Nat} (hk:k < rs.length) (h:k≠p):outR rs p (k+1)=outR rs p k++[rs.getD k dr]:=by
 unfold outR
 rw [take_snocR hk]
 have hl:(rs.take k).length=k:=by rw [List.length_take];omega
 by_cases hkp:k < p
 ·rw [List.eraseIdx_of_length_le (by simp;omega),List.eraseIdx_of_length_le (by omega)]
 ·rw [List.eraseIdx_append_of_lt_length (by omega)]
theorem outR_skip {rs:List Rum} {p:Nat} (hk:p < rs.length):outR rs p (p+1)=outR rs p p:=by
 unfold outR
 have hl:(rs.take p).length=p:=by rw [List.length_take];omega
 rw [take_snocR hk,List.eraseIdx_append_of_length_le (by omega),hl,List.eraseIdx_of_length_le (l:=rs.take p) (by omega)]
 simp
theorem outR_all (rs:List Rum) (p:Nat):outR rs p rs.length=rs.eraseIdx p:=by simp [outR]
theorem outR_len_le (rs:List Rum) (p k:Nat):(outR rs p k).length≤k:=by
 unfold outR
 have:=List.length_eraseIdx_le (rs.take k) p
 rw [List.length_take] at this
 omega
set_option maxHeartbeats 6400000 in
set_option maxRecDepth 100000 in
theorem putRumor_newer (rs:List Rum) (v:Value) (m:Mem) (w:World) (hv:RSl w v rs) (hm:m.name.size≤maxLen) (hn20:rs.length≤20) (p:Nat) (hne:∀ j,j < rs.length→j≠p→(rs.getD j dr).m.name≠m.name) (hpn:p < rs.length→(rs.getD p dr).m.name=m.name∧newM m (rs.getD p dr).m=true) :
 Calls Tryz.prog 126 #[v,.agg #[.string m.name,.int .i64 m.state,.int .i64 m.life,.int .i64 m.addr,.bool m.server]] w fun e w'=>((rs.eraseIdx p).length=20∧e=.returned (.tuple #[.slice none 0 0,.int .i64 2])∧Below w.heap.size w w')∨((rs.eraseIdx p).length < 20∧∃ v',e=.returned (.tuple #[v',.int .i64 0])∧ROwn w.heap.size w' v' (rs.eraseIdx p++[⟨m,0⟩])∧Below w.heap.size w w'):=by
 obtain ⟨i0,hi0,hz0,hzs,hzb⟩:=info_parts Tryz.infoR
 have HS:Hid (∀ r∈rs,r.m.name.size≤maxLen):=by obtain ⟨_,_,_,h,_⟩:=hv;exact rns_mem h
 obtain ⟨pa,ca,rfl,_,ha⟩:=hv
 have HA:Hid (rs=[]∨∃ b off,pa=some ⟨b,off,none⟩∧b < w.heap.size∧RRow w b off rs):=ha
 have HNE:Hid (∀ j,j < rs.length→j≠p→(rs.getD j dr).m.name≠m.name):=hne
 have HPN:Hid (p < rs.length→(rs.getD p dr).m.name=m.name∧newM m (rs.getD p dr).m=true):=hpn
 clear ha hne hpn
 obtain ⟨nm,st,lf,ad,sv⟩:=m
 simp only at *
 generalize hN:rs.length=n at *
 have HN:Hid (rs.length=n):=hN
 clear hN
 have hgM:Tryz.prog.eqGuardType Tryz.prog.depth 37=false:=by kernel_rfl
 go_enter Tryz.func126,Tryz.ntmps126
 go_wp2_with fail
 go_loopw [6,7] (fun o i wr=>∃ k:Nat,k≤n∧i=.int .i64 k∧Hid (ROwn (w.heap.size+1) wr o (outR rs p k))∧Hid (Below (w.heap.size+1) (w.alloc (.cells #[.string nm,.int .i64 st,.int .i64 lf,.int .i64 ad,.bool sv] 37)) wr)) (fun _ i _=>n - (intOf i).toNat)
 case atStart=>exact ⟨0,by omega,rfl,(by rw [outR_zero];exact rown_nil _ _),Below.refl _ _⟩
 case round=>
  obtain ⟨k,hk,rfl,HO,HB⟩:=hrel
  have hsz:w.heap.size+1≤wr.heap.size:=by have:=HB.out.size;simpa using this
  have C4:∀ o,wr.cell? ⟨w.heap.size,o,none⟩=#[Value.string nm,.int .i64 st,.int .i64 lf,.int .i64 ad,.bool sv][o]?:=fun o=>by
   rw [HB.out.cell (p:=⟨w.heap.size,o,none⟩) (by simp only;omega)];exact cell_top' rfl
  by_cases hlt:k < n
  ·obtain ⟨b,off,hp1,hl,hr⟩:∃ b off,pa=some ⟨b,off,none⟩∧b < w.heap.size∧RRow w b off rs:=by
    rcases HA.out with h | h
    ·have:=HN.out;rw [h] at this;simp at this;omega
    ·exact h
   subst hp1
   have hrw:RRow wr b off rs:=(hr.below ((Below.refl w.heap.size w).alloc (Nat.le_refl _) _) hl).below HB.out (by omega)
   obtain ⟨c0,c1,c2,c3,c4,c5⟩:=hrw k (by rw [HN.out];exact hlt)
   have hlb:b < wr.heap.size:=by omega
   clear hr hrw
   by_cases hkp:k=p
   ·subst hkp
    obtain ⟨hpn1,hnw⟩:=HPN.out hlt
    have hq:newM ⟨nm,st,lf,ad,sv⟩ (rs.getD k dr).m=true:=hnw
    have HSK:Hid (outR rs k (k+1)=outR rs k k):=outR_skip (by rw [HN.out];exact hlt)
    generalize (rs.getD k dr)=rk at *
    obtain ⟨⟨yn,ys,yl,ya,yv⟩,ytd⟩:=rk
    simp only at c0 c1 c2 c3 c4 c5 hpn1
    simp only [newM] at hq
    have h2:=hpn1.symm
    clear hpn1 hnw
    subst h2
    go_wp2_with fail
    go_quiet (fail)
    go_wp2_with fail
    have E0:∀ d os,(Go.Sort.grow (redrawn (wr.drewN nq) d) os).cell? ⟨w.heap.size,0,none⟩=some (.string nm):=cell_regrown (C4 0)
    have E1:∀ d os,(Go.Sort.grow (redrawn (wr.drewN nq) d) os).cell? ⟨w.heap.size,1,none⟩=some (.int .i64 st):=cell_regrown (C4 1)
    have E2:∀ d os,(Go.Sort.grow (redrawn (wr.drewN nq) d) os).cell? ⟨w.heap.size,2,none⟩=some (.int .i64 lf):=cell_regrown (C4 2)
    have E3:∀ d os,(Go.Sort.grow (redrawn (wr.drewN nq) d) os).cell? ⟨w.heap.size,3,none⟩=some (.int .i64 ad):=cell_regrown (C4 3)
    have E4:∀ d os,(Go.Sort.grow (redrawn (wr.drewN nq) d) os).cell? ⟨w.heap.size,4,none⟩=some (.bool sv):=cell_regrown (C4 4)
    have F0:∀ d os,(Go.Sort.grow (redrawn (wr.drewN nq) d) os).cell? ⟨b,off+k * 6,none⟩=some (.string nm):=cell_regrown c0
    have F1:∀ d os,(Go.Sort.grow (redrawn (wr.drewN nq) d) os).cell? ⟨b,off+k * 6+1,none⟩=some (.int .i64 ys):=cell_regrown c1
    have F2:∀ d os,(Go.Sort.grow (redrawn (wr.drewN nq) d) os).cell? ⟨b,off+k * 6+2,none⟩=some (.int .i64 yl):=cell_regrown c2
    have F3:∀ d os,(Go.Sort.grow (redrawn (wr.drewN nq) d) os).cell? ⟨b,off+k * 6+3,none⟩=some (.int .i64 ya):=cell_regrown c3
    have F4:∀ d os,(Go.Sort.grow (redrawn (wr.drewN nq) d) os).cell? ⟨b,off+k * 6+4,none⟩=some (.bool yv):=cell_regrown c4
    have cN:∀ d os,Calls Tryz.prog 53 #[.agg #[.string nm,.int .i64 st,.int .i64 lf,.int .i64 ad,.bool sv],.agg #[.string nm,.int .i64 ys,.int .i64 yl,.int .i64 ya,.bool yv]] (Go.Sort.grow (redrawn (wr.drewN nq) d) os) fun e w''=>e=.returned (.bool true)∧∃ p:Regrown,w''=Go.Sort.grow (redrawn (wr.drewN nq) p.d) p.os:=fun d os=>
     Calls.regrown_of ((newerMember_any _ _ _ _ _ _ _ _ _ _ _).mono (by rintro e w' ⟨rfl,rfl⟩;exact ⟨by rw [hq],((Below.refl _ _).alloc (Nat.le_refl _) _).alloc (by simp) _⟩))
    clear c0 c1 c2 c3 c4 c5
    refine wp_region_quiet_below (by kernel_rfl) (by kernel_rfl) ?_
    repeat (quiet_step (exact cN _ _))
    refine wpQuiet_nil ?_
    intro _ hw'
    obtain ⟨⟨dq,osq⟩,hw''⟩:=hw'
    subst hw''
    have HBQ:Hid (Below wr.heap.size wr (Go.Sort.grow (redrawn (wr.drewN nq) dq) osq)):=(below_drewN (Below.refl wr.heap.size wr) nq).trans (below_regrown (wr.drewN nq) dq osq)
    clear cN E0 E1 E2 E3 E4 F0 F1 F2 F3 F4
    go_wp2_with fail
    go_roundw
    case rel=>exact ⟨k+1,by omega,by go_num,(by rw [HSK.out];exact HO.out.below HBQ.out),HB.out.trans (HBQ.out.mono hsz)⟩
    case measure=>simp [intOf];omega
   ·have hnn:=HNE.out k hlt hkp
    have HST:Hid (outR rs p (k+1)=outR rs p k++[rs.getD k dr]):=outR_step (by rw [HN.out];exact hlt) hkp
    have hol:(outR rs p k).length≤k:=outR_len_le rs p k
    generalize (rs.getD k dr)=rk at *
    obtain ⟨⟨yn,ys,yl,ya,yv⟩,ytd⟩:=rk
    simp only at c0 c1 c2 c3 c4 c5 hnn
    obtain ⟨hne1,hne2⟩:=beq_name' (a:=yn) (b:=nm) hnn
    obtain ⟨oa,oc,hvo⟩:=HO.out.slice
    subst hvo
    generalize outR rs p k=L at *
    have HO2:Hid (∀ ob,(wr.alloc ob).ownsRow (w.heap.size+1) 82 6 (.slice oa L.length oc) L.length (flR L)):=fun ob=>HO.out.below ((Below.refl _ _).alloc (Nat.le_refl _) ob)
    have HLT:Hid (∀ j,(Value.slice oa L.length oc).ownBlock=some j→w.heap.size+1≤j):=fun j hj=>(HO.out.lt j hj).1
    clear HO
    go_wp2_with fail
    go_quiet (fail)
    go_wp2_with (at_builtin;refine wpList_append_own _ rfl _ _ 23 rfl (w.heap.size+1) 82 i0 _ 6 56 Tryz.underlying23 hi0 hz0 hzs hzb rfl (by omega) _ L.length (flR L) rfl ?hown ⟨wr.heap.size,0,none⟩ 1 1 (Rum.mk ⟨yn,ys,yl,ya,yv⟩ ytd).cs rfl rfl ?hnews (rcs_one _) ?h63 ?hbytes ?hbase ?_)
    case hown=>exact HO2.out _
    case hnews=>(intro j u hj;rw [Addr.add_lit];exact (cell_top' rfl).trans (by simpa [Rum.cs] using hj))
    case h63=>(unfold maxLen;omega)
    case hbytes=>omega
    case hbase=>(simp;omega)
    intro v' w2 r1 r2 r3
    have R1:Hid (ROwn (w.heap.size+1) w2 v' (L++[⟨⟨yn,ys,yl,ya,yv⟩,ytd⟩])):=rown_snoc r1
    have R2:Hid (Below (w.heap.size+1) (w.alloc (.cells #[.string nm,.int .i64 st,.int .i64 lf,.int .i64 ad,.bool sv] 37)) w2):=
     (HB.out.alloc hsz (.cells #[.string yn,.int .i64 ys,.int .i64 yl,.int .i64 ya,.bool yv,.int .i64 ytd] 82)).trans ((Below.refl _ _).grown (w:=wr.alloc (.cells #[.string yn,.int .i64 ys,.int .i64 yl,.int .i64 ya,.bool yv,.int .i64 ytd] 82)) ⟨r2.os,r2.tape,r2.output,r2.size,r2.block⟩ (by simp;omega) (fun j hj=>HLT.out j hj))
    clear r1 r2 r3
    go_wp2_with fail
    exact ⟨⟨k+1,by omega,by go_num,(by rw [HST.out];exact R1.out),R2.out⟩,by simp [intOf];omega⟩
  ·have hkn:k=n:=by omega
   subst hkn
   have hO:=HO.out
   rw [show outR rs p k=rs.eraseIdx p by rw [← HN.out];exact outR_all rs p] at hO
   obtain ⟨oa,oc,hvo⟩:=hO.slice
   subst hvo
   have hle:(rs.eraseIdx p).length≤20:=by have:=List.length_eraseIdx_le rs p;have:=HN.out;omega
   have HO2:Hid (∀ ob,(wr.alloc ob).ownsRow (w.heap.size+1) 82 6 (.slice oa (rs.eraseIdx p).length oc) (rs.eraseIdx p).length (flR (rs.eraseIdx p))):=fun ob=>hO.below ((Below.refl _ _).alloc (Nat.le_refl _) ob)
   have HLT:Hid (∀ j,(Value.slice oa (rs.eraseIdx p).length oc).ownBlock=some j→w.heap.size≤j):=fun j hj=>by have:=(hO.lt j hj).1;omega
   have HSN:Hid (∀ (w':World) (v':Value),w'.ownsRow (w.heap.size+1) 82 6 v' ((rs.eraseIdx p).length+1) (flR (rs.eraseIdx p)++(Rum.mk ⟨nm,st,lf,ad,sv⟩ 0).cs)→ROwn w.heap.size w' v' (rs.eraseIdx p++[⟨⟨nm,st,lf,ad,sv⟩,0⟩])):=fun w' v' h=>(rown_snoc h).base (by omega)
   have HBW:Hid (Below w.heap.size w wr):=((Below.refl _ _).alloc (Nat.le_refl _) _).trans (HB.out.mono (by omega))
   clear hO HO HB
   generalize hEE:rs.eraseIdx p=E at *
   have HEE:Hid (rs.eraseIdx p=E):=hEE
   clear hEE
   by_cases h20:E.length=20
   ·rw [h20]
    go_wp2_with fail
    go_ret2
    exact .inl ⟨by rw [HEE.out];exact h20,rfl,HBW.out⟩
   ·have hlt20:E.length < 20:=by omega
    clear h20
    generalize hE:E.length=ne at *
    have HE:Hid (E.length=ne):=hE
    clear hE
    go_wp2_with (at_builtin;refine wpList_append_own _ rfl _ _ 23 rfl (w.heap.size+1) 82 i0 _ 6 56 Tryz.underlying23 hi0 hz0 hzs hzb rfl (by omega) _ ne (flR E) rfl ?hown ⟨wr.heap.size,0,none⟩ 1 1 (Rum.mk ⟨nm,st,lf,ad,sv⟩ 0).cs rfl rfl ?hnews (rcs_one _) ?h63 ?hbytes ?hbase ?_)
    case hown=>exact HO2.out _
    case hnews=>(intro j u hj;rw [Addr.add_lit];exact (cell_top' rfl).trans (by simpa [Rum.cs] using hj))
    case h63=>(unfold maxLen;omega)
    case hbytes=>omega
    case hbase=>(simp;omega)
    intro v' w2 r1 r2 r3
    have R1:Hid (ROwn w.heap.size w2 v' (E++[⟨⟨nm,st,lf,ad,sv⟩,0⟩])):=HSN.out w2 v' r1
    have R2:Hid (Below w.heap.size w w2):=(HBW.out.alloc HBW.out.size _).grown r2 (by have:=HBW.out.size;simp;omega) (fun j hj=>HLT.out j hj)
    clear r1 r2 r3
    go_wp2_with fail
    go_ret2
    exact .inr ⟨by rw [HEE.out,HE.out];exact hlt20,v',rfl,by rw [HEE.out];exact R1.out,R2.out⟩
set_option maxHeartbeats 6400000 in
set_option maxRecDepth 100000 in
theorem putRumor_old (rs:List Rum) (v:Value) (m:Mem) (w:World) (hv:RSl w v rs) (hm:m.name.size≤maxLen) (hn20:rs.length≤20) (p:Nat) (hne:∀ j,j < rs.length→j≠p→(rs.getD j dr).m.name≠m.name) (hp:p < rs.length) (hpn:p < rs.length→(rs.getD p dr).m.name=m.name∧newM m (rs.getD p dr).m=false) :
 Calls Tryz.prog 126 #[v,.agg #[.string m.name,.int .i64 m.state,.int .i64 m.life,.int .i64 m.addr,.bool m.server]] w fun e w'=>e=.returned (.tuple #[v,.int .i64 0])∧Below w.heap.size w w':=by
 obtain ⟨i0,hi0,hz0,hzs,hzb⟩:=info_parts Tryz.infoR
 have HS:Hid (∀ r∈rs,r.m.name.size≤maxLen):=by obtain ⟨_,_,_,h,_⟩:=hv;exact rns_mem h
 obtain ⟨pa,ca,rfl,_,ha⟩:=hv
 have HA:Hid (rs=[]∨∃ b off,pa=some ⟨b,off,none⟩∧b < w.heap.size∧RRow w b off rs):=ha
 have HNE:Hid (∀ j,j < rs.length→j≠p→(rs.getD j dr).m.name≠m.name):=hne
 have HPN:Hid (p < rs.length→(rs.getD p dr).m.name=m.name∧newM m (rs.getD p dr).m=false):=hpn
 clear ha hne hpn
 obtain ⟨nm,st,lf,ad,sv⟩:=m
 simp only at *
 generalize hN:rs.length=n at *
 have HN:Hid (rs.length=n):=hN
 clear hN
 have hgM:Tryz.prog.eqGuardType Tryz.prog.depth 37=false:=by kernel_rfl
 go_enter Tryz.func126,Tryz.ntmps126
 go_wp2_with fail
 go_loopw [6,7] (fun o i wr=>∃ k:Nat,k≤p∧i=.int .i64 k∧Hid (ROwn (w.heap.size+1) wr o (outR rs p k))∧Hid (Below (w.heap.size+1) (w.alloc (.cells #[.string nm,.int .i64 st,.int .i64 lf,.int .i64 ad,.bool sv] 37)) wr)) (fun _ i _=>n - (intOf i).toNat)
 case atStart=>exact ⟨0,by omega,rfl,(by rw [outR_zero];exact rown_nil _ _),Below.refl _ _⟩
 case round=>
  obtain ⟨k,hk,rfl,HO,HB⟩:=hrel
  have hsz:w.heap.size+1≤wr.heap.size:=by have:=HB.out.size;simpa using this
  have C4:∀ o,wr.cell? ⟨w.heap.size,o,none⟩=#[Value.string nm,.int .i64 st,.int .i64 lf,.int .i64 ad,.bool sv][o]?:=fun o=>by
   rw [HB.out.cell (p:=⟨w.heap.size,o,none⟩) (by simp only;omega)];exact cell_top' rfl
  by_cases hlt:k < n
  ·obtain ⟨b,off,hp1,hl,hr⟩:∃ b off,pa=some ⟨b,off,none⟩∧b < w.heap.size∧RRow w b off rs:=by
    rcases HA.out with h | h
    ·have:=HN.out;rw [h] at this;simp at this;omega
    ·exact h
   subst hp1
   have hrw:RRow wr b off rs:=(hr.below ((Below.refl w.heap.size w).alloc (Nat.le_refl _) _) hl).below HB.out (by omega)
   obtain ⟨c0,c1,c2,c3,c4,c5⟩:=hrw k (by rw [HN.out];exact hlt)
   have hlb:b < wr.heap.size:=by omega
   clear hr hrw
   by_cases hkp:k=p
   ·subst hkp
    obtain ⟨hpn1,hnw⟩:=HPN.out hlt
    have hq:newM ⟨nm,st,lf,ad,sv⟩ (rs.getD k dr).m=false:=hnw
    generalize (rs.getD k dr)=rk at *
    obtain ⟨⟨yn,ys,yl,ya,yv⟩,ytd⟩:=rk
    simp only at c0 c1 c2 c3 c4 c5 hpn1
    simp only [newM] at hq
    have h2:=hpn1.symm
    clear hpn1 hnw
    subst h2
    go_wp2_with fail
    go_quiet (fail)
    go_wp2_with fail
    have E0:∀ d os,(Go.Sort.grow (redrawn (wr.drewN nq) d) os).cell? ⟨w.heap.size,0,none⟩=some (.string nm):=cell_regrown (C4 0)
    have E1:∀ d os,(Go.Sort.grow (redrawn (wr.drewN nq) d) os).cell? ⟨w.heap.size,1,none⟩=some (.int .i64 st):=cell_regrown (C4 1)
    have E2:∀ d os,(Go.Sort.grow (redrawn (wr.drewN nq) d) os).cell? ⟨w.heap.size,2,none⟩=some (.int .i64 lf):=cell_regrown (C4 2)
    have E3:∀ d os,(Go.Sort.grow (redrawn (wr.drewN nq) d) os).cell? ⟨w.heap.size,3,none⟩=some (.int .i64 ad):=cell_regrown (C4 3)
    have E4:∀ d os,(Go.Sort.grow (redrawn (wr.drewN nq) d) os).cell? ⟨w.heap.size,4,none⟩=some (.bool sv):=cell_regrown (C4 4)
    have F0:∀ d os,(Go.Sort.grow (redrawn (wr.drewN nq) d) os).cell? ⟨b,off+k * 6,none⟩=some (.string nm):=cell_regrown c0
    have F1:∀ d os,(Go.Sort.grow (redrawn (wr.drewN nq) d) os).cell? ⟨b,off+k * 6+1,none⟩=some (.int .i64 ys):=cell_regrown c1
    have F2:∀ d os,(Go.Sort.grow (redrawn (wr.drewN nq) d) os).cell? ⟨b,off+k * 6+2,none⟩=some (.int .i64 yl):=cell_regrown c2
    have F3:∀ d os,(Go.Sort.grow (redrawn (wr.drewN nq) d) os).cell? ⟨b,off+k * 6+3,none⟩=some (.int .i64 ya):=cell_regrown c3
    have F4:∀ d os,(Go.Sort.grow (redrawn (wr.drewN nq) d) os).cell? ⟨b,off+k * 6+4,none⟩=some (.bool yv):=cell_regrown c4
    have cN:∀ d os,Calls Tryz.prog 53 #[.agg #[.string nm,.int .i64 st,.int .i64 lf,.int .i64 ad,.bool sv],.agg #[.string nm,.int .i64 ys,.int .i64 yl,.int .i64 ya,.bool yv]] (Go.Sort.grow (redrawn (wr.drewN nq) d) os) fun e w''=>e=.returned (.bool false)∧∃ p:Regrown,w''=Go.Sort.grow (redrawn (wr.drewN nq) p.d) p.os:=fun d os=>
     Calls.regrown_of ((newerMember_any _ _ _ _ _ _ _ _ _ _ _).mono (by rintro e w' ⟨rfl,rfl⟩;exact ⟨by rw [hq],((Below.refl _ _).alloc (Nat.le_refl _) _).alloc (by simp) _⟩))
    clear c0 c1 c2 c3 c4 c5
    refine wp_region_quiet_below (by kernel_rfl) (by kernel_rfl) ?_
    repeat (quiet_step (exact cN _ _))
    refine wpQuiet_nil ?_
    intro _ hw'
    obtain ⟨⟨dq,osq⟩,hw''⟩:=hw'
    subst hw''
    have HBQ:Hid (Below wr.heap.size wr (Go.Sort.grow (redrawn (wr.drewN nq) dq) osq)):=(below_drewN (Below.refl wr.heap.size wr) nq).trans (below_regrown (wr.drewN nq) dq osq)
    clear cN E0 E1 E2 E3 E4 F0 F1 F2 F3 F4
    go_wp2_with fail
    go_ret2
    exact ⟨rfl,((Below.refl _ _).alloc (Nat.le_refl _) _).trans ((HB.out.trans (HBQ.out.mono hsz)).mono (by omega))⟩
   ·have hnn:=HNE.out k hlt hkp
    have HST:Hid (outR rs p (k+1)=outR rs p k++[rs.getD k dr]):=outR_step (by rw [HN.out];exact hlt) hkp
    have hol:(outR rs p k).length≤k:=outR_len_le rs p k
    generalize (rs.getD k dr)=rk at *
    obtain ⟨⟨yn,ys,yl,ya,yv⟩,ytd⟩:=rk
    simp only at c0 c1 c2 c3 c4 c5 hnn
    obtain ⟨hne1,hne2⟩:=beq_name' (a:=yn) (b:=nm) hnn
    obtain ⟨oa,oc,hvo⟩:=HO.out.slice
    subst hvo
    generalize outR rs p k=L at *
    have HO2:Hid (∀ ob,(wr.alloc ob).ownsRow (w.heap.size+1) 82 6 (.slice oa L.length oc) L.length (flR L)):=fun ob=>HO.out.below ((Below.refl _ _).alloc (Nat.le_refl _) ob)
    have HLT:Hid (∀ j,(Value.slice oa L.length oc).ownBlock=some j→w.heap.size+1≤j):=fun j hj=>(HO.out.lt j hj).1
    clear HO
    go_wp2_with fail
    go_quiet (fail)
    go_wp2_with (at_builtin;refine wpList_append_own _ rfl _ _ 23 rfl (w.heap.size+1) 82 i0 _ 6 56 Tryz.underlying23 hi0 hz0 hzs hzb rfl (by omega) _ L.length (flR L) rfl ?hown ⟨wr.heap.size,0,none⟩ 1 1 (Rum.mk ⟨yn,ys,yl,ya,yv⟩ ytd).cs rfl rfl ?hnews (rcs_one _) ?h63 ?hbytes ?hbase ?_)
    case hown=>exact HO2.out _
    case hnews=>(intro j u hj;rw [Addr.add_lit];exact (cell_top' rfl).trans (by simpa [Rum.cs] using hj))
    case h63=>(unfold maxLen;omega)
    case hbytes=>omega
    case hbase=>(simp;omega)
    intro v' w2 r1 r2 r3
    have R1:Hid (ROwn (w.heap.size+1) w2 v' (L++[⟨⟨yn,ys,yl,ya,yv⟩,ytd⟩])):=rown_snoc r1
    have R2:Hid (Below (w.heap.size+1) (w.alloc (.cells #[.string nm,.int .i64 st,.int .i64 lf,.int .i64 ad,.bool sv] 37)) w2):=
     (HB.out.alloc hsz (.cells #[.string yn,.int .i64 ys,.int .i64 yl,.int .i64 ya,.bool yv,.int .i64 ytd] 82)).trans ((Below.refl _ _).grown (w:=wr.alloc (.cells #[.string yn,.int .i64 ys,.int .i64 yl,.int .i64 ya,.bool yv,.int .i64 ytd] 82)) ⟨r2.os,r2.tape,r2.output,r2.size,r2.block⟩ (by simp;omega) (fun j hj=>HLT.out j hj))
    clear r1 r2 r3
    go_wp2_with fail
    exact ⟨⟨k+1,by omega,by go_num,(by rw [HST.out];exact R1.out),R2.out⟩,by simp [intOf];omega⟩
  ·omega
end Go.Proofs.YtikgjgmgbfjcgaaGreat
namespace Go.Proofs.YtikgjgmgbfjcgaaGreat
open Go.RowKit
set_option maxHeartbeats 800000 in
theorem times_any (m:Int) (w:World) (h:within m 0 20=true) :
 Calls Tryz.prog 111 #[.int .i64 m] w fun e w'=>e=.returned (.tuple #[.int .i64 (3 * (Lib.bitLen m.toNat:Nat)),.int .i64 0])∧w'=w:=by
 have hm:0≤m∧m≤20:=by simp [within] at h;omega
 have hl:(Lib.bitLen m.toNat:Int)≤64:=by have:=Lib.bitLen_le m.toNat 64 (by omega) (by omega);omega
 go_enter Tryz.func111,Tryz.ntmps111
 go_wp2_with (first | (go_at_call 97;refine (within_any _ _ _ _).mono ?_;rintro e w' ⟨rfl,rfl⟩;rw [h]) | (go_at_call 158;refine (Tryz.bits_Len _ _ (by omega) (by omega)).mono ?_;rintro e w' ⟨rfl,rfl⟩))
 go_ret2
 exact ⟨rfl,rfl⟩
theorem ROwn.names {base:Nat} {w:World} {v:Value} {ms:List Rum} (h:ROwn base w v ms) (hs:∀ r∈ms,r.m.name.size≤maxLen):RSl w v ms:=h.sl (rns_get hs)
end Go.Proofs.YtikgjgmgbfjcgaaGreat
