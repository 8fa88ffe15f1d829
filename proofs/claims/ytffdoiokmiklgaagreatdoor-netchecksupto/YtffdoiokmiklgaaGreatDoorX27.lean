import Derived.Test.YtffdoiokmiklgaaGreatDoorX12
import Derived.Test.YtffdoiokmiklgaaGreatDoorX10
import Derived.Deep.RegionHeld
import Derived.Deep.RegionLaw
import Derived.Laws.OwnMore
import Derived.Test.YtffdoiokmiklgaaGreatDoorX26
import Derived.Lib.QuietBelow
import Derived.Test.YtffdoiokmiklgaaGreatDoorX1
import Derived.Lib.SmallJoins
import Derived.Below
import Derived.Laws.StructEq
import Derived.Test.YtffdoiokmiklgaaGreatDoorX2
import Derived.Deep.AppendLies
import Derived.Deep.Cut
import Derived.Lib.ItoaNum
import Derived.Maps.OwnSet
import Derived.Deep.RegionHeld3
namespace Go.Proofs.YtffdoiokmiklgaaGreatDoor
open Go.RowKit
def wrs:List Value→Nat→List Value→List Value
 | xs,_,[]=>xs
 | xs,o,v :: r=>wrs (xs.set o v) (o+1) r
theorem wrs_len:∀ (vs xs:List Value) (o:Nat),(wrs xs o vs).length=xs.length
 | [],_,_=>rfl
 | v :: r,xs,o=>by rw [wrs,wrs_len r,List.length_set]
theorem wrs_out:∀ (vs xs:List Value) (o k:Nat),k < o∨o+vs.length≤k→(wrs xs o vs)[k]?=xs[k]?
 | [],_,_,_,_=>rfl
 | v :: r,xs,o,k,h=>by
   simp only [List.length_cons] at h
   rw [wrs,wrs_out r _ _ k (by omega),List.getElem?_set_ne (by omega)]
theorem wrs_in:∀ (vs xs:List Value) (o j:Nat),j < vs.length→o+vs.length≤xs.length→(wrs xs o vs)[o+j]?=vs[j]?
 | [],_,_,_,h,_=>by simp at h
 | v :: r,xs,o,0,_,h2=>by
   simp only [List.length_cons] at h2
   rw [wrs,wrs_out r _ _ _ (by omega)]
   simp [List.getElem?_set_self (show o < xs.length by omega)]
 | v :: r,xs,o,j+1,h,h2=>by
   simp only [List.length_cons] at h h2
   rw [wrs,show o+(j+1)=(o+1)+j by omega,wrs_in r _ _ j (by omega) (by rw [List.length_set];omega)]
   simp
theorem stored_all {base g n cap:Nat} {e:TypeId} {size:Nat}:∀ (vs xs:List Value) (o:Nat) (w:World),w.ownsRow base e size (.slice (some ⟨g,0,none⟩) n cap) n xs→(w.setCells g o vs).ownsRow base e size (.slice (some ⟨g,0,none⟩) n cap) n (wrs xs o vs)
 | [],_,_,_,h=>h
 | v :: r,_,o,_,h=>stored_all r _ _ _ (World.ownsRow.stored h o v).1
theorem below_setCells {base g:Nat} (hg:base≤g):∀ (vs:List Value) (o:Nat) (w0 w:World),Below base w0 w→Below base w0 (w.setCells g o vs)
 | [],_,_,_,h=>h
 | v :: r,o,w0,_,h=>below_setCells hg r _ w0 _ (h.setCell (p:=⟨g,o,none⟩) hg v)
theorem owns_shrink {w:World} {base g n m cap:Nat} {e:TypeId} {size:Nat} {xs:List Value} (h:w.ownsRow base e size (.slice (some ⟨g,0,none⟩) n cap) n xs) (hm:m≤n):w.ownsRow base e size (.slice (some ⟨g,0,none⟩) m cap) m (xs.take (m * size)):=by
 obtain ⟨h1,h2⟩:=h
 have hle:m * size≤n * size:=Nat.mul_le_mul_right _ hm
 refine ⟨by rw [List.length_take,h1];omega,?_⟩
 rcases h2 with ⟨hv,_⟩ | ⟨g',c',cur,hv,hbg,hg,hnc,hcm,hcs,htake⟩
 ·cases hv
 ·simp only [Value.slice.injEq,Option.some.injEq,Addr.mk.injEq,and_true,true_and] at hv
  obtain ⟨rfl,rfl⟩:=hv
  refine .inr ⟨g,cap,cur,rfl,hbg,hg,by omega,hcm,hcs,?_⟩
  rw [← htake,List.take_take,Nat.min_eq_left hle]
def zR:List Value:=[.string ⟨#[]⟩,.int .i64 0,.int .i64 0,.int .i64 0,.bool false,.int .i64 0]
theorem take_eq_of {xs ys:List Value} {k:Nat} (hl:k≤xs.length) (hy:ys.length=k) (h:∀ j,j < k→xs[j]?=ys[j]?):xs.take k=ys:=by
 apply List.ext_getElem?
 intro j
 by_cases hj:j < k
 ·rw [List.getElem?_take_of_lt hj,h j hj]
 ·rw [List.getElem?_eq_none (by rw [List.length_take];omega),List.getElem?_eq_none (by omega)]
theorem erase_cells {rs:List Rum} {p n:Nat} (hn:rs.length=n) (hp:p < n):(wrs (wrs (flR rs) (p * 6) (flR (rs.drop (p+1)))) ((n - 1) * 6) zR).take ((n - 1) * 6)=flR (rs.eraseIdx p):=by
 have hl:(flR rs).length=n * 6:=by rw [flR_len,hn]
 have hd:(flR (rs.drop (p+1))).length=(n - (p+1)) * 6:=by rw [flR_len,List.length_drop,hn]
 refine take_eq_of (by rw [wrs_len,wrs_len,hl];omega) (by rw [flR_len,List.length_eraseIdx,if_pos (by omega),hn]) (fun j hj=>?_)
 rw [wrs_out _ _ _ _ (by omega),List.eraseIdx_eq_take_drop_succ,flR_append]
 have ht:(flR (rs.take p)).length=p * 6:=by rw [flR_len,List.length_take,hn];omega
 by_cases hjp:j < p * 6
 ·rw [wrs_out _ _ _ _ (by omega),List.getElem?_append_left (by omega),← flR_take,List.getElem?_take_of_lt hjp]
 ·rw [List.getElem?_append_right (by omega),ht]
  have:=wrs_in (flR (rs.drop (p+1))) (flR rs) (p * 6) (j - p * 6) (by rw [hd];omega) (by rw [hd,hl];omega)
  rw [show p * 6+(j - p * 6)=j by omega] at this
  exact this
theorem run_clear_one (w:World) (ty:TypeId) (b o c:Nat) (hc:∀ j,j < 6→(w.cell? ⟨b,o+j,none⟩).isSome=true) (hf:∀ j,j < 6→w.frozen? ⟨b,o+j,none⟩=false) :
 (Builtin.clear_ #[46] ty #[.slice (some ⟨b,o,none⟩) 1 c]).run Tryz.prog w=.ok (.tuple #[]) (w.setCells b o zR):=by
 have hzc:(Builtin.zeroCells (Value.agg #[.string ⟨#[]⟩,.int .i64 0,.int .i64 0,.int .i64 0,.bool false,.int .i64 0]).cells 1).toList=zR:=by kernel_rfl
 have hst:=run_storeCells_cells (P:=Tryz.prog) b o zR 0 w (fun j hj=>by simpa using hc j (by simpa [zR] using hj)) (fun j hj=>by simpa using hf j (by simpa [zR] using hj)) (by intro v hv;simp [zR] at hv;rcases hv with rfl | rfl | rfl | rfl<;>rfl)
 simp only [Nat.add_zero] at hst
 simp [Builtin.clear_,run_underlying Tryz.underlying46,hzc,hst]
set_option maxHeartbeats 3200000 in
set_option maxRecDepth 1000000 in
theorem delete_any (rs:List Rum) (n p g c base:Nat) (w:World) (hn:rs.length=n) (ho:ROwn base w (.slice (some ⟨g,0,none⟩) n c) rs) (hp:p < n) (hsm:n≤1000) :
 Calls Tryz.prog 236 #[.slice (some ⟨g,0,none⟩) n c,.int .i64 p,.int .i64 (p+1)] w fun e w'=>e=.returned (.slice (some ⟨g,0,none⟩) (n - 1) c)∧ROwn base w' (.slice (some ⟨g,0,none⟩) (n - 1) c) (rs.eraseIdx p)∧Below base w w':=by
 obtain ⟨i0,hi0,hz0,hz1,hz2⟩:=info_parts Tryz.infoR
 have HO:Hid (w.ownsRow base 98 6 (.slice (some ⟨g,0,none⟩) n c) n (flR rs)):=by rw [← hn];rw [← hn] at ho;exact ho
 obtain ⟨hgl,hnc,hcm⟩:base≤g∧n≤c∧c≤maxLen:=by
  rcases HO.out.2 with ⟨hv,_⟩ | ⟨g',c',cur,hv,hbg,hg,hnc,hcm,hcs,htake⟩
  ·cases hv
  ·simp only [Value.slice.injEq,Option.some.injEq,Addr.mk.injEq,and_true,true_and] at hv
   obtain ⟨rfl,rfl⟩:=hv
   exact ⟨hbg,hnc,hcm⟩
 unfold maxLen at hcm
 have hp0:(0:Int)≤(p:Int)+1:=by omega
 have hp1:(p:Int)+1≤(n:Int):=by omega
 have hp2:((p:Int)+1).toNat=p+1:=by omega
 have hic:p≤c:=by omega
 have hcell:∀ k,k < n * 6→w.cell? ⟨g,k,none⟩=(flR rs)[k]?:=fun k hk=>by
  rcases HO.out.2 with ⟨hv,_⟩ | ⟨g',c',cur,hv,hbg,hg,_,_,hcs,htake⟩
  ·cases hv
  ·simp only [Value.slice.injEq,Option.some.injEq,Addr.mk.injEq,and_true,true_and] at hv
   obtain ⟨rfl,rfl⟩:=hv
   rw [cellsAt hg,← htake,List.getElem?_take_of_lt hk,Array.getElem?_toList]
 have hfl:(flR rs).length=n * 6:=by rw [flR_len,hn]
 have S1:Hid ((flR (rs.drop (p+1))).length=(n - (p+1)) * 6):=(show (flR (rs.drop (p+1))).length=_ by rw [flR_len,List.length_drop,hn])
 obtain ⟨A,hA,hnews⟩:∃ A:Addr,(if c=p+1 then some (⟨g,0,none⟩:Addr) else some ⟨g,(p+1) * 6,none⟩)=some A∧Hid (∀ j u,(flR (rs.drop (p+1)))[j]?=some u→w.drew.cell? (A.add j)=some u):=by
  by_cases h:c=p+1
  ·refine ⟨_,if_pos h,fun j u hj=>?_⟩
   have:j < (flR (rs.drop (p+1))).length:=(List.getElem?_eq_some_iff.1 hj).1
   rw [S1.out] at this
   omega
  ·refine ⟨_,if_neg h,fun j u hj=>?_⟩
   have hj1:j < (flR (rs.drop (p+1))).length:=(List.getElem?_eq_some_iff.1 hj).1
   rw [S1.out] at hj1
   rw [Addr.add_lit]
   show w.cell? _=_
   rw [hcell _ (by omega),← hj,← flR_drop,List.getElem?_drop]
 have S2:Hid (∀ u∈flR (rs.drop (p+1)),u.oneCell'=true):=flR_one _
 have S3:Hid (∀ j,j < (flR (rs.drop (p+1))).length→(w.drew.cell? ⟨g,0+p * 6+j,none⟩).isSome=true∧w.drew.frozen? ⟨g,0+p * 6+j,none⟩=false):=fun j hj=>by
  rw [S1.out] at hj
  refine ⟨?_,World.ownsRow.frozenAt HO.out _⟩
  show (w.cell? _).isSome=true
  rw [hcell _ (by omega),List.getElem?_eq_getElem (by omega)]
  rfl
 have HD:Hid ((w.drew.setCells g (p * 6) (flR (rs.drop (p+1)))).ownsRow base 98 6 (.slice (some ⟨g,0,none⟩) n c) n (wrs (flR rs) (p * 6) (flR (rs.drop (p+1))))):=stored_all _ _ _ _ (show w.drew.ownsRow base 98 6 (.slice (some ⟨g,0,none⟩) n c) n (flR rs) from HO.out)
 have hclear:∀ ty,(Builtin.clear_ #[46] ty #[.slice (some ⟨g,(p+(n - (p+1))) * 6,none⟩) (n - (p+(n - (p+1)))) (c - (p+(n - (p+1))))]).run Tryz.prog (w.drew.setCells g (p * 6) (flR (rs.drop (p+1))))=.ok (.tuple #[]) ((w.drew.setCells g (p * 6) (flR (rs.drop (p+1)))).setCells g ((n - 1) * 6) zR):=fun ty=>by
  rw [show p+(n - (p+1))=n - 1 by omega,show n - (n - 1)=1 by omega]
  exact run_clear_one _ ty g _ _ (fun j hj=>by rw [World.ownsRow.cellAt HD.out _ (by omega),List.getElem?_eq_getElem (by rw [wrs_len,hfl];omega)];rfl) (fun j _=>World.ownsRow.frozenAt HD.out _)
 have HF:Hid (((w.drew.setCells g (p * 6) (flR (rs.drop (p+1)))).setCells g ((n - 1) * 6) zR).ownsRow base 98 6 (.slice (some ⟨g,0,none⟩) (n - 1) c) (n - 1) (flR (rs.eraseIdx p))):=by
  have h:=owns_shrink (m:=n - 1) (stored_all zR _ ((n - 1) * 6) _ HD.out) (by omega)
  rw [erase_cells hn hp] at h
  exact h
 have HL:Hid ((rs.eraseIdx p).length=n - 1):=(show (rs.eraseIdx p).length=n - 1 by rw [List.length_eraseIdx,if_pos (by omega),hn])
 have HBL:Hid (Below base w ((w.drew.setCells g (p * 6) (flR (rs.drop (p+1)))).setCells g ((n - 1) * 6) zR)):=below_setCells hgl _ _ _ _ (below_setCells hgl _ _ _ _ (Below.refl _ _).drew)
 have HPN:Hid (p+(n - (p+1))=n - 1):=(show p+(n - (p+1))=n - 1 by omega)
 clear ho hcell
 go_enter Tryz.func236,Tryz.ntmps236
 go_wp2_with fail
 go_region_law (refine step_append_room rfl (.tmp 22) (.tmp 25) 46 rfl 98 i0 6 Tryz.underlying46 hi0 hz1 g 0 p c (by simp [Act.eval,Act.put]) A (n - (p+1)) (c - (p+1)) (flR (rs.drop (p+1))) (by simp [Act.eval,Act.put]) S1.out hnews.out S2.out (by omega) S3.out ?_)
 go_wp2_with fail
 go_ret
 refine ⟨?_,?_,HBL.out⟩
 ·have hpn:=HPN.out
  simp only [hpn]
  rfl
 ·show World.ownsRow _ _ _ _ _ (rs.eraseIdx p).length _
  rw [HL.out]
  exact HF.out
end Go.Proofs.YtffdoiokmiklgaaGreatDoor
namespace Go.Proofs.YtffdoiokmiklgaaGreatDoor
open Go.RowKit Go.WideMaps Go.Maps
theorem chkR_zero {rs:List Rum} (h:chkR rs=0):rs.length≤20∧(∀ j,j < rs.length→(rs.getD j dr).m.e=0)∧AllTold rs∧Distinct rs:=by
 unfold chkR at h
 by_cases h1:20 < rs.length
 ·rw [if_pos h1] at h;omega
 rw [if_neg h1] at h
 by_cases h2:firstE (rmems rs)=0
 ·rw [if_pos h2] at h
  by_cases h3:AllTold rs
  ·rw [if_pos h3] at h
   by_cases h4:Distinct rs
   ·refine ⟨by omega,fun j hj=>?_,h3,h4⟩
    have:=firstE_at0 h2 j (by rw [rmems_len];exact hj)
    rwa [rmems_get] at this
   ·rw [if_neg h4] at h;omega
  ·rw [if_neg h3] at h;omega
 ·rw [if_neg h2] at h;exact absurd h h2
theorem newE_zero {a b:Mem} (ha:a.e=0) (hb:b.e=0) (hn:a.name=b.name):newE a b=0:=by
 have h:chkTwo [a] [b]=0:=by rw [chkTwo,chk_oneR,chk_oneR];simp [ha,hb]
 rw [newE,if_pos h,if_pos hn]
set_option maxHeartbeats 3200000 in
set_option maxRecDepth 100000 in
theorem put_full (rs:List Rum) (v:Value) (m:Mem) (w:World) (hv:RSl w v rs) (hm:m.name.size≤maxLen) (h0:chkR rs=0) (he:m.e=0) (hno:NotIn rs m.name) (hl:rs.length=20) :
 Calls Tryz.prog 195 #[v,.agg #[.string m.name,.int .i64 m.state,.int .i64 m.life,.int .i64 m.addr,.bool m.server]] w fun e w'=>e=.returned (.tuple #[.slice none 0 0,.int .i64 2])∧Below w.heap.size w w':=by
 obtain ⟨i0,hi0,hz0,hzs,hzb⟩:=info_parts Tryz.infoR
 have HV:Hid (RSl w v rs):=hv
 have hchk:=fun (w:World) (h:RSl w v rs)=>checkR_any rs v w h
 rw [h0] at hchk
 have hcm:=fun w=>checkMember_any m w hm
 rw [he] at hcm
 have HH:Hid (Maps.has (Dm (rnames rs) rs.length) (kS m.name)=false):=has_not hno
 clear h0 he hv
 obtain ⟨nm,st,lf,ad,sv⟩:=m
 simp only at *
 have hB0:Below w.heap.size w (w.alloc (.cells #[.string nm,.int .i64 st,.int .i64 lf,.int .i64 ad,.bool sv] 56)):=(Below.refl _ _).alloc (Nat.le_refl _) _
 go_enter Tryz.func195,Tryz.ntmps195
 go_wp2_with fail
 refine (hchk _ (HV.out.below hB0)).mono ?_
 rintro e w1 ⟨rfl,hb1⟩
 have c1:∀ o,w1.cell? ⟨w.heap.size,o,none⟩=#[Value.string nm,.int .i64 st,.int .i64 lf,.int .i64 ad,.bool sv][o]?:=fun o=>by
  rw [hb1.cell (p:=⟨w.heap.size,o,none⟩) (by simp)];exact cell_top' rfl
 have HB1:Hid (Below w.heap.size w w1):=hB0.trans (hb1.mono (by simp))
 have hz1:w.heap.size < w1.heap.size:=by have:=hb1.size;simp at this;omega
 clear hb1 hB0 hchk
 go_wp2_with fail
 refine (hcm _).mono ?_
 rintro e w2 ⟨rfl,hb2⟩
 have c2:∀ o,w2.cell? ⟨w.heap.size,o,none⟩=#[Value.string nm,.int .i64 st,.int .i64 lf,.int .i64 ad,.bool sv][o]?:=fun o=>by
  rw [hb2.cell (p:=⟨w.heap.size,o,none⟩) (by simp only;omega)];exact c1 o
 have HB2:Hid (Below w.heap.size w w2):=HB1.out.trans (hb2.mono HB1.out.size)
 have hz2:w.heap.size < w2.heap.size:=by have:=hb2.size;omega
 clear hb2 c1 hz1 HB1 hcm
 go_wp2_with fail
 refine (rclone_any rs v _ (HV.out.below HB2.out) (by omega)).mono ?_
 rintro e w3 ⟨v3,rfl,ho3,hb3⟩
 have HO3:Hid (ROwn w2.heap.size w3 v3 rs):=ho3
 have c3:w3.cell? ⟨w.heap.size,0,none⟩=some (.string nm):=by
  rw [hb3.cell (p:=⟨w.heap.size,0,none⟩) (by simp only;omega)];exact c2 0
 have C3:Hid (∀ o,w3.cell? ⟨w.heap.size,o,none⟩=#[Value.string nm,.int .i64 st,.int .i64 lf,.int .i64 ad,.bool sv][o]?):=fun o=>by
  rw [hb3.cell (p:=⟨w.heap.size,o,none⟩) (by simp only;omega)];exact c2 o
 have HB3:Hid (Below w.heap.size w w3):=HB2.out.trans (hb3.mono HB2.out.size)
 have hz3:w.heap.size < w3.heap.size:=by have:=hb3.size;omega
 have hz23:w2.heap.size≤w3.heap.size:=hb3.size
 clear hb3 ho3 c2
 go_wp2_with fail
 go_region_held3 (fun w'=>w'.cell? ⟨w.heap.size,0,none⟩=some (.string nm)) (first | assumption | go_keep) (first | (go_at_call 181;refine (met_any rs v _ ((HV.out.below HB3.out).below (Below.refl _ _).drew) (by omega)).mono ?_;rintro e w4 ⟨rfl,hown,hb4⟩;obtain ⟨cq,hrun,hat⟩:=look_any hown hm;rw [HH.out] at hrun;have hr2:(Instr.lookup 131 (.map (some w3.heap.size)) (.string nm) true).run Tryz.prog w4=.ok (.tuple #[.int .i64 cq,.bool false]) w4:=hrun;clear hrun hat hown;have HB4:Hid (Below w3.heap.size w3 w4):=(Below.refl w3.heap.size w3).drew.trans hb4;have hS:w4.cell? ⟨w.heap.size,0,none⟩=some (.string nm):=((hb4.cell (p:=⟨w.heap.size,0,none⟩) hz3).trans c3);clear hb4))
 obtain ⟨a3,ca3,hv3⟩:=HO3.out.slice
 subst hv3
 have HB5:Hid (Below w.heap.size w w4):=HB3.out.trans (HB4.out.mono HB3.out.size)
 clear HO3 C3 HB4 HB3 c3 hr2
 rw [hl]
 go_wp2_with fail
 go_ret2
 exact ⟨rfl,HB5.out⟩
set_option maxHeartbeats 1600000 in
set_option maxRecDepth 100000 in
theorem put_old (rs:List Rum) (v:Value) (m:Mem) (w:World) (hv:RSl w v rs) (hm:m.name.size≤maxLen) (h0:chkR rs=0) (he:m.e=0) (p:Nat) (hp:p < rs.length) (hpn:(rs.getD p dr).m.name=m.name) (HNEW:newM m (rs.getD p dr).m=false) :
 Calls Tryz.prog 195 #[v,.agg #[.string m.name,.int .i64 m.state,.int .i64 m.life,.int .i64 m.addr,.bool m.server]] w fun e w'=>∃ v',e=.returned (.tuple #[v',.int .i64 0])∧ROwn w.heap.size w' v' rs∧Below w.heap.size w w':=by
 obtain ⟨i0,hi0,hz0,hzs,hzb⟩:=info_parts Tryz.infoR
 have HV:Hid (RSl w v rs):=hv
 have hchk:=fun (w:World) (h:RSl w v rs)=>checkR_any rs v w h
 rw [h0] at hchk
 have hcm:=fun w=>checkMember_any m w hm
 rw [he] at hcm
 have HH:Hid (Maps.has (Dm (rnames rs) rs.length) (kS m.name)=true):=(Dm_has _ _ _).2 ⟨p,hp,by rw [rnames_get];exact hpn⟩
 have HAT:Hid ((Dm (rnames rs) rs.length).atKey (kS m.name) (.lit (.int .i64 0))=.lit (.int .i64 p)):=Dm_at _ _ _ _ p hp (by rw [rnames_get];exact hpn) (fun i hi hk=>by rw [rnames_get,← hpn];exact fun e=>(chkR_zero h0).2.2.2 p i hi hk e.symm)
 have hn20:rs.length≤20:=(chkR_zero h0).1
 have HEP:Hid ((rs.getD p dr).m.e=0):=(chkR_zero h0).2.1 p hp
 have hnp:(rs.getD p dr).m.name.size≤maxLen:=by obtain ⟨_,_,_,h,_⟩:=hv;exact h p
 have HN0:Hid (newE m (rs.getD p dr).m=0):=newE_zero he HEP.out hpn.symm
 clear h0 he hv HEP
 obtain ⟨nm,st,lf,ad,sv⟩:=m
 simp only at *
 have hB0:Below w.heap.size w (w.alloc (.cells #[.string nm,.int .i64 st,.int .i64 lf,.int .i64 ad,.bool sv] 56)):=(Below.refl _ _).alloc (Nat.le_refl _) _
 go_enter Tryz.func195,Tryz.ntmps195
 go_wp2_with fail
 refine (hchk _ (HV.out.below hB0)).mono ?_
 rintro e w1 ⟨rfl,hb1⟩
 have c1:∀ o,w1.cell? ⟨w.heap.size,o,none⟩=#[Value.string nm,.int .i64 st,.int .i64 lf,.int .i64 ad,.bool sv][o]?:=fun o=>by
  rw [hb1.cell (p:=⟨w.heap.size,o,none⟩) (by simp)];exact cell_top' rfl
 have HB1:Hid (Below w.heap.size w w1):=hB0.trans (hb1.mono (by simp))
 have hz1:w.heap.size < w1.heap.size:=by have:=hb1.size;simp at this;omega
 clear hb1 hB0 hchk
 go_wp2_with fail
 refine (hcm _).mono ?_
 rintro e w2 ⟨rfl,hb2⟩
 have c2:∀ o,w2.cell? ⟨w.heap.size,o,none⟩=#[Value.string nm,.int .i64 st,.int .i64 lf,.int .i64 ad,.bool sv][o]?:=fun o=>by
  rw [hb2.cell (p:=⟨w.heap.size,o,none⟩) (by simp only;omega)];exact c1 o
 have HB2:Hid (Below w.heap.size w w2):=HB1.out.trans (hb2.mono HB1.out.size)
 have hz2:w.heap.size < w2.heap.size:=by have:=hb2.size;omega
 clear hb2 c1 hz1 HB1 hcm
 go_wp2_with fail
 refine (rclone_any rs v _ (HV.out.below HB2.out) (by omega)).mono ?_
 rintro e w3 ⟨v3,rfl,ho3,hb3⟩
 have HO3:Hid (ROwn w2.heap.size w3 v3 rs):=ho3
 have c3:w3.cell? ⟨w.heap.size,0,none⟩=some (.string nm):=by
  rw [hb3.cell (p:=⟨w.heap.size,0,none⟩) (by simp only;omega)];exact c2 0
 have C3:Hid (∀ o,w3.cell? ⟨w.heap.size,o,none⟩=#[Value.string nm,.int .i64 st,.int .i64 lf,.int .i64 ad,.bool sv][o]?):=fun o=>by
  rw [hb3.cell (p:=⟨w.heap.size,o,none⟩) (by simp only;omega)];exact c2 o
 have HB3:Hid (Below w.heap.size w w3):=HB2.out.trans (hb3.mono HB2.out.size)
 have hz3:w.heap.size < w3.heap.size:=by have:=hb3.size;omega
 have hz23:w2.heap.size≤w3.heap.size:=hb3.size
 clear hb3 ho3 c2
 go_wp2_with fail
 go_region_held3 (fun w'=>w'.cell? ⟨w.heap.size,0,none⟩=some (.string nm)) (first | assumption | go_keep) (first | (go_at_call 181;refine (met_any rs v _ ((HV.out.below HB3.out).below (Below.refl _ _).drew) (by omega)).mono ?_;rintro e w4 ⟨rfl,hown,hb4⟩;obtain ⟨cq,hrun,hat⟩:=look_any hown hm;rw [HH.out] at hrun;rw [HAT.out] at hat;have hcq:cq=p:=(by simp at hat;exact hat.symm);subst hcq;have hr2:(Instr.lookup 131 (.map (some w3.heap.size)) (.string nm) true).run Tryz.prog w4=.ok (.tuple #[.int .i64 p,.bool true]) w4:=hrun;clear hrun hat hown;have HB4:Hid (Below w3.heap.size w3 w4):=(Below.refl w3.heap.size w3).drew.trans hb4;have hS:w4.cell? ⟨w.heap.size,0,none⟩=some (.string nm):=((hb4.cell (p:=⟨w.heap.size,0,none⟩) hz3).trans c3);clear hb4))
 obtain ⟨a3,ca3,hv3⟩:=HO3.out.slice
 subst hv3
 have C4:∀ o,w4.cell? ⟨w.heap.size,o,none⟩=#[Value.string nm,.int .i64 st,.int .i64 lf,.int .i64 ad,.bool sv][o]?:=fun o=>by
  rw [HB4.out.cell (p:=⟨w.heap.size,o,none⟩) hz3];exact C3.out o
 have HO4:Hid (ROwn w2.heap.size w4 (.slice a3 rs.length ca3) rs):=HO3.out.below HB4.out
 have HB5:Hid (Below w.heap.size w w4):=HB3.out.trans (HB4.out.mono HB3.out.size)
 have hz5:w2.heap.size≤w4.heap.size:=by have:=HB4.out.size;omega
 have HV4:Hid (RSl w4 v rs):=HV.out.below HB5.out
 clear HO3 C3 HB4 HB3 c3 hr2 HV
 obtain ⟨pa,ca,hvv,_,hrow⟩:=HV4.out
 subst hvv
 obtain ⟨b,off,hpa,hlb,hr⟩:∃ b off,pa=some ⟨b,off,none⟩∧b < w4.heap.size∧RRow w4 b off rs:=by
  rcases hrow with h | h
  ·rw [h] at hp;simp at hp
  ·exact h
 subst hpa
 obtain ⟨e0,e1,e2,e3,e4,e5⟩:=hr p hp
 have hN:=fun w=>newer2_any ⟨nm,st,lf,ad,sv⟩ (rs.getD p dr).m w hm hnp
 rw [HN0.out,HNEW] at hN
 simp only [beq_self_eq_true,Bool.true_and] at hN
 clear hrow hr HV4
 generalize (rs.getD p dr)=rp at *
 obtain ⟨⟨yn,ys,yl,ya,yv⟩,ytd⟩:=rp
 simp only at e0 e1 e2 e3 e4 e5 hN hpn
 have hpn2:=hpn.symm
 clear hpn
 subst hpn2
 generalize hN':rs.length=n at *
 have HN:Hid (rs.length=n):=hN'
 clear hN'
 go_wp2_with fail
 have E0:∀ d os,(Go.Sort.grow (redrawn w4 d) os).cell? ⟨w.heap.size,0,none⟩=some (.string nm):=cell_regrown (C4 0)
 have E1:∀ d os,(Go.Sort.grow (redrawn w4 d) os).cell? ⟨w.heap.size,1,none⟩=some (.int .i64 st):=cell_regrown (C4 1)
 have E2:∀ d os,(Go.Sort.grow (redrawn w4 d) os).cell? ⟨w.heap.size,2,none⟩=some (.int .i64 lf):=cell_regrown (C4 2)
 have E3:∀ d os,(Go.Sort.grow (redrawn w4 d) os).cell? ⟨w.heap.size,3,none⟩=some (.int .i64 ad):=cell_regrown (C4 3)
 have E4:∀ d os,(Go.Sort.grow (redrawn w4 d) os).cell? ⟨w.heap.size,4,none⟩=some (.bool sv):=cell_regrown (C4 4)
 have F0:∀ d os,(Go.Sort.grow (redrawn w4 d) os).cell? ⟨b,off+p * 6,none⟩=some (.string nm):=cell_regrown e0
 have F1:∀ d os,(Go.Sort.grow (redrawn w4 d) os).cell? ⟨b,off+p * 6+1,none⟩=some (.int .i64 ys):=cell_regrown e1
 have F2:∀ d os,(Go.Sort.grow (redrawn w4 d) os).cell? ⟨b,off+p * 6+2,none⟩=some (.int .i64 yl):=cell_regrown e2
 have F3:∀ d os,(Go.Sort.grow (redrawn w4 d) os).cell? ⟨b,off+p * 6+3,none⟩=some (.int .i64 ya):=cell_regrown e3
 have F4:∀ d os,(Go.Sort.grow (redrawn w4 d) os).cell? ⟨b,off+p * 6+4,none⟩=some (.bool yv):=cell_regrown e4
 have cN:∀ d os,Calls Tryz.prog 190 #[.agg #[.string nm,.int .i64 st,.int .i64 lf,.int .i64 ad,.bool sv],.agg #[.string nm,.int .i64 ys,.int .i64 yl,.int .i64 ya,.bool yv]] (Go.Sort.grow (redrawn w4 d) os) fun e w''=>e=.returned (.tuple #[.bool false,.int .i64 0])∧∃ p:Regrown,w''=Go.Sort.grow (redrawn w4 p.d) p.os:=fun d os=>
  Calls.regrown_of ((hN _).mono (by rintro e w' ⟨rfl,hb⟩;exact ⟨rfl,hb⟩))
 clear e0 e1 e2 e3 e4 e5 hN
 refine wp_region_quiet_below (by kernel_rfl) (by kernel_rfl) ?_
 repeat (quiet_step (exact cN _ _))
 refine wpQuiet_nil ?_
 intro _ hw'
 obtain ⟨⟨dq,osq⟩,hw''⟩:=hw'
 subst hw''
 have HBQ:Hid (Below w4.heap.size w4 (Go.Sort.grow (redrawn w4 dq) osq)):=below_regrown w4 dq osq
 clear cN E0 E1 E2 E3 E4 F0 F1 F2 F3 F4
 have HO6:Hid (ROwn w.heap.size (Go.Sort.grow (redrawn w4 dq) osq) (.slice a3 n ca3) rs):=(HO4.out.below HBQ.out).base (by omega)
 have HB6:Hid (Below w.heap.size w (Go.Sort.grow (redrawn w4 dq) osq)):=HB5.out.trans (HBQ.out.mono HB5.out.size)
 clear HO4 HBQ
 go_wp2_with fail
 go_ret2
 exact ⟨_,rfl,HO6.out,HB6.out⟩
set_option maxHeartbeats 3200000 in
set_option maxRecDepth 100000 in
theorem put_newer (rs:List Rum) (v:Value) (m:Mem) (w:World) (hv:RSl w v rs) (hm:m.name.size≤maxLen) (h0:chkR rs=0) (he:m.e=0) (p:Nat) (hp:p < rs.length) (hpn:(rs.getD p dr).m.name=m.name) (HNEW:newM m (rs.getD p dr).m=true) :
 Calls Tryz.prog 195 #[v,.agg #[.string m.name,.int .i64 m.state,.int .i64 m.life,.int .i64 m.addr,.bool m.server]] w fun e w'=>∃ v',e=.returned (.tuple #[v',.int .i64 0])∧ROwn w.heap.size w' v' (rs.eraseIdx p++[⟨m,0⟩])∧Below w.heap.size w w':=by
 obtain ⟨i0,hi0,hz0,hzs,hzb⟩:=info_parts Tryz.infoR
 have HV:Hid (RSl w v rs):=hv
 have hchk:=fun (w:World) (h:RSl w v rs)=>checkR_any rs v w h
 rw [h0] at hchk
 have hcm:=fun w=>checkMember_any m w hm
 rw [he] at hcm
 have HH:Hid (Maps.has (Dm (rnames rs) rs.length) (kS m.name)=true):=(Dm_has _ _ _).2 ⟨p,hp,by rw [rnames_get];exact hpn⟩
 have HAT:Hid ((Dm (rnames rs) rs.length).atKey (kS m.name) (.lit (.int .i64 0))=.lit (.int .i64 p)):=Dm_at _ _ _ _ p hp (by rw [rnames_get];exact hpn) (fun i hi hk=>by rw [rnames_get,← hpn];exact fun e=>(chkR_zero h0).2.2.2 p i hi hk e.symm)
 have hn20:rs.length≤20:=(chkR_zero h0).1
 have HEP:Hid ((rs.getD p dr).m.e=0):=(chkR_zero h0).2.1 p hp
 have hnp:(rs.getD p dr).m.name.size≤maxLen:=by obtain ⟨_,_,_,h,_⟩:=hv;exact h p
 have HN0:Hid (newE m (rs.getD p dr).m=0):=newE_zero he HEP.out hpn.symm
 clear h0 he hv HEP
 obtain ⟨nm,st,lf,ad,sv⟩:=m
 simp only at *
 have hB0:Below w.heap.size w (w.alloc (.cells #[.string nm,.int .i64 st,.int .i64 lf,.int .i64 ad,.bool sv] 56)):=(Below.refl _ _).alloc (Nat.le_refl _) _
 go_enter Tryz.func195,Tryz.ntmps195
 go_wp2_with fail
 refine (hchk _ (HV.out.below hB0)).mono ?_
 rintro e w1 ⟨rfl,hb1⟩
 have c1:∀ o,w1.cell? ⟨w.heap.size,o,none⟩=#[Value.string nm,.int .i64 st,.int .i64 lf,.int .i64 ad,.bool sv][o]?:=fun o=>by
  rw [hb1.cell (p:=⟨w.heap.size,o,none⟩) (by simp)];exact cell_top' rfl
 have HB1:Hid (Below w.heap.size w w1):=hB0.trans (hb1.mono (by simp))
 have hz1:w.heap.size < w1.heap.size:=by have:=hb1.size;simp at this;omega
 clear hb1 hB0 hchk
 go_wp2_with fail
 refine (hcm _).mono ?_
 rintro e w2 ⟨rfl,hb2⟩
 have c2:∀ o,w2.cell? ⟨w.heap.size,o,none⟩=#[Value.string nm,.int .i64 st,.int .i64 lf,.int .i64 ad,.bool sv][o]?:=fun o=>by
  rw [hb2.cell (p:=⟨w.heap.size,o,none⟩) (by simp only;omega)];exact c1 o
 have HB2:Hid (Below w.heap.size w w2):=HB1.out.trans (hb2.mono HB1.out.size)
 have hz2:w.heap.size < w2.heap.size:=by have:=hb2.size;omega
 clear hb2 c1 hz1 HB1 hcm
 go_wp2_with fail
 refine (rclone_any rs v _ (HV.out.below HB2.out) (by omega)).mono ?_
 rintro e w3 ⟨v3,rfl,ho3,hb3⟩
 have HO3:Hid (ROwn w2.heap.size w3 v3 rs):=ho3
 have c3:w3.cell? ⟨w.heap.size,0,none⟩=some (.string nm):=by
  rw [hb3.cell (p:=⟨w.heap.size,0,none⟩) (by simp only;omega)];exact c2 0
 have C3:Hid (∀ o,w3.cell? ⟨w.heap.size,o,none⟩=#[Value.string nm,.int .i64 st,.int .i64 lf,.int .i64 ad,.bool sv][o]?):=fun o=>by
  rw [hb3.cell (p:=⟨w.heap.size,o,none⟩) (by simp only;omega)];exact c2 o
 have HB3:Hid (Below w.heap.size w w3):=HB2.out.trans (hb3.mono HB2.out.size)
 have hz3:w.heap.size < w3.heap.size:=by have:=hb3.size;omega
 have hz23:w2.heap.size≤w3.heap.size:=hb3.size
 clear hb3 ho3 c2
 go_wp2_with fail
 go_region_held3 (fun w'=>w'.cell? ⟨w.heap.size,0,none⟩=some (.string nm)) (first | assumption | go_keep) (first | (go_at_call 181;refine (met_any rs v _ ((HV.out.below HB3.out).below (Below.refl _ _).drew) (by omega)).mono ?_;rintro e w4 ⟨rfl,hown,hb4⟩;obtain ⟨cq,hrun,hat⟩:=look_any hown hm;rw [HH.out] at hrun;rw [HAT.out] at hat;have hcq:cq=p:=(by simp at hat;exact hat.symm);subst hcq;have hr2:(Instr.lookup 131 (.map (some w3.heap.size)) (.string nm) true).run Tryz.prog w4=.ok (.tuple #[.int .i64 p,.bool true]) w4:=hrun;clear hrun hat hown;have HB4:Hid (Below w3.heap.size w3 w4):=(Below.refl w3.heap.size w3).drew.trans hb4;have hS:w4.cell? ⟨w.heap.size,0,none⟩=some (.string nm):=((hb4.cell (p:=⟨w.heap.size,0,none⟩) hz3).trans c3);clear hb4))
 obtain ⟨a3,ca3,hv3⟩:=HO3.out.slice
 subst hv3
 have C4:∀ o,w4.cell? ⟨w.heap.size,o,none⟩=#[Value.string nm,.int .i64 st,.int .i64 lf,.int .i64 ad,.bool sv][o]?:=fun o=>by
  rw [HB4.out.cell (p:=⟨w.heap.size,o,none⟩) hz3];exact C3.out o
 have HO4:Hid (ROwn w2.heap.size w4 (.slice a3 rs.length ca3) rs):=HO3.out.below HB4.out
 have HB5:Hid (Below w.heap.size w w4):=HB3.out.trans (HB4.out.mono HB3.out.size)
 have hz5:w2.heap.size≤w4.heap.size:=by have:=HB4.out.size;omega
 have HV4:Hid (RSl w4 v rs):=HV.out.below HB5.out
 clear HO3 C3 HB4 HB3 c3 hr2 HV
 obtain ⟨pa,ca,hvv,_,hrow⟩:=HV4.out
 subst hvv
 obtain ⟨b,off,hpa,hlb,hr⟩:∃ b off,pa=some ⟨b,off,none⟩∧b < w4.heap.size∧RRow w4 b off rs:=by
  rcases hrow with h | h
  ·rw [h] at hp;simp at hp
  ·exact h
 subst hpa
 obtain ⟨e0,e1,e2,e3,e4,e5⟩:=hr p hp
 have hN:=fun w=>newer2_any ⟨nm,st,lf,ad,sv⟩ (rs.getD p dr).m w hm hnp
 rw [HN0.out,HNEW] at hN
 simp only [beq_self_eq_true,Bool.true_and] at hN
 clear hrow hr HV4
 generalize (rs.getD p dr)=rp at *
 obtain ⟨⟨yn,ys,yl,ya,yv⟩,ytd⟩:=rp
 simp only at e0 e1 e2 e3 e4 e5 hN hpn
 have hpn2:=hpn.symm
 clear hpn
 subst hpn2
 generalize hN':rs.length=n at *
 have HN:Hid (rs.length=n):=hN'
 clear hN'
 go_wp2_with fail
 have E0:∀ d os,(Go.Sort.grow (redrawn w4 d) os).cell? ⟨w.heap.size,0,none⟩=some (.string nm):=cell_regrown (C4 0)
 have E1:∀ d os,(Go.Sort.grow (redrawn w4 d) os).cell? ⟨w.heap.size,1,none⟩=some (.int .i64 st):=cell_regrown (C4 1)
 have E2:∀ d os,(Go.Sort.grow (redrawn w4 d) os).cell? ⟨w.heap.size,2,none⟩=some (.int .i64 lf):=cell_regrown (C4 2)
 have E3:∀ d os,(Go.Sort.grow (redrawn w4 d) os).cell? ⟨w.heap.size,3,none⟩=some (.int .i64 ad):=cell_regrown (C4 3)
 have E4:∀ d os,(Go.Sort.grow (redrawn w4 d) os).cell? ⟨w.heap.size,4,none⟩=some (.bool sv):=cell_regrown (C4 4)
 have F0:∀ d os,(Go.Sort.grow (redrawn w4 d) os).cell? ⟨b,off+p * 6,none⟩=some (.string nm):=cell_regrown e0
 have F1:∀ d os,(Go.Sort.grow (redrawn w4 d) os).cell? ⟨b,off+p * 6+1,none⟩=some (.int .i64 ys):=cell_regrown e1
 have F2:∀ d os,(Go.Sort.grow (redrawn w4 d) os).cell? ⟨b,off+p * 6+2,none⟩=some (.int .i64 yl):=cell_regrown e2
 have F3:∀ d os,(Go.Sort.grow (redrawn w4 d) os).cell? ⟨b,off+p * 6+3,none⟩=some (.int .i64 ya):=cell_regrown e3
 have F4:∀ d os,(Go.Sort.grow (redrawn w4 d) os).cell? ⟨b,off+p * 6+4,none⟩=some (.bool yv):=cell_regrown e4
 have cN:∀ d os,Calls Tryz.prog 190 #[.agg #[.string nm,.int .i64 st,.int .i64 lf,.int .i64 ad,.bool sv],.agg #[.string nm,.int .i64 ys,.int .i64 yl,.int .i64 ya,.bool yv]] (Go.Sort.grow (redrawn w4 d) os) fun e w''=>e=.returned (.tuple #[.bool true,.int .i64 0])∧∃ p:Regrown,w''=Go.Sort.grow (redrawn w4 p.d) p.os:=fun d os=>
  Calls.regrown_of ((hN _).mono (by rintro e w' ⟨rfl,hb⟩;exact ⟨rfl,hb⟩))
 clear e0 e1 e2 e3 e4 e5 hN
 refine wp_region_quiet_below (by kernel_rfl) (by kernel_rfl) ?_
 repeat (quiet_step (exact cN _ _))
 refine wpQuiet_nil ?_
 intro _ hw'
 obtain ⟨⟨dq,osq⟩,hw''⟩:=hw'
 subst hw''
 have HBQ:Hid (Below w4.heap.size w4 (Go.Sort.grow (redrawn w4 dq) osq)):=below_regrown w4 dq osq
 clear cN E0 E1 E2 E3 E4 F0 F1 F2 F3 F4
 have HN1:Hid (rs.length=n):=HN
 obtain ⟨g,c,ha3,hc3⟩:∃ g c,a3=some ⟨g,0,none⟩∧ca3=c:=by
  rcases HO4.out.2 with ⟨_,h0⟩ | ⟨g,c,cur,h,_⟩
  ·have:=HN.out;omega
  ·simp only [Value.slice.injEq] at h
   exact ⟨g,c,h.1,h.2.2⟩
 subst ha3
 subst hc3
 have HO6:Hid (ROwn w2.heap.size (Go.Sort.grow (redrawn w4 dq) osq) (.slice (some ⟨g,0,none⟩) n ca3) rs):=HO4.out.below HBQ.out
 have HB6:Hid (Below w.heap.size w (Go.Sort.grow (redrawn w4 dq) osq)):=HB5.out.trans (HBQ.out.mono HB5.out.size)
 have C6:∀ o,(Go.Sort.grow (redrawn w4 dq) osq).cell? ⟨w.heap.size,o,none⟩=#[Value.string nm,.int .i64 st,.int .i64 lf,.int .i64 ad,.bool sv][o]?:=fun o=>by
  rw [HBQ.out.cell (p:=⟨w.heap.size,o,none⟩) (by simp only;omega)];exact C4 o
 have hz6:w2.heap.size≤(Go.Sort.grow (redrawn w4 dq) osq).heap.size:=by have:=HBQ.out.size;omega
 clear HO4 HBQ C4
 generalize Go.Sort.grow (redrawn w4 dq) osq=w6 at *
 go_wp2_with fail
 refine (delete_any rs n p g ca3 w2.heap.size _ HN.out HO6.out hp (by omega)).mono ?_
 rintro e w7 ⟨rfl,ho7,hb7⟩
 have C7:∀ o,w7.cell? ⟨w.heap.size,o,none⟩=#[Value.string nm,.int .i64 st,.int .i64 lf,.int .i64 ad,.bool sv][o]?:=fun o=>by
  rw [hb7.cell (p:=⟨w.heap.size,o,none⟩) (by simp only;omega)];exact C6 o
 have HB7:Hid (Below w.heap.size w w7):=HB6.out.trans (hb7.mono (by omega))
 have hz7:w2.heap.size≤w7.heap.size:=by have:=hb7.size;omega
 have HLE:Hid ((rs.eraseIdx p).length=n - 1):=(show (rs.eraseIdx p).length=n - 1 by rw [List.length_eraseIdx,if_pos (by rw [HN.out];exact hp),HN.out])
 have HO8:Hid (∀ ob,(w7.alloc ob).ownsRow w2.heap.size 98 6 (.slice (some ⟨g,0,none⟩) (n - 1) ca3) (n - 1) (flR (rs.eraseIdx p))):=fun ob=>by
  have h:=ROwn.below (ms:=rs.eraseIdx p) ho7 ((Below.refl _ _).alloc (Nat.le_refl _) ob)
  have h2:(w7.alloc ob).ownsRow w2.heap.size 98 6 (.slice (some ⟨g,0,none⟩) (n - 1) ca3) (rs.eraseIdx p).length (flR (rs.eraseIdx p)):=h
  rw [HLE.out] at h2
  exact h2
 have HLT:Hid (∀ k,(Value.slice (some ⟨g,0,none⟩) (n - 1) ca3).ownBlock=some k→w.heap.size≤k):=fun k hk=>by have:=(ROwn.lt (ms:=rs.eraseIdx p) ho7 k hk).1;omega
 have HSN:Hid (∀ (w':World) (v':Value),w'.ownsRow w2.heap.size 98 6 v' (n - 1+1) (flR (rs.eraseIdx p)++(Rum.mk ⟨nm,st,lf,ad,sv⟩ 0).cs)→ROwn w.heap.size w' v' (rs.eraseIdx p++[⟨⟨nm,st,lf,ad,sv⟩,0⟩])):=fun w' v' h=>(rown_snoc (by rw [HLE.out];exact h)).base (by omega)
 have hn19:n - 1≤19:=by omega
 clear hb7 ho7 C6 HB6 HO6 HLE
 generalize hn1:n - 1=n1 at *
 clear hn1
 go_wp2_with (at_builtin;refine wpList_append_own _ rfl _ _ 46 rfl w2.heap.size 98 i0 _ 6 56 Tryz.underlying46 hi0 hz0 hzs hzb rfl (by omega) _ n1 (flR (rs.eraseIdx p)) rfl ?hown ⟨w7.heap.size,0,none⟩ 1 1 (Rum.mk ⟨nm,st,lf,ad,sv⟩ 0).cs rfl rfl ?hnews (rcs_one _) ?h63 ?hbytes ?hbase ?_)
 case hown=>exact HO8.out _
 case hnews=>(intro j u hj;rw [Addr.add_lit];exact (cell_top' (by simp)).trans (by simpa [Rum.cs] using hj))
 case h63=>(unfold maxLen;omega)
 case hbytes=>omega
 case hbase=>(simp;omega)
 intro v' w8 r1 r2 r3
 have R1:Hid (ROwn w.heap.size w8 v' (rs.eraseIdx p++[⟨⟨nm,st,lf,ad,sv⟩,0⟩])):=HSN.out w8 v' r1
 have R2:Hid (Below w.heap.size w w8):=(HB7.out.alloc HB7.out.size _).grown r2 (by have:=HB7.out.size;simp;omega) (fun k hk=>HLT.out k hk)
 clear r1 r2 r3
 go_wp2_with fail
 go_ret2
 exact ⟨v',rfl,R1.out,R2.out⟩
set_option maxHeartbeats 800000 in
theorem eqInM (d:Nat) (m:Mem) (w:World):(Op.equalIn (d+1+1) 56 (.agg #[.string m.name,.int .i64 m.state,.int .i64 m.life,.int .i64 m.addr,.bool m.server]) (.agg #[.string m.name,.int .i64 m.state,.int .i64 m.life,.int .i64 m.addr,.bool m.server])).run Tryz.prog w=.ok true w:=by
 obtain ⟨n1,s1,l1,a1,v1⟩:=m
 have u3:=run_underlying Tryz.underlying3
 have a3:=Tryz.isAgg3
 have z3:=Tryz.sizeOf3
 have u4:=run_underlying Tryz.underlying4
 have a4:=Tryz.isAgg4
 have z4:=Tryz.sizeOf4
 have u9:=run_underlying Tryz.underlying9
 have a9:=Tryz.isAgg9
 have z9:=Tryz.sizeOf9
 have hS:Tryz.prog.underlying 56=some (.struct (Tryz.prog.fieldsOf 56)):=by kernel_rfl
 have hp:Tryz.prog.stoodInHeld 56=false:=by kernel_rfl
 rw [run_equalIn_agg w (d+1) 56 _ _ hS hp]
 simp only [Program.fieldsOf,Tryz.underlying56]
 go_simp
set_option maxHeartbeats 800000 in
theorem eqInR (r:Rum) (w:World):(Op.equalIn 10000 98 (.agg #[.string r.m.name,.int .i64 r.m.state,.int .i64 r.m.life,.int .i64 r.m.addr,.bool r.m.server,.int .i64 r.told]) (.agg #[.string r.m.name,.int .i64 r.m.state,.int .i64 r.m.life,.int .i64 r.m.addr,.bool r.m.server,.int .i64 r.told])).run Tryz.prog w=.ok true w:=by
 have hM:=fun w=>eqInM 9997 r.m w
 obtain ⟨⟨n1,s1,l1,a1,v1⟩,t1⟩:=r
 have u3:=run_underlying Tryz.underlying3
 have a3:=Tryz.isAgg3
 have z3:=Tryz.sizeOf3
 have a24:=Tryz.isAgg56
 have z24:=Tryz.sizeOf56
 have hS:Tryz.prog.underlying 98=some (.struct (Tryz.prog.fieldsOf 98)):=by kernel_rfl
 have hp:Tryz.prog.stoodInHeld 98=false:=by kernel_rfl
 simp only at hM
 rw [show (10000:Nat)=9999+1 from rfl,run_equalIn_agg w 9999 98 _ _ hS hp]
 simp only [Program.fieldsOf,Tryz.underlying98]
 go_simp
theorem neqR (r:Rum) (w:World):Sem.run Tryz.prog (binOp .neq 98 (.agg #[.string r.m.name,.int .i64 r.m.state,.int .i64 r.m.life,.int .i64 r.m.addr,.bool r.m.server,.int .i64 r.told]) (.agg #[.string r.m.name,.int .i64 r.m.state,.int .i64 r.m.life,.int .i64 r.m.addr,.bool r.m.server,.int .i64 r.told])) w=.ok (.bool false) w:=by
 rw [run_neq_struct,eqInR]
 rfl
set_option maxHeartbeats 1600000 in
theorem sameR_self (rs:List Rum) (va vb:Value) (w:World) (ha:RSl w va rs) (hb:RSl w vb rs) (hsm:rs.length≤1000) :
 Calls Tryz.prog 77 #[va,vb] w fun e w'=>e=.returned (.bool true)∧Below w.heap.size w w':=by
 obtain ⟨pa,ca,rfl,_,ha⟩:=ha
 obtain ⟨pv,cb,rfl,_,hb⟩:=hb
 have HA:Hid (rs=[]∨∃ b off,pa=some ⟨b,off,none⟩∧b < w.heap.size∧RRow w b off rs):=ha
 have HB:Hid (rs=[]∨∃ b off,pv=some ⟨b,off,none⟩∧b < w.heap.size∧RRow w b off rs):=hb
 clear ha hb
 generalize hna:rs.length=n at *
 have HN:Hid (rs.length=n):=hna
 clear hna
 have hgR:Tryz.prog.eqGuardType Tryz.prog.depth 98=false:=by kernel_rfl
 go_enter Tryz.func77,Tryz.ntmps77
 go_wp2_with fail
 go_loopw [5] (fun i w'=>∃ k:Nat,k≤n∧i=.int .i64 k∧Hid (Below w.heap.size w w')) (fun i _=>n - (intOf i).toNat)
 case atStart=>exact ⟨0,Nat.zero_le _,rfl,Below.refl _ _⟩
 case round=>
  obtain ⟨k,hk,rfl,HBL⟩:=hrel
  by_cases hlt:k < n
  ·obtain ⟨b1,o1,hp1,hl1,hr1⟩:∃ b off,pa=some ⟨b,off,none⟩∧b < w.heap.size∧RRow w b off rs:=by
    rcases HA.out with h | h
    ·have:=HN.out;rw [h] at this;simp at this;omega
    ·exact h
   obtain ⟨b2,o2,hp2,hl2,hr2⟩:∃ b off,pv=some ⟨b,off,none⟩∧b < w.heap.size∧RRow w b off rs:=by
    rcases HB.out with h | h
    ·have:=HN.out;rw [h] at this;simp at this;omega
    ·exact h
   subst hp1
   subst hp2
   obtain ⟨c0,c1,c2,c3,c4,c5⟩:=hr1.below HBL.out hl1 k (by rw [HN.out];exact hlt)
   obtain ⟨d0,d1,d2,d3,d4,d5⟩:=hr2.below HBL.out hl2 k (by rw [HN.out];exact hlt)
   clear hr1 hr2
   have hneq:=neqR (rs.getD k dr)
   generalize rs.getD k dr=rk at *
   obtain ⟨⟨n1,s1,l1,a1,v1⟩,t1⟩:=rk
   simp only at c0 c1 c2 c3 c4 c5 d0 d1 d2 d3 d4 d5 hneq
   go_wp2_with fail
   go_quiet (fail)
   go_wp2_with fail
   go_roundw
   case rel=>exact ⟨k+1,by omega,by go_num,below_drewN HBL.out _⟩
   case measure=>simp [intOf];omega
  ·go_wp2_with fail
   go_ret
   exact ⟨rfl,HBL.out⟩
theorem beq_names (a b:ByteArray):(a.toList == b.toList)=decide (a=b):=by
 by_cases h:a=b
 ·subst h;simp
 ·have h2:¬ a.toList=b.toList:=fun e=>h (ba_ext (by rw [Lib.toList_data,Lib.toList_data] at e;exact e))
  simp [h,h2]
set_option maxHeartbeats 6400000 in
set_option maxRecDepth 100000 in
theorem checkRumors_any (rs:List Rum) (v:Value) (w:World) (hv:RSl w v rs) :
 Calls Tryz.prog 43 #[v] w fun e w'=>e=.returned (.int .i64 (chkR rs))∧Below w.heap.size w w':=by
 obtain ⟨pa,ca,rfl,hsz,ha⟩:=hv
 by_cases hmany:20 < rs.length
 ·have HE:Hid (chkR rs=2):=chkR_many hmany
  go_enter Tryz.func43,Tryz.ntmps43
  go_wp2_with fail
  go_ret
  exact ⟨ret_int HE.out.symm,Below.refl _ _⟩
 have HA:Hid (rs=[]∨∃ b off,pa=some ⟨b,off,none⟩∧b < w.heap.size∧RRow w b off rs):=ha
 have HS:Hid (∀ j,(rs.getD j dr).m.name.size≤maxLen):=hsz
 clear ha hsz
 generalize hN:rs.length=n at *
 have HN:Hid (rs.length=n):=hN
 clear hN
 have hn20:n≤20:=by omega
 go_enter Tryz.func43,Tryz.ntmps43
 go_wp2
 go_loopw [3] (fun i wr=>∃ k:Nat,k≤n∧i=.int .i64 k∧Hid (∀ j,j < k→(rs.getD j dr).m.e=0)∧Hid (Below w.heap.size w wr))
  (fun i _=>n - (intOf i).toNat)
 case atStart=>exact ⟨0,Nat.zero_le _,rfl,fun j hj=>by omega,Below.refl _ _⟩
 case round=>
  obtain ⟨k,hk,rfl,HZ,HB⟩:=hrel
  by_cases hlt:k < n
  ·obtain ⟨b,off,hp,hl,hr⟩:∃ b off,pa=some ⟨b,off,none⟩∧b < w.heap.size∧RRow w b off rs:=by
    rcases HA.out with h | h
    ·have:=HN.out;rw [h] at this;simp at this;omega
    ·exact h
   subst hp
   obtain ⟨c0,c1,c2,c3,c4,c5⟩:=hr.below HB.out hl k (by rw [HN.out];exact hlt)
   have hnm:=HS.out k
   have HX:Hid ((rs.getD k dr).m.e≠0→chkR rs=(rs.getD k dr).m.e):=fun h=>chkR_mem (by rw [HN.out];exact hn20) (by rw [HN.out];exact hlt) HZ.out h
   have HZ2:Hid ((rs.getD k dr).m.e=0→∀ j,j < k+1→(rs.getD j dr).m.e=0):=fun h j hj=>by
    by_cases e:j=k
    ·subst e;exact h
    ·exact HZ.out j (by omega)
   generalize (rs.getD k dr)=rk at *
   obtain ⟨⟨nm,st,lf,ad,sv⟩,td⟩:=rk
   simp only at c0 c1 c2 c3 c4 c5 hnm HX HZ2
   simp only [Mem.e] at HX HZ2
   clear hr HZ
   go_wp2_with fail
   refine (oneMember_any nm st lf ad sv _ hnm).mono ?_
   rintro e w1 ⟨rfl,rfl⟩
   have HB1:Hid (Below w.heap.size w (wr.alloc (.cells #[.string nm,.int .i64 st,.int .i64 lf,.int .i64 ad,.bool sv] 56))):=HB.out.alloc HB.out.size _
   clear c0 c1 c2 c3 c4 c5 HB
   by_cases he:oneE nm st lf ad=0
   ·have he':(oneE nm st lf ad != 0)=false:=by simpa using he
    have HZ3:Hid (∀ j,j < k+1→(rs.getD j dr).m.e=0):=HZ2.out he
    clear HX HZ2 he
    go_wp2_with fail
    go_roundw
    case rel=>exact ⟨k+1,by omega,by go_num,HZ3,HB1⟩
    case measure=>simp [intOf];omega
   ·have he':(oneE nm st lf ad != 0)=true:=by simpa using he
    have HE:Hid (chkR rs=oneE nm st lf ad):=HX.out he
    clear HX HZ2 he
    go_wp2_with fail
    go_ret
    exact ⟨ret_int HE.out.symm,HB1.out⟩
  ·have HZA:Hid (∀ j,j < rs.length→(rs.getD j dr).m.e=0):=fun j hj=>HZ.out j (by rw [HN.out] at hj;omega)
   clear HZ
   go_wp2_with fail
   go_loopw [5] (fun i wr=>∃ k:Nat,k≤n∧i=.int .i64 k∧Hid (∀ j,j < k→within (rs.getD j dr).told 0 100=true)∧Hid (Below w.heap.size w wr))
    (fun i _=>n - (intOf i).toNat)
   case atStart=>exact ⟨0,Nat.zero_le _,rfl,fun j hj=>by omega,HB⟩
   case round=>
    clear HB hlt hk
    obtain ⟨k2,hk,rfl,HZ,HB⟩:=hrel
    by_cases hlt:k2 < n
    ·obtain ⟨b,off,hp,hl,hr⟩:∃ b off,pa=some ⟨b,off,none⟩∧b < w.heap.size∧RRow w b off rs:=by
      rcases HA.out with h | h
      ·have:=HN.out;rw [h] at this;simp at this;omega
      ·exact h
     subst hp
     obtain ⟨c0,c1,c2,c3,c4,c5⟩:=hr.below HB.out hl k2 (by rw [HN.out];exact hlt)
     have HX:Hid (within (rs.getD k2 dr).told 0 100=false→chkR rs=3):=fun h=>chkR_told (by rw [HN.out];exact hn20) HZA.out (by rw [HN.out];exact hlt) h
     have HZ2:Hid (within (rs.getD k2 dr).told 0 100=true→∀ j,j < k2+1→within (rs.getD j dr).told 0 100=true):=fun h j hj=>by
      by_cases e:j=k2
      ·subst e;exact h
      ·exact HZ.out j (by omega)
     generalize (rs.getD k2 dr)=rk at *
     obtain ⟨⟨nm,st,lf,ad,sv⟩,td⟩:=rk
     simp only at c0 c1 c2 c3 c4 c5 HX HZ2
     clear hr HZ
     rcases ht:within td 0 100 with _ | _
     ·have HE:Hid (chkR rs=3):=HX.out ht
      clear HX HZ2
      go_wp2_with (go_at_call 22;refine (between_any _ _ _ _).mono ?_;rintro e w' ⟨rfl,rfl⟩;rw [ht])
      go_ret
      exact ⟨ret_int HE.out.symm,HB.out⟩
     ·have HZ3:Hid (∀ j,j < k2+1→within (rs.getD j dr).told 0 100=true):=HZ2.out ht
      clear HX HZ2
      go_wp2_with (go_at_call 22;refine (between_any _ _ _ _).mono ?_;rintro e w' ⟨rfl,rfl⟩;rw [ht])
      go_roundw
      case rel=>exact ⟨k2+1,by omega,by go_num,HZ3,HB⟩
      case measure=>simp [intOf];omega
    ·have HTA:Hid (AllTold rs):=fun j hj=>HZ.out j (by rw [HN.out] at hj;omega)
     clear HZ
     go_wp2_with fail
     go_loopw [6] (fun i wr=>∃ k:Nat,k≤n∧i=.int .i64 k∧Hid (∀ a b,a < b→b < k→(rs.getD a dr).m.name≠(rs.getD b dr).m.name)∧Hid (Below w.heap.size w wr))
      (fun i _=>n - (intOf i).toNat)
     case atStart=>exact ⟨0,Nat.zero_le _,rfl,fun a b _ hb=>by omega,HB⟩
     case round=>
      clear HB hlt hk
      obtain ⟨k3,hk,rfl,HZ,HB⟩:=hrel
      by_cases hlt:k3 < n
      ·obtain ⟨b,off,hp,hl,hr⟩:∃ b off,pa=some ⟨b,off,none⟩∧b < w.heap.size∧RRow w b off rs:=by
        rcases HA.out with h | h
        ·have:=HN.out;rw [h] at this;simp at this;omega
        ·exact h
       subst hp
       have HR:Hid (RRow w b off rs):=hr
       clear hr
       go_wp2_with fail
       go_loopw [7] (fun i wr=>∃ k:Nat,k≤k3∧i=.int .i64 k∧Hid (∀ a,a < k→(rs.getD a dr).m.name≠(rs.getD k3 dr).m.name)∧Hid (Below w.heap.size w wr))
        (fun i _=>k3 - (intOf i).toNat)
       case atStart=>exact ⟨0,Nat.zero_le _,rfl,fun a ha=>by omega,HB⟩
       case round=>
        clear HB hk
        obtain ⟨k4,hk4,rfl,HY,HB⟩:=hrel
        by_cases hlt4:k4 < k3
        ·obtain ⟨c0,_,_,_,_,_⟩:=HR.out.below HB.out hl k4 (by rw [HN.out];omega)
         obtain ⟨d0,_,_,_,_,_⟩:=HR.out.below HB.out hl k3 (by rw [HN.out];exact hlt)
         have HX:Hid ((rs.getD k4 dr).m.name=(rs.getD k3 dr).m.name→chkR rs=6):=fun h=>chkR_twice (by rw [HN.out];exact hn20) HZA.out HTA.out (fun hd=>hd k4 k3 hlt4 (by rw [HN.out];exact hlt) h)
         have HY2:Hid ((rs.getD k4 dr).m.name≠(rs.getD k3 dr).m.name→∀ a,a < k4+1→(rs.getD a dr).m.name≠(rs.getD k3 dr).m.name):=fun h a ha=>by
          by_cases e:a=k4
          ·subst e;exact h
          ·exact HY.out a (by omega)
         have hbq:=beq_names (rs.getD k4 dr).m.name (rs.getD k3 dr).m.name
         clear HY HZ
         generalize (rs.getD k4 dr).m.name=x4 at *
         generalize (rs.getD k3 dr).m.name=x3 at *
         by_cases hx:x4=x3
         ·have HE:Hid (chkR rs=6):=HX.out hx
          subst hx
          clear HX HY2 hbq
          go_wp2_with fail
          go_quiet (fail)
          go_wp2_with fail
          go_ret
          exact ⟨ret_int HE.out.symm,below_drewN HB.out _⟩
         ·have HY3:Hid (∀ a,a < k4+1→(rs.getD a dr).m.name≠x3):=HY2.out hx
          rw [decide_eq_false hx] at hbq
          clear HX HY2 hx
          go_wp2_with fail
          go_quiet (fail)
          go_wp2_with fail
          exact ⟨⟨k4+1,by omega,by go_num,HY3,below_drewN HB.out _⟩,by simp [intOf];omega⟩
        ·have HZ3:Hid (∀ a b,a < b→b < k3+1→(rs.getD a dr).m.name≠(rs.getD b dr).m.name):=fun a b hab hb=>by
          by_cases e:b=k3
          ·subst e;exact HY.out a (by omega)
          ·exact HZ.out a b hab (by omega)
         clear HZ HY
         go_wp2_with fail
         exact ⟨⟨k3+1,by omega,by go_num,HZ3,HB⟩,by simp [intOf];omega⟩
      ·have HE:Hid (chkR rs=0):=chkR_ok (by rw [HN.out];exact hn20) HZA.out HTA.out (fun a b hab hb=>HZ.out a b hab (by rw [HN.out] at hb;omega))
       clear HZ
       go_wp2_with fail
       go_ret
       exact ⟨ret_int HE.out.symm,HB.out⟩
end Go.Proofs.YtffdoiokmiklgaaGreatDoor
namespace Go.Proofs.YtffdoiokmiklgaaGreatDoor
open Go.RowKit
def setAll (b:Nat):List Value→Nat→World→World
 | [],_,w=>w
 | x :: r,j,w=>setAll b r (j+1) (w.setCell ⟨b,j,none⟩ x)
theorem setAll_below {B b:Nat} (hb:B≤b):∀ (L:List Value) (j:Nat) {a w:World},Below B a w→Below B a (setAll b L j w)
 | [],_,_,_,h=>h
 | _ :: r,j,_,_,h=>setAll_below hb r (j+1) (h.setCell (p:=⟨b,j,none⟩) hb _)
theorem setAll_other {b c:Nat} (hc:c≠b):∀ (L:List Value) (j:Nat) (w:World),(setAll b L j w).heap[c]?=w.heap[c]?
 | [],_,_=>rfl
 | _ :: r,j,_=>(setAll_other hc r (j+1) _).trans (Below.heap_setCell _ _ _ _ hc)
theorem setAll_size (b:Nat):∀ (L:List Value) (j:Nat) (w:World),(setAll b L j w).heap.size=w.heap.size
 | [],_,_=>rfl
 | _ :: r,j,_=>(setAll_size b r (j+1) _).trans (by simp [World.setCell])
theorem drew_heap (w:World):w.drew.heap=w.heap:=rfl
theorem drew_below {B:Nat} {a w:World} (h:Below B a w):Below B a w.drew:=⟨h.os,h.tape,h.output,h.size,h.block⟩
theorem setAll_block {b:Nat} {T:TypeId} {f:Nat × Nat}:∀ (L pre suf:List Value) {w:World},w.heap[b]?=some (.cells (pre++suf).toArray T f)→suf.length=L.length→(setAll b L pre.length w).heap[b]?=some (.cells (pre++L).toArray T f)
 | [],pre,suf,w,h,hl=>by
   have:suf=[]:=List.eq_nil_of_length_eq_zero (by simpa using hl)
   subst this;exact h
 | x :: r,pre,[],w,h,hl=>absurd hl (by simp)
 | x :: r,pre,y :: s,w,h,hl=>by
   have h1:=Joins.block_setCell (i:=pre.length) h x
   rw [List.setIfInBounds_toArray,show (pre++y :: s).set pre.length x=(pre++[x])++s by simp] at h1
   have h2:=setAll_block r (pre++[x]) s h1 (by simpa using hl)
   rw [show (pre++[x]).length=pre.length+1 by simp,show (pre++[x])++r=pre++x :: r by simp] at h2
   exact h2
theorem setAll12 {b:Nat} {w:World} {T:TypeId} {f:Nat × Nat} {c0 c1 c2 c3 c4 c5 c6 c7 c8 c9 c10 c11:Value} (h:w.heap[b]?=some (.cells #[c0,c1,c2,c3,c4,c5,c6,c7,c8,c9,c10,c11] T f)) (x0 x1 x2 x3 x4 x5 x6 x7 x8 x9 x10 x11:Value):(setAll b [x0,x1,x2,x3,x4,x5,x6,x7,x8,x9,x10,x11] 0 w).heap[b]?=some (.cells #[x0,x1,x2,x3,x4,x5,x6,x7,x8,x9,x10,x11] T f):=setAll_block [x0,x1,x2,x3,x4,x5,x6,x7,x8,x9,x10,x11] [] [c0,c1,c2,c3,c4,c5,c6,c7,c8,c9,c10,c11] h rfl
theorem setAll6 {b:Nat} {w:World} {T:TypeId} {f:Nat × Nat} {c0 c1 c2 c3 c4 c5:Value} (h:w.heap[b]?=some (.cells #[c0,c1,c2,c3,c4,c5] T f)) (x0 x1 x2 x3 x4 x5:Value):(setAll b [x0,x1,x2,x3,x4,x5] 0 w).heap[b]?=some (.cells #[x0,x1,x2,x3,x4,x5] T f):=setAll_block [x0,x1,x2,x3,x4,x5] [] [c0,c1,c2,c3,c4,c5] h rfl
end Go.Proofs.YtffdoiokmiklgaaGreatDoor
namespace Go.Proofs.YtffdoiokmiklgaaGreatDoor
namespace Lt
open Go.RowKit
theorem Tryz.info65:(Tryz.prog.info? 65).map (fun i=>(i.zero,i.size,i.bytes))=some (some (.agg #[.int .i64 0,.string ⟨#[]⟩]),2,24):=by kernel_rfl
end Lt
namespace Lt
open Go.RowKit
set_option maxHeartbeats 800000 in
theorem clone_any (ms:List Ltr) (v:Value) (w:World) (h:Sl w v ms) (hn:ms.length≤1000) :
 Calls Tryz.prog 37 #[v] w fun e w'=>∃ v',e=.returned v'∧Own w.heap.size w' v' ms∧Below w.heap.size w w':=by
 obtain ⟨a,cap,rfl,hs,h⟩:=h
 obtain ⟨i0,hi0,hz0,hzs,hzb⟩:=info_parts Tryz.info65
 cases a with
 | none=>
   have he:ms=[]:=by
    rcases h with h | ⟨b,off,h,_⟩
    ·exact h
    ·cases h
   subst he
   clear h hs
   have hnil:=fun (w:World)=>Lib.run_eql_slice_nil (P:=Tryz.prog) w 23 65 none 0 cap 0 0 Tryz.underlying23
   simp only [List.length_nil,Option.isNone_none] at hnil ⊢
   go_enter Tryz.func37,Tryz.ntmps37
   go_wp2_with fail
   go_ret
   exact ⟨_,rfl,own_nil _ _,Below.refl _ _⟩
 | some a=>
   have hnil:=fun (w:World)=>Lib.run_eql_slice_nil (P:=Tryz.prog) w 23 65 (some a) ms.length cap 0 0 Tryz.underlying23
   simp only [Option.isNone_some] at hnil
   have hnews:Hid (∀ j u,(fl ms)[j]?=some u→(w.alloc (.cells #[] 65)).cell? (a.add j)=some u):=by
    intro j u hj
    rcases h with h | ⟨b,off,h,hb,hr⟩
    ·subst h;simp [fl] at hj
    ·cases h
     have hjl:j < ms.length * 2:=by rw [← fl_len];exact (List.getElem?_eq_some_iff.1 hj).1
     have h1:=fl_get ms (j / 2) (by omega) (j%2) (by omega)
     rw [show j / 2 * 2+j%2=j by omega,hj] at h1
     rw [Addr.add_lit,World.cell?_alloc_past (w:=w) _ b _ hb]
     obtain ⟨c0,c1⟩:=hr (j / 2) (by omega)
     have hcs:j%2=0∨j%2=1:=by omega
     rcases hcs with e | e
     ·rw [show off+j=off+j / 2 * 2 by omega,c0];rw [e] at h1;simpa [Ltr.cs] using h1.symm
     ·rw [show off+j=off+j / 2 * 2+1 by omega,c1];rw [e] at h1;simpa [Ltr.cs] using h1.symm
   have HO:Hid ((w.alloc (.cells #[] 65)).ownsRow w.heap.size 65 2 (.slice (some ⟨w.heap.size,0,none⟩) 0 0) 0 []):=World.ownsRow_made w #[] 0 (Nat.le_refl _) (by unfold maxLen;omega) rfl
   clear h hs
   go_enter Tryz.func37,Tryz.ntmps37
   go_wp2_with (at_builtin;refine wpList_append_own _ rfl _ _ 23 rfl w.heap.size 65 i0 _ 2 24 Tryz.underlying23 hi0 hz0 hzs hzb rfl (by omega) _ 0 [] rfl HO.out a ms.length cap (fl ms) rfl (fl_len ms) hnews.out (fl_one ms) (by unfold maxLen;omega) (by omega) (by simp) ?_)
   intro v' w' r1 r2 r3
   go_wp2_with fail
   go_ret
   refine ⟨v',rfl,?_,?_⟩
   ·simpa using r1
   ·exact ((Below.refl _ _).alloc (Nat.le_refl _) _).grown r2 (by simp) (fun k hk=>by simp [Value.ownBlock] at hk;omega)
end Lt
end Go.Proofs.YtffdoiokmiklgaaGreatDoor
namespace Go.Proofs.YtffdoiokmiklgaaGreatDoor
open Go.RowKit
theorem Tryz.infoLq:(Tryz.prog.info? 65).map (fun i=>(i.zero,i.size,i.bytes))=some (some (.agg #[.int .i64 0,.string ⟨#[]⟩]),2,24):=by kernel_rfl
structure Ev where
 kind:Int
 which:Int
 other:Int
 n:Int
 name:ByteArray
 p:Pl
 s:Sv.Svc
def plA (un ul:Value) (v:Ev):Array Value:=#[un,ul,.int .i64 v.kind,.int .i64 v.which,.int .i64 v.other,.int .i64 v.n,.string v.name,.int .i64 v.p.x,.int .i64 v.p.y,.int .i64 v.p.z,.int .i64 v.p.h,.int .i64 v.p.s,.string v.s.node,.string v.s.idn,.string v.s.name,.string v.s.tag,.int .i64 v.s.addr,.int .i64 v.s.port,.bool v.s.passing,.int .i64 v.s.version,.bool v.s.gone]
structure Mv (C:Nat) (w w':World):Prop where
 below:Below C w w'
 keep:∀ (b:Nat) (cs:Array Value) (T:TypeId) (f:Nat × Nat),w.heap[b]?=some (.cells cs T f)→T≠65→T≠75→w'.heap[b]?=some (.cells cs T f)
theorem Mv.of {C:Nat} {w w':World} (h:Below w.heap.size w w') (hC:C≤w.heap.size):Mv C w w':=⟨h.mono hC,fun b _ _ _ hb _ _=>(h.block b (Array.getElem?_eq_some_iff.1 hb).1).trans hb⟩
theorem Mv.trans {C:Nat} {w w' w'':World} (h:Mv C w w') (h':Mv C w' w''):Mv C w w'':=⟨h.below.trans h'.below,fun b cs T f hb h1 h2=>h'.keep b cs T f (h.keep b cs T f hb h1 h2) h1 h2⟩
theorem row_ty {C:Nat} {T:TypeId} {k n:Nat} {v:Value} {xs:List Value} {w w':World} (ho:w.ownsRow C T k v n xs) (hk:∀ (b:Nat) (cs:Array Value) (f:Nat × Nat),w.heap[b]?=some (.cells cs T f)→w'.heap[b]?=some (.cells cs T f)):w'.ownsRow C T k v n xs:=by
 rcases ho.2 with ⟨rfl,h0⟩ | ⟨b,c,cur,rfl,hbg,hb,hr⟩
 ·exact ⟨ho.1,.inl ⟨rfl,h0⟩⟩
 ·exact ⟨ho.1,.inr ⟨b,c,cur,rfl,hbg,hk _ _ _ hb,hr⟩⟩
theorem row_block {C:Nat} {T:TypeId} {k n:Nat} {v:Value} {xs:List Value} {w:World} (ho:w.ownsRow C T k v n xs) {b:Nat} (e:v.ownBlock=some b):C≤b∧∃ cs,w.heap[b]?=some (.cells cs T (0,0)):=by
 rcases ho.2 with ⟨rfl,h0⟩ | ⟨b',c,cur,rfl,hbg,hb,hr⟩
 ·cases e
 ·have:b'=b:=by simpa [Value.ownBlock] using e
  subst this
  exact ⟨hbg,_,hb⟩
theorem row_form {C:Nat} {T:TypeId} {k n:Nat} {v:Value} {xs:List Value} {w:World} (ho:w.ownsRow C T k v n xs):∃ a c,v=.slice a n c:=by
 rcases ho.2 with ⟨rfl,rfl⟩ | ⟨b',c,cur,rfl,_⟩
 ·exact ⟨none,0,rfl⟩
 ·exact ⟨_,c,rfl⟩
structure Plr (C:Nat) (w:World) (g:Nat) (un ul:Value) (ls:List Lt.Ltr) (v:Ev):Prop where
 hg:w.heap[g]?=some (.cells (plA un ul v) 75 (0,0))
 le:C≤g
 ls:Lt.Own C w ul ls
theorem Plr.below {C:Nat} {w w':World} {g:Nat} {un ul:Value} {ls:List Lt.Ltr} {v:Ev} (h:Plr C w g un ul ls v) (hb:Below w.heap.size w w'):Plr C w' g un ul ls v:=
 ⟨(hb.block g (Array.getElem?_eq_some_iff.1 h.hg).1).trans h.hg,h.le,row_ty h.ls (fun b _ _ e=>(hb.block b (Array.getElem?_eq_some_iff.1 e).1).trans e)⟩
theorem set_pl {w:World} {g:Nat} {un ul x:Value} {v:Ev} (h:w.heap[g]?=some (.cells (plA un ul v) 75 (0,0))):(w.setCell ⟨g,1,none⟩ x).heap[g]?=some (.cells (plA un x v) 75 (0,0)):=Joins.block_setCell h x
theorem Plr.turn {C g:Nat} {un ul x:Value} {ls ls':List Lt.Ltr} {v:Ev} {w w5:World} (h:Plr C w g un ul ls v) (hb:Below C w w5) (hk:∀ b,b < w.heap.size→ul.ownBlock≠some b→w5.heap[b]?=w.heap[b]?) (hown:Lt.Own C w5 x ls'):Mv C w (w5.setCell ⟨g,1,none⟩ x)∧Plr C (w5.setCell ⟨g,1,none⟩ x) g un x ls' v:=by
 have hgl:g < w.heap.size:=(Array.getElem?_eq_some_iff.1 h.hg).1
 have hne:ul.ownBlock≠some g:=fun e=>by
  obtain ⟨_,cs,h2⟩:=row_block h.ls e
  rw [h.hg] at h2
  simp at h2
 have h5:w5.heap[g]?=some (.cells (plA un ul v) 75 (0,0)):=(hk g hgl hne).trans h.hg
 refine ⟨⟨hb.setCell (p:=⟨g,1,none⟩) h.le _,fun b cs T f e h1 h2=>?_⟩,⟨set_pl h5,h.le,row_ty hown (fun b cs f e=>?_)⟩⟩
 ·have hbg:b≠g:=fun e2=>by
   subst e2;rw [h.hg] at e;simp at e;exact h2 e.2.1.symm
  have hbl:ul.ownBlock≠some b:=fun e2=>by
   obtain ⟨_,cs2,h3⟩:=row_block h.ls e2
   rw [e] at h3;simp at h3;exact h1 h3.2.1
  rw [Below.heap_setCell _ _ _ _ hbg]
  exact (hk b (Array.getElem?_eq_some_iff.1 e).1 hbl).trans e
 ·have hbg:b≠g:=fun e2=>by
   subst e2;rw [h5] at e;simp at e
  rw [Below.heap_setCell _ _ _ _ hbg]
  exact e
set_option maxHeartbeats 6400000 in
set_option maxRecDepth 100000 in
theorem send_any (C g:Nat) (un ul:Value) (ls:List Lt.Ltr) (v:Ev) (to:Int) (tx:ByteArray) (w:World) (h:Plr C w g un ul ls v) (hC:C≤w.heap.size) (h20:ls.length < 20) :
 Calls Tryz.prog 152 #[.pointer (some ⟨g,0,none⟩),.agg #[.int .i64 to,.string tx]] w fun e w'=>e=.returned (.int .i64 0)∧Mv C w w'∧∃ a k c,Plr C w' g un (.slice a k c) (ls++[⟨to,tx⟩]) v:=by
 obtain ⟨i0,hi0,hz0,hzs,hzb⟩:=info_parts (Tryz.infoLq)
 obtain ⟨au,cu,hul⟩:=row_form h.ls
 subst hul
 have hgl:g < w.heap.size:=(Array.getElem?_eq_some_iff.1 h.hg).1
 obtain ⟨X,hX⟩:∃ X,X=w.alloc (.cells #[.int .i64 to,.string tx] 65):=⟨_,rfl⟩
 have hbX:Below w.heap.size w X:=by rw [hX];exact (Below.refl _ _).alloc (Nat.le_refl _) _
 have HSX:Hid (X.heap.size=w.heap.size+1):=by show _=_;rw [hX];simp
 have hx:X.heap[w.heap.size]?=some (.cells #[.int .i64 to,.string tx] 65 (0,0)):=by rw [hX];exact heap_alloc_new w _
 have x0:X.cell? ⟨w.heap.size,0,none⟩=some (.int .i64 to):=cellsAt hx 0
 have x1:X.cell? ⟨w.heap.size,1,none⟩=some (.string tx):=cellsAt hx 1
 have hgX:X.heap[g]?=some (.cells (plA un (.slice au ls.length cu) v) 75 (0,0)):=(hbX.block g hgl).trans h.hg
 have y1:X.cell? ⟨g,1,none⟩=some (.slice au ls.length cu):=cellsAt hgX 1
 have HP:Hid (Plr C w g un (.slice au ls.length cu) ls v):=h
 have y1a:∀ o,(X.alloc o).cell? ⟨g,1,none⟩=some (.slice au ls.length cu):=fun o=>(((Below.refl X.heap.size X).alloc (Nat.le_refl _) o).cell (p:=⟨g,1,none⟩) (Nat.lt_of_lt_of_le hgl hbX.size)).trans y1
 have HBX:Hid (Below w.heap.size w X):=hbX
 have hrow:X.ownsRow C 65 2 (.slice au ls.length cu) ls.length (Lt.fl ls):=row_ty h.ls (fun b _ _ e=>(hbX.block b (Array.getElem?_eq_some_iff.1 e).1).trans e)
 have HNB:Hid ((Value.slice au ls.length cu).ownBlock≠some g):=fun e=>by
  obtain ⟨_,cs,h2⟩:=row_block h.ls e
  rw [h.hg] at h2
  simp at h2
 have HFL:Hid (Lt.fl (ls++[⟨to,tx⟩])=Lt.fl ls++[.int .i64 to,.string tx]):=by show _=_;rw [Lt.fl_append];rfl
 have hd:((ls.length:Int) == 20)=false:=by simp;omega
 have HLN:Hid (ls.length+1=(ls++[(⟨to,tx⟩:Lt.Ltr)]).length):=by show _=_;simp
 have h63:ls.length+1≤maxLen:=by unfold maxLen;omega
 have hbt:(ls.length+1) * 24≤140737488355328:=by omega
 have HGX:Hid (X.heap[g]?=some (.cells (plA un (.slice au ls.length cu) v) 75 (0,0))):=hgX
 clear h hbX hx hgX h20
 generalize ls.length=m at *
 go_enter Tryz.func152,Tryz.ntmps152
 go_upto_region 1 with fail
 rw [← hX]
 clear hX
 go_wp2_with fail
 go_region_law (refine step_append_lies _ (by rfl) _ _ _ (by rfl) C 65 i0 _ 2 24 Tryz.underlying23 hi0 hz0 hzs hzb rfl (by omega) (.slice au m cu) m (Lt.fl ls) (by rfl) ((World.ownsRow.alloc hrow _).drew) ⟨X.heap.size,0,none⟩ 1 1 [.int .i64 to,.string tx] (by rfl) (by rfl) (World.news_of_block (cs:=#[.int .i64 to,.string tx]) (t:=65) (fr:=(0,0)) (heap_alloc_new X _)) (by simp [Value.oneCell']) (by omega) h63 hbt (by have:=HSX.out;simp<;>omega) (X.heap.size+1) (by simp) ?_;intro gg cap w5 hown1 hgrow hat hlt;have hgb:w5.heap[g]?=some (.cells (plA un (.slice au m cu) v) 75 (0,0)):=((hgrow.block g (by have:=HSX.out;simp<;>omega) (Ne.symm HNB.out)).trans (Below.heap_alloc X _ _ (by have:=HSX.out;omega))).trans HGX.out;have z1:w5.cell? ⟨g,1,none⟩=some (.slice au m cu):=cellsAt hgb 1;have zf:w5.frozen? ⟨g,1,none⟩=false:=(by simp [World.frozen?,hgb]);have HR:Hid (Mv C w (w5.setCell ⟨g,1,none⟩ (.slice (some ⟨gg,0,none⟩) (m+1) cap))∧Plr C (w5.setCell ⟨g,1,none⟩ (.slice (some ⟨gg,0,none⟩) (m+1) cap)) g un (.slice (some ⟨gg,0,none⟩) (m+1) cap) (ls++[⟨to,tx⟩]) v):=Plr.turn HP.out (((HBX.out.alloc HBX.out.size _).drew.mono hC).grown hgrow (by have:=HSX.out;simp<;>omega) (fun k hk=>(row_block HP.out.ls hk).1)) (fun b hlt hne=>(hgrow.block b (by have:=HSX.out;simp<;>omega) (Ne.symm hne)).trans ((Below.heap_alloc X _ _ (by have:=HSX.out;omega)).trans (HBX.out.block b hlt))) (by show World.ownsRow _ _ _ _ _ _ _;rw [← HLN.out,HFL.out];exact hown1);clear hgb hown1 hgrow hat hlt)
 all_goals
  go_wp2_with fail
  go_ret
  exact ⟨rfl,HR.out.1,_,_,_,HR.out.2⟩
theorem Tryz.infoLt:(Tryz.prog.info? 65).map (fun i=>(i.zero,i.size,i.bytes))=some (some (.agg #[.int .i64 0,.string ⟨#[]⟩]),2,24):=by kernel_rfl
def zLt:List Value:=[.int .i64 0,.string ⟨#[]⟩]
theorem setCells_other {g k:Nat} (hk:k≠g):∀ (vs:List Value) (o:Nat) (w:World),(w.setCells g o vs).heap[k]?=w.heap[k]?
 | [],_,_=>rfl
 | v :: r,o,w=>(setCells_other hk r (o+1) _).trans (Below.heap_setCell w ⟨g,o,none⟩ v k hk)
theorem eraseL_cells {rs:List Lt.Ltr} {p n:Nat} (hn:rs.length=n) (hp:p < n):(wrs (wrs (Lt.fl rs) (p * 2) (Lt.fl (rs.drop (p+1)))) ((n - 1) * 2) zLt).take ((n - 1) * 2)=Lt.fl (rs.eraseIdx p):=by
 have hl:(Lt.fl rs).length=n * 2:=by rw [Lt.fl_len,hn]
 have hd:(Lt.fl (rs.drop (p+1))).length=(n - (p+1)) * 2:=by rw [Lt.fl_len,List.length_drop,hn]
 refine take_eq_of (by rw [wrs_len,wrs_len,hl];omega) (by rw [Lt.fl_len,List.length_eraseIdx,if_pos (by omega),hn]) (fun j hj=>?_)
 rw [wrs_out _ _ _ _ (by omega),List.eraseIdx_eq_take_drop_succ,Lt.fl_append]
 have ht:(Lt.fl (rs.take p)).length=p * 2:=by rw [Lt.fl_len,List.length_take,hn];omega
 by_cases hjp:j < p * 2
 ·rw [wrs_out _ _ _ _ (by omega),List.getElem?_append_left (by omega),← Lt.fl_take,List.getElem?_take_of_lt hjp]
 ·rw [List.getElem?_append_right (by omega),ht]
  have:=wrs_in (Lt.fl (rs.drop (p+1))) (Lt.fl rs) (p * 2) (j - p * 2) (by rw [hd];omega) (by rw [hd,hl];omega)
  rw [show p * 2+(j - p * 2)=j by omega] at this
  exact this
theorem run_clearL (w:World) (ty:TypeId) (b o c:Nat) (hc:∀ j,j < 2→(w.cell? ⟨b,o+j,none⟩).isSome=true) (hf:∀ j,j < 2→w.frozen? ⟨b,o+j,none⟩=false) :
 (Builtin.clear_ #[23] ty #[.slice (some ⟨b,o,none⟩) 1 c]).run Tryz.prog w=.ok (.tuple #[]) (w.setCells b o zLt):=by
 have hzc:(Builtin.zeroCells (Value.agg #[.int .i64 0,.string ⟨#[]⟩]).cells 1).toList=zLt:=by kernel_rfl
 have hst:=run_storeCells_cells (P:=Tryz.prog) b o zLt 0 w (fun j hj=>by simpa using hc j (by simpa [zLt] using hj)) (fun j hj=>by simpa using hf j (by simpa [zLt] using hj)) (by intro v hv;simp [zLt] at hv;rcases hv with rfl | rfl<;>rfl)
 simp only [Nat.add_zero] at hst
 simp [Builtin.clear_,run_underlying Tryz.underlying23,hzc,hst]
set_option maxHeartbeats 3200000 in
set_option maxRecDepth 1000000 in
theorem deleteL_any (rs:List Lt.Ltr) (n p g c base:Nat) (w:World) (hn:rs.length=n) (ho:Lt.Own base w (.slice (some ⟨g,0,none⟩) n c) rs) (hp:p < n) (hsm:n≤1000) :
 Calls Tryz.prog 151 #[.slice (some ⟨g,0,none⟩) n c,.int .i64 p,.int .i64 (p+1)] w fun e w'=>e=.returned (.slice (some ⟨g,0,none⟩) (n - 1) c)∧Lt.Own base w' (.slice (some ⟨g,0,none⟩) (n - 1) c) (rs.eraseIdx p)∧Below base w w'∧∀ k,k≠g→w'.heap[k]?=w.heap[k]?:=by
 obtain ⟨i0,hi0,hz0,hz1,hz2⟩:=info_parts Tryz.infoLt
 have HO:Hid (w.ownsRow base 65 2 (.slice (some ⟨g,0,none⟩) n c) n (Lt.fl rs)):=by rw [← hn];rw [← hn] at ho;exact ho
 obtain ⟨hgl,hnc,hcm⟩:base≤g∧n≤c∧c≤maxLen:=by
  rcases HO.out.2 with ⟨hv,_⟩ | ⟨g',c',cur,hv,hbg,hg,hnc,hcm,hcs,htake⟩
  ·cases hv
  ·simp only [Value.slice.injEq,Option.some.injEq,Addr.mk.injEq,and_true,true_and] at hv
   obtain ⟨rfl,rfl⟩:=hv
   exact ⟨hbg,hnc,hcm⟩
 unfold maxLen at hcm
 have hp0:(0:Int)≤(p:Int)+1:=by omega
 have hp1:(p:Int)+1≤(n:Int):=by omega
 have hp2:((p:Int)+1).toNat=p+1:=by omega
 have hic:p≤c:=by omega
 have hcell:∀ k,k < n * 2→w.cell? ⟨g,k,none⟩=(Lt.fl rs)[k]?:=fun k hk=>by
  rcases HO.out.2 with ⟨hv,_⟩ | ⟨g',c',cur,hv,hbg,hg,_,_,hcs,htake⟩
  ·cases hv
  ·simp only [Value.slice.injEq,Option.some.injEq,Addr.mk.injEq,and_true,true_and] at hv
   obtain ⟨rfl,rfl⟩:=hv
   rw [cellsAt hg,← htake,List.getElem?_take_of_lt hk,Array.getElem?_toList]
 have hfl:(Lt.fl rs).length=n * 2:=by rw [Lt.fl_len,hn]
 have S1:Hid ((Lt.fl (rs.drop (p+1))).length=(n - (p+1)) * 2):=(show (Lt.fl (rs.drop (p+1))).length=_ by rw [Lt.fl_len,List.length_drop,hn])
 obtain ⟨A,hA,hnews⟩:∃ A:Addr,(if c=p+1 then some (⟨g,0,none⟩:Addr) else some ⟨g,(p+1) * 2,none⟩)=some A∧Hid (∀ j u,(Lt.fl (rs.drop (p+1)))[j]?=some u→w.drew.cell? (A.add j)=some u):=by
  by_cases h:c=p+1
  ·refine ⟨_,if_pos h,fun j u hj=>?_⟩
   have:j < (Lt.fl (rs.drop (p+1))).length:=(List.getElem?_eq_some_iff.1 hj).1
   rw [S1.out] at this
   omega
  ·refine ⟨_,if_neg h,fun j u hj=>?_⟩
   have hj1:j < (Lt.fl (rs.drop (p+1))).length:=(List.getElem?_eq_some_iff.1 hj).1
   rw [S1.out] at hj1
   rw [Addr.add_lit]
   show w.cell? _=_
   rw [hcell _ (by omega),← hj,← Lt.fl_drop,List.getElem?_drop]
 have S2:Hid (∀ u∈Lt.fl (rs.drop (p+1)),u.oneCell'=true):=Lt.fl_one _
 have S3:Hid (∀ j,j < (Lt.fl (rs.drop (p+1))).length→(w.drew.cell? ⟨g,0+p * 2+j,none⟩).isSome=true∧w.drew.frozen? ⟨g,0+p * 2+j,none⟩=false):=fun j hj=>by
  rw [S1.out] at hj
  refine ⟨?_,World.ownsRow.frozenAt HO.out _⟩
  show (w.cell? _).isSome=true
  rw [hcell _ (by omega),List.getElem?_eq_getElem (by omega)]
  rfl
 have HD:Hid ((w.drew.setCells g (p * 2) (Lt.fl (rs.drop (p+1)))).ownsRow base 65 2 (.slice (some ⟨g,0,none⟩) n c) n (wrs (Lt.fl rs) (p * 2) (Lt.fl (rs.drop (p+1))))):=stored_all _ _ _ _ (show w.drew.ownsRow base 65 2 (.slice (some ⟨g,0,none⟩) n c) n (Lt.fl rs) from HO.out)
 have hclear:∀ ty,(Builtin.clear_ #[23] ty #[.slice (some ⟨g,(p+(n - (p+1))) * 2,none⟩) (n - (p+(n - (p+1)))) (c - (p+(n - (p+1))))]).run Tryz.prog (w.drew.setCells g (p * 2) (Lt.fl (rs.drop (p+1))))=.ok (.tuple #[]) ((w.drew.setCells g (p * 2) (Lt.fl (rs.drop (p+1)))).setCells g ((n - 1) * 2) zLt):=fun ty=>by
  rw [show p+(n - (p+1))=n - 1 by omega,show n - (n - 1)=1 by omega]
  exact run_clearL _ ty g _ _ (fun j hj=>by rw [World.ownsRow.cellAt HD.out _ (by omega),List.getElem?_eq_getElem (by rw [wrs_len,hfl];omega)];rfl) (fun j _=>World.ownsRow.frozenAt HD.out _)
 have HF:Hid (((w.drew.setCells g (p * 2) (Lt.fl (rs.drop (p+1)))).setCells g ((n - 1) * 2) zLt).ownsRow base 65 2 (.slice (some ⟨g,0,none⟩) (n - 1) c) (n - 1) (Lt.fl (rs.eraseIdx p))):=by
  have h:=owns_shrink (m:=n - 1) (stored_all zLt _ ((n - 1) * 2) _ HD.out) (by omega)
  rw [eraseL_cells hn hp] at h
  exact h
 have HL:Hid ((rs.eraseIdx p).length=n - 1):=(show (rs.eraseIdx p).length=n - 1 by rw [List.length_eraseIdx,if_pos (by omega),hn])
 have HBL:Hid (Below base w ((w.drew.setCells g (p * 2) (Lt.fl (rs.drop (p+1)))).setCells g ((n - 1) * 2) zLt)):=below_setCells hgl _ _ _ _ (below_setCells hgl _ _ _ _ (Below.refl _ _).drew)
 have HOT:Hid (∀ k,k≠g→((w.drew.setCells g (p * 2) (Lt.fl (rs.drop (p+1)))).setCells g ((n - 1) * 2) zLt).heap[k]?=w.heap[k]?):=fun k hk=>(setCells_other hk _ _ _).trans (setCells_other hk _ _ _)
 have HPN:Hid (p+(n - (p+1))=n - 1):=(show p+(n - (p+1))=n - 1 by omega)
 clear ho hcell
 go_enter Tryz.func151,Tryz.ntmps151
 go_wp2_with fail
 go_region_law (refine step_append_room rfl (.tmp 22) (.tmp 25) 23 rfl 65 i0 2 Tryz.underlying23 hi0 hz1 g 0 p c (by simp [Act.eval,Act.put]) A (n - (p+1)) (c - (p+1)) (Lt.fl (rs.drop (p+1))) (by simp [Act.eval,Act.put]) S1.out hnews.out S2.out (by omega) S3.out ?_)
 go_wp2_with fail
 go_ret
 refine ⟨?_,?_,HBL.out,HOT.out⟩
 ·have hpn:=HPN.out
  simp only [hpn]
  rfl
 ·show World.ownsRow _ _ _ _ _ (rs.eraseIdx p).length _
  rw [HL.out]
  exact HF.out
end Go.Proofs.YtffdoiokmiklgaaGreatDoor
namespace Go.Proofs.YtffdoiokmiklgaaGreatDoor
open Go.RowKit Go.WideMaps Go.Maps
def rawF (v:Value):Option (DataW Value × List MemPlace):=some (.held v,[])
def kI (k:Int):Lit:=.int .i64 k
theorem kI_key (k:Int):WideAt.IsKeyLit (kI k):=by simp [kI,WideAt.IsKeyLit]
theorem kI_ne {a b:Int} (h:a≠b):kI a≠kI b:=fun e=>h (by simpa [kI] using e)
def hOf:List (Int × Value)→Int→Option Value
 | [],_=>none
 | (a,v) :: r,k=>if k=a then some v else hOf r k
def HMap (w:World) (b n:Nat) (M:List (Int × Value)):Prop:=∃ D:DataW Value,w.ownsMap Tryz.prog 3 rawF b n D∧(∀ k,has D (kI k)=(hOf M k).isSome)∧∀ k,D.atKey (kI k) (.held .nilFunc)=.held ((hOf M k).getD .nilFunc)
theorem law3k:Keyed Tryz.prog 3:=int_keyed Tryz.underlying3
theorem zeroHF (w:World):(zeroValue 76).run Tryz.prog w=.ok .nilFunc w:=by kernel_rfl
theorem hmap_made (w:World):HMap (w.alloc (.map #[] 0)) w.heap.size 0 []:=⟨.map [],World.ownsMap_made w Tryz.prog 3 rawF,fun k=>by simp [has,hOf],fun k=>by simp [DataW.atKey,hOf]⟩
theorem HMap.look {w:World} {b n:Nat} {M:List (Int × Value)} (h:HMap w b n M) {k:Int} (hk:(Lit.int .i64 k).wf=true):(Instr.lookup 118 (.map (some b)) (.int .i64 k) true).run Tryz.prog w=.ok (.tuple #[(hOf M k).getD .nilFunc,.bool (hOf M k).isSome]) w:=by
 obtain ⟨D,h1,h2,h3⟩:=h
 obtain ⟨v,ps,hrun,hv⟩:=h1.look_ok law3k Tryz.underlying118 (zeroHF w) (show rawF .nilFunc=some (.held .nilFunc,[]) from rfl) (keyOf_int_mk Tryz.underlying3 hk)
 have e:v=(hOf M k).getD .nilFunc:=by
  have h4:(DataW.held v:DataW Value)=D.atKey (kI k) (.held .nilFunc):=by
   simp only [rawF,Option.some.injEq,Prod.mk.injEq] at hv
   exact hv.1
  rw [h3 k] at h4
  injection h4
 have e2:has D (.int .i64 k)=(hOf M k).isSome:=h2 k
 rw [hrun,e,e2]
theorem HMap.put {w:World} {b n:Nat} {M:List (Int × Value)} (h:HMap w b n M) (hn:n < maxLen) {k:Int} (hk:(Lit.int .i64 k).wf=true) (v:Value):∃ w',(Instr.mapUpdate 118 (.map (some b)) (.int .i64 k) v).run Tryz.prog w=.ok () w'∧HMap w' b (n+1) ((k,v) :: M)∧w.grownBy w' (some b):=by
 obtain ⟨D,h1,h2,h3⟩:=h
 obtain ⟨w',hrun,ho,hg⟩:=h1.update law3k Tryz.underlying118 hn (keyOf_int_mk Tryz.underlying3 hk) (show rawF v=some (.held v,[]) from rfl)
 refine ⟨w',hrun,⟨_,ho,fun x=>?_,fun x=>?_⟩,hg⟩
 ·by_cases e:x=k
  ·subst e
   rw [hOf,if_pos rfl]
   exact has_put_same h1.isMap (kI_key _) _
  ·rw [hOf,if_neg e,← h2 x]
   exact has_put_other (kI_ne e) _
 ·by_cases e:x=k
  ·subst e
   rw [hOf,if_pos rfl]
   exact atKey_put_same h1.isMap (kI_key _) _ _
  ·rw [hOf,if_neg e,← h3 x]
   exact atKey_put_other (kI_ne e) _ _
def hapL (g pb:Nat):List (Int × Value):=[(12,.func (.func 118) #[] #[.pointer (some ⟨pb,0,none⟩)]),(11,.func (.func 116) #[] #[.pointer (some ⟨pb,0,none⟩)]),(10,.func (.func 114) #[] #[.pointer (some ⟨pb,0,none⟩)]),(9,.func (.func 112) #[] #[.pointer (some ⟨pb,0,none⟩)]),(8,.func (.func 110) #[] #[.pointer (some ⟨pb,0,none⟩)]),(7,.func (.func 108) #[] #[.pointer (some ⟨pb,0,none⟩)]),(6,.func (.func 105) #[] #[.pointer (some ⟨pb,0,none⟩)]),(5,.func (.func 104) #[.pointer (some ⟨g,0,none⟩)] #[]),(4,.func (.func 103) #[.pointer (some ⟨g,0,none⟩)] #[]),(3,.func (.func 102) #[.pointer (some ⟨g,0,none⟩)] #[]),(2,.func (.func 101) #[.pointer (some ⟨g,0,none⟩)] #[]),(1,.func (.func 100) #[.pointer (some ⟨g,0,none⟩)] #[])]
set_option maxHeartbeats 6400000 in
set_option maxRecDepth 100000 in
theorem happenings_any (g:Nat) (w:World) :
 Calls Tryz.prog 68 #[.pointer (some ⟨g,0,none⟩)] w fun e w'=>e=.returned (.map (some (w.heap.size+1)))∧HMap w' (w.heap.size+1) 12 (hapL g w.heap.size)∧w'.heap[w.heap.size]?=some (.cells #[.pointer (some ⟨g,0,none⟩)] 73 (0,0))∧Below w.heap.size w w':=by
 obtain ⟨W0,hW0⟩:∃ W0,W0=(w.alloc (.cells #[.pointer (some ⟨g,0,none⟩)] 73)).alloc (.map #[] 0):=⟨_,rfl⟩
 have hb0:Below w.heap.size w W0:=by rw [hW0];exact ((Below.refl _ _).alloc (Nat.le_refl _) _).alloc (by simp) _
 have k0:W0.heap[w.heap.size]?=some (.cells #[.pointer (some ⟨g,0,none⟩)] 73 (0,0)):=by
  rw [hW0];exact (Lib.alloc_old _ _ _ (by simp)).trans (heap_alloc_new w _)
 have hs0:w.heap.size+2≤W0.heap.size:=by rw [hW0];simp
 have m0:HMap W0 (w.heap.size+1) 0 []:=by
  have:=hmap_made (w.alloc (.cells #[.pointer (some ⟨g,0,none⟩)] 73))
  rw [hW0];simpa using this
 obtain ⟨w1,r1,m1,g1⟩:=m0.put (by decide) (k:=1) (by decide) (.func (.func 100) #[.pointer (some ⟨g,0,none⟩)] #[])
 have hs1:w.heap.size+2≤w1.heap.size:=Nat.le_trans hs0 g1.size
 have k1:w1.heap[w.heap.size]?=some (.cells #[.pointer (some ⟨g,0,none⟩)] 73 (0,0)):=(g1.block _ (by omega) (by simp)).trans k0
 have hb1:Below w.heap.size w w1:=hb0.grown g1 (by omega) (fun q hq=>by cases hq;omega)
 obtain ⟨w2,r2,m2,g2⟩:=m1.put (by decide) (k:=2) (by decide) (.func (.func 101) #[.pointer (some ⟨g,0,none⟩)] #[])
 have hs2:w.heap.size+2≤w2.heap.size:=Nat.le_trans hs1 g2.size
 have k2:w2.heap[w.heap.size]?=some (.cells #[.pointer (some ⟨g,0,none⟩)] 73 (0,0)):=(g2.block _ (by omega) (by simp)).trans k1
 have hb2:Below w.heap.size w w2:=hb1.grown g2 (by omega) (fun q hq=>by cases hq;omega)
 obtain ⟨w3,r3,m3,g3⟩:=m2.put (by decide) (k:=3) (by decide) (.func (.func 102) #[.pointer (some ⟨g,0,none⟩)] #[])
 have hs3:w.heap.size+2≤w3.heap.size:=Nat.le_trans hs2 g3.size
 have k3:w3.heap[w.heap.size]?=some (.cells #[.pointer (some ⟨g,0,none⟩)] 73 (0,0)):=(g3.block _ (by omega) (by simp)).trans k2
 have hb3:Below w.heap.size w w3:=hb2.grown g3 (by omega) (fun q hq=>by cases hq;omega)
 obtain ⟨w4,r4,m4,g4⟩:=m3.put (by decide) (k:=4) (by decide) (.func (.func 103) #[.pointer (some ⟨g,0,none⟩)] #[])
 have hs4:w.heap.size+2≤w4.heap.size:=Nat.le_trans hs3 g4.size
 have k4:w4.heap[w.heap.size]?=some (.cells #[.pointer (some ⟨g,0,none⟩)] 73 (0,0)):=(g4.block _ (by omega) (by simp)).trans k3
 have hb4:Below w.heap.size w w4:=hb3.grown g4 (by omega) (fun q hq=>by cases hq;omega)
 obtain ⟨w5,r5,m5,g5⟩:=m4.put (by decide) (k:=5) (by decide) (.func (.func 104) #[.pointer (some ⟨g,0,none⟩)] #[])
 have hs5:w.heap.size+2≤w5.heap.size:=Nat.le_trans hs4 g5.size
 have k5:w5.heap[w.heap.size]?=some (.cells #[.pointer (some ⟨g,0,none⟩)] 73 (0,0)):=(g5.block _ (by omega) (by simp)).trans k4
 have hb5:Below w.heap.size w w5:=hb4.grown g5 (by omega) (fun q hq=>by cases hq;omega)
 obtain ⟨w6,r6,m6,g6⟩:=m5.put (by decide) (k:=6) (by decide) (.func (.func 105) #[] #[.pointer (some ⟨w.heap.size,0,none⟩)])
 have hs6:w.heap.size+2≤w6.heap.size:=Nat.le_trans hs5 g6.size
 have k6:w6.heap[w.heap.size]?=some (.cells #[.pointer (some ⟨g,0,none⟩)] 73 (0,0)):=(g6.block _ (by omega) (by simp)).trans k5
 have hb6:Below w.heap.size w w6:=hb5.grown g6 (by omega) (fun q hq=>by cases hq;omega)
 obtain ⟨w7,r7,m7,g7⟩:=m6.put (by decide) (k:=7) (by decide) (.func (.func 108) #[] #[.pointer (some ⟨w.heap.size,0,none⟩)])
 have hs7:w.heap.size+2≤w7.heap.size:=Nat.le_trans hs6 g7.size
 have k7:w7.heap[w.heap.size]?=some (.cells #[.pointer (some ⟨g,0,none⟩)] 73 (0,0)):=(g7.block _ (by omega) (by simp)).trans k6
 have hb7:Below w.heap.size w w7:=hb6.grown g7 (by omega) (fun q hq=>by cases hq;omega)
 obtain ⟨w8,r8,m8,g8⟩:=m7.put (by decide) (k:=8) (by decide) (.func (.func 110) #[] #[.pointer (some ⟨w.heap.size,0,none⟩)])
 have hs8:w.heap.size+2≤w8.heap.size:=Nat.le_trans hs7 g8.size
 have k8:w8.heap[w.heap.size]?=some (.cells #[.pointer (some ⟨g,0,none⟩)] 73 (0,0)):=(g8.block _ (by omega) (by simp)).trans k7
 have hb8:Below w.heap.size w w8:=hb7.grown g8 (by omega) (fun q hq=>by cases hq;omega)
 obtain ⟨w9,r9,m9,g9⟩:=m8.put (by decide) (k:=9) (by decide) (.func (.func 112) #[] #[.pointer (some ⟨w.heap.size,0,none⟩)])
 have hs9:w.heap.size+2≤w9.heap.size:=Nat.le_trans hs8 g9.size
 have k9:w9.heap[w.heap.size]?=some (.cells #[.pointer (some ⟨g,0,none⟩)] 73 (0,0)):=(g9.block _ (by omega) (by simp)).trans k8
 have hb9:Below w.heap.size w w9:=hb8.grown g9 (by omega) (fun q hq=>by cases hq;omega)
 obtain ⟨w10,r10,m10,g10⟩:=m9.put (by decide) (k:=10) (by decide) (.func (.func 114) #[] #[.pointer (some ⟨w.heap.size,0,none⟩)])
 have hs10:w.heap.size+2≤w10.heap.size:=Nat.le_trans hs9 g10.size
 have k10:w10.heap[w.heap.size]?=some (.cells #[.pointer (some ⟨g,0,none⟩)] 73 (0,0)):=(g10.block _ (by omega) (by simp)).trans k9
 have hb10:Below w.heap.size w w10:=hb9.grown g10 (by omega) (fun q hq=>by cases hq;omega)
 obtain ⟨w11,r11,m11,g11⟩:=m10.put (by decide) (k:=11) (by decide) (.func (.func 116) #[] #[.pointer (some ⟨w.heap.size,0,none⟩)])
 have hs11:w.heap.size+2≤w11.heap.size:=Nat.le_trans hs10 g11.size
 have k11:w11.heap[w.heap.size]?=some (.cells #[.pointer (some ⟨g,0,none⟩)] 73 (0,0)):=(g11.block _ (by omega) (by simp)).trans k10
 have hb11:Below w.heap.size w w11:=hb10.grown g11 (by omega) (fun q hq=>by cases hq;omega)
 obtain ⟨w12,r12,m12,g12⟩:=m11.put (by decide) (k:=12) (by decide) (.func (.func 118) #[] #[.pointer (some ⟨w.heap.size,0,none⟩)])
 have hs12:w.heap.size+2≤w12.heap.size:=Nat.le_trans hs11 g12.size
 have k12:w12.heap[w.heap.size]?=some (.cells #[.pointer (some ⟨g,0,none⟩)] 73 (0,0)):=(g12.block _ (by omega) (by simp)).trans k11
 have hb12:Below w.heap.size w w12:=hb11.grown g12 (by omega) (fun q hq=>by cases hq;omega)
 have HRES:Hid (HMap w12 (w.heap.size+1) 12 (hapL g w.heap.size)∧w12.heap[w.heap.size]?=some (.cells #[.pointer (some ⟨g,0,none⟩)] 73 (0,0))∧Below w.heap.size w w12):=⟨m12,k12,hb12⟩
 have c0:W0.cell? ⟨w.heap.size,0,none⟩=some (.pointer (some ⟨g,0,none⟩)):=cellsAt k0 0
 have c1:w1.cell? ⟨w.heap.size,0,none⟩=some (.pointer (some ⟨g,0,none⟩)):=cellsAt k1 0
 have c2:w2.cell? ⟨w.heap.size,0,none⟩=some (.pointer (some ⟨g,0,none⟩)):=cellsAt k2 0
 have c3:w3.cell? ⟨w.heap.size,0,none⟩=some (.pointer (some ⟨g,0,none⟩)):=cellsAt k3 0
 have c4:w4.cell? ⟨w.heap.size,0,none⟩=some (.pointer (some ⟨g,0,none⟩)):=cellsAt k4 0
 clear m0 k0 hb0 hs0 m1 k1 hb1 hs1 m2 k2 hb2 hs2 m3 k3 hb3 hs3 m4 k4 hb4 hs4 m5 k5 hb5 hs5 m6 k6 hb6 hs6 m7 k7 hb7 hs7 m8 k8 hb8 hs8 m9 k9 hb9 hs9 m10 k10 hb10 hs10 m11 k11 hb11 hs11 m12 k12 hb12 hs12 g1 g2 g3 g4 g5 g6 g7 g8 g9 g10 g11 g12
 have hmm := @run_makeMap Tryz.prog
 subst hW0
 go_enter Tryz.func68,Tryz.ntmps68
 go_wp2_with fail
 go_ret
 exact ⟨rfl,HRES.out⟩
set_option maxHeartbeats 6400000 in
set_option maxRecDepth 100000 in
theorem play_of (kf:Nat) (fs cs:Array Value) (eg:∀ args w,(callFunc kf args).run Tryz.prog w=.ok (.enter kf args) w) (g:Nat) (k er:Int) (R:World→Prop) (w:World) (hw:(Lit.int .i64 k).wf=true)
 (hf:hOf (hapL g w.heap.size) k=some (.func (.func kf) fs cs)) (hg:w.cell? ⟨g,2,none⟩=some (.int .i64 k))
 (hT:∀ W,Below w.heap.size w W→Calls Tryz.prog 69 #[.pointer (some ⟨g,0,none⟩)] W fun e w'=>e=.returned (.bool true)∧Below W.heap.size W w')
 (hF:∀ W,Below w.heap.size w W→W.heap[w.heap.size]?=some (.cells #[.pointer (some ⟨g,0,none⟩)] 73 (0,0))→Calls Tryz.prog kf (fs++cs) W fun e w'=>e=.returned (.int .i64 er)∧R w') :
 Calls Tryz.prog 35 #[.pointer (some ⟨g,0,none⟩)] w fun e w'=>e=.returned (.int .i64 er)∧R w':=by
 have hgl:g < w.heap.size:=World.block_lt_of_cell? w _ hg
 have HH:Hid (Calls Tryz.prog 68 #[.pointer (some ⟨g,0,none⟩)] w.drew fun e w1=>∃ mb,e=.returned (.map (some mb))∧(Instr.lookup 118 (.map (some mb)) (.int .i64 k) true).run Tryz.prog w1=.ok (.tuple #[.func (.func kf) fs cs,.bool true]) w1∧w1.cell? ⟨g,2,none⟩=some (.int .i64 k)∧Hid (Below w.heap.size w w1∧w1.heap[w.heap.size]?=some (.cells #[.pointer (some ⟨g,0,none⟩)] 73 (0,0)))):=by
  refine (happenings_any g w.drew).mono ?_
  rintro e w1 ⟨rfl,hm,hp,hb⟩
  have hb1:Below w.heap.size w w1:=(Below.refl _ _).drew.trans hb
  have hl:=hm.look hw
  rw [show hOf (hapL g w.drew.heap.size) k=some (.func (.func kf) fs cs) from hf] at hl
  exact ⟨_,rfl,hl,(hb1.cell (p:=⟨g,2,none⟩) hgl).trans hg,hb1,hp⟩
 have HT:Hid (∀ W,Below w.heap.size w W→Calls Tryz.prog 69 #[.pointer (some ⟨g,0,none⟩)] W fun e w'=>e=.returned (.bool true)∧Below W.heap.size W w'):=hT
 have HF:Hid (∀ W,Below w.heap.size w W→W.heap[w.heap.size]?=some (.cells #[.pointer (some ⟨g,0,none⟩)] 73 (0,0))→Calls Tryz.prog kf (fs++cs) W fun e w'=>e=.returned (.int .i64 er)∧R w'):=hF
 have HS0:Hid (w.heap.size < w.heap.size+1):=Nat.lt_succ_self _
 clear hT hF hgl hf hw
 go_enter Tryz.func35,Tryz.ntmps35
 go_wp2_with fail
 go_region_held3 (fun w'=>w'.cell? ⟨g,2,none⟩=some (.int .i64 k)) (go_keep) (first | (go_at_call 68;refine HH.out.mono ?_;rintro e w1 ⟨mb,rfl,hl1,hS,HB1⟩) | fail)
 go_wp2_with fail
 refine (HT.out _ HB1.out.1).mono ?_
 rintro e w2 ⟨rfl,hb2⟩
 have hbx:w2.heap[w.heap.size]?=some (.cells #[.pointer (some ⟨g,0,none⟩)] 73 (0,0)):=(hb2.block _ (Array.getElem?_eq_some_iff.1 HB1.out.2).1).trans HB1.out.2
 have HC:=HF.out w2 (HB1.out.1.trans (hb2.mono HB1.out.1.size)) hbx
 clear hb2 hbx hl1 hS HB1 HF HT HH
 go_wp2_with fail
 refine HC.mono ?_
 rintro e w3 ⟨rfl,hr⟩
 go_wp2_with fail
 go_ret
 exact ⟨rfl,hr⟩
end Go.Proofs.YtffdoiokmiklgaaGreatDoor
