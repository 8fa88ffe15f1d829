import Derived.Test.YtikgjgmgbfjcgaaGreatV9
import Derived.Test.YtikgjgmgbfjcgaaGreatV5
import Derived.Deep.RegionHeld
import Derived.Deep.RegionLaw
import Derived.Laws.OwnMore
namespace Go.Proofs.YtikgjgmgbfjcgaaGreat
open Go.RowKit
theorem Tryz.infoI:(Tryz.prog.info? 3).map (fun i=>(i.zero,i.size,i.bytes))=some (some (.int .i64 0),1,8):=by kernel_rfl
theorem rown_row {base g c n:Nat} {w:World} {rs:List Rum} (h:w.ownsRow base 82 6 (.slice (some ⟨g,0,none⟩) n c) rs.length (flR rs)):RRow w g 0 rs:=by
 rcases h.2 with ⟨hv,_⟩ | ⟨g',c',cur,hv,hbg,hg,hnc,hcm,hcs,htake⟩
 ·cases hv
 ·simp only [Value.slice.injEq,Option.some.injEq,Addr.mk.injEq,and_true] at hv
  obtain ⟨rfl,_,_⟩:=hv
  intro j hj
  have hc:∀ t,t < 6→w.cell? ⟨g,0+j * 6+t,none⟩=(rs.getD j dr).cs[t]?:=fun t ht=>by
   rw [cellsAt hg,← flR_get rs j hj t ht,← htake,List.getElem?_take_of_lt (by omega)];simp
  exact ⟨hc 0 (by omega),hc 1 (by omega),hc 2 (by omega),hc 3 (by omega),hc 4 (by omega),hc 5 (by omega)⟩
def wrs:List Value→Nat→List Value→List Value
 | xs,_,[]=>xs
 | xs,o,v :: r=>wrs (xs.set o v) (o+1) r
theorem wrs_len:∀ (vs xs:List Value) (o:Nat),(wrs xs o vs).length=xs.length
 | [],_,_=>rfl
 | v :: r,xs,o=>by rw [wrs,wrs_len r,List.length_set]
theorem wrs_out:∀ (vs xs:List Value) (o k:Nat),k < o∨o+vs.length≤k→(wrs xs o vs)[k]?=xs[k]?
 | [],_,_,_,_=>rfl
 | v :: r,xs,o,k,h=>by
   simp only [List.length_cons] at h
   rw [wrs,wrs_out r _ _ k (by omega),List.getElem?_set_ne (by omega)]
theorem wrs_in:∀ (vs xs:List Value) (o j:Nat),j < vs.length→o+vs.length≤xs.length→(wrs xs o vs)[o+j]?=vs[j]?
 | [],_,_,_,h,_=>by simp at h
 | v :: r,xs,o,0,_,h2=>by
   simp only [List.length_cons] at h2
   rw [wrs,wrs_out r _ _ _ (by omega)]
   simp [List.getElem?_set_self (show o < xs.length by omega)]
 | v :: r,xs,o,j+1,h,h2=>by
   simp only [List.length_cons] at h h2
   rw [wrs,show o+(j+1)=(o+1)+j by omega,wrs_in r _ _ j (by omega) (by rw [List.length_set];omega)]
   simp
theorem stored_all {base g n cap:Nat} {e:TypeId} {size:Nat}:∀ (vs xs:List Value) (o:Nat) (w:World),w.ownsRow base e size (.slice (some ⟨g,0,none⟩) n cap) n xs→(w.setCells g o vs).ownsRow base e size (.slice (some ⟨g,0,none⟩) n cap) n (wrs xs o vs)
 | [],_,_,_,h=>h
 | v :: r,_,o,_,h=>stored_all r _ _ _ (World.ownsRow.stored h o v).1
theorem below_setCells {base g:Nat} (hg:base≤g):∀ (vs:List Value) (o:Nat) (w0 w:World),Below base w0 w→Below base w0 (w.setCells g o vs)
 | [],_,_,_,h=>h
 | v :: r,o,w0,_,h=>below_setCells hg r _ w0 _ (h.setCell (p:=⟨g,o,none⟩) hg v)
theorem owns_shrink {w:World} {base g n m cap:Nat} {e:TypeId} {size:Nat} {xs:List Value} (h:w.ownsRow base e size (.slice (some ⟨g,0,none⟩) n cap) n xs) (hm:m≤n):w.ownsRow base e size (.slice (some ⟨g,0,none⟩) m cap) m (xs.take (m * size)):=by
 obtain ⟨h1,h2⟩:=h
 have hle:m * size≤n * size:=Nat.mul_le_mul_right _ hm
 refine ⟨by rw [List.length_take,h1];omega,?_⟩
 rcases h2 with ⟨hv,_⟩ | ⟨g',c',cur,hv,hbg,hg,hnc,hcm,hcs,htake⟩
 ·cases hv
 ·simp only [Value.slice.injEq,Option.some.injEq,Addr.mk.injEq,and_true,true_and] at hv
  obtain ⟨rfl,rfl⟩:=hv
  refine .inr ⟨g,cap,cur,rfl,hbg,hg,by omega,hcm,hcs,?_⟩
  rw [← htake,List.take_take,Nat.min_eq_left hle]
def zR:List Value:=[.string ⟨#[]⟩,.int .i64 0,.int .i64 0,.int .i64 0,.bool false,.int .i64 0]
theorem take_eq_of {xs ys:List Value} {k:Nat} (hl:k≤xs.length) (hy:ys.length=k) (h:∀ j,j < k→xs[j]?=ys[j]?):xs.take k=ys:=by
 apply List.ext_getElem?
 intro j
 by_cases hj:j < k
 ·rw [List.getElem?_take_of_lt hj,h j hj]
 ·rw [List.getElem?_eq_none (by rw [List.length_take];omega),List.getElem?_eq_none (by omega)]
theorem erase_cells {rs:List Rum} {p n:Nat} (hn:rs.length=n) (hp:p < n):(wrs (wrs (flR rs) (p * 6) (flR (rs.drop (p+1)))) ((n - 1) * 6) zR).take ((n - 1) * 6)=flR (rs.eraseIdx p):=by
 have hl:(flR rs).length=n * 6:=by rw [flR_len,hn]
 have hd:(flR (rs.drop (p+1))).length=(n - (p+1)) * 6:=by rw [flR_len,List.length_drop,hn]
 refine take_eq_of (by rw [wrs_len,wrs_len,hl];omega) (by rw [flR_len,List.length_eraseIdx,if_pos (by omega),hn]) (fun j hj=>?_)
 rw [wrs_out _ _ _ _ (by omega),List.eraseIdx_eq_take_drop_succ,flR_append]
 have ht:(flR (rs.take p)).length=p * 6:=by rw [flR_len,List.length_take,hn];omega
 by_cases hjp:j < p * 6
 ·rw [wrs_out _ _ _ _ (by omega),List.getElem?_append_left (by omega),← flR_take,List.getElem?_take_of_lt hjp]
 ·rw [List.getElem?_append_right (by omega),ht]
  have:=wrs_in (flR (rs.drop (p+1))) (flR rs) (p * 6) (j - p * 6) (by rw [hd];omega) (by rw [hd,hl];omega)
  rw [show p * 6+(j - p * 6)=j by omega] at this
  exact this
theorem run_clear_one (w:World) (ty:TypeId) (b o c:Nat) (hc:∀ j,j < 6→(w.cell? ⟨b,o+j,none⟩).isSome=true) (hf:∀ j,j < 6→w.frozen? ⟨b,o+j,none⟩=false) :
 (Builtin.clear_ #[23] ty #[.slice (some ⟨b,o,none⟩) 1 c]).run Tryz.prog w=.ok (.tuple #[]) (w.setCells b o zR):=by
 have hzc:(Builtin.zeroCells (Value.agg #[.string ⟨#[]⟩,.int .i64 0,.int .i64 0,.int .i64 0,.bool false,.int .i64 0]).cells 1).toList=zR:=by kernel_rfl
 have hst:=run_storeCells_cells (P:=Tryz.prog) b o zR 0 w (fun j hj=>by simpa using hc j (by simpa [zR] using hj)) (fun j hj=>by simpa using hf j (by simpa [zR] using hj)) (by intro v hv;simp [zR] at hv;rcases hv with rfl | rfl | rfl | rfl<;>rfl)
 simp only [Nat.add_zero] at hst
 simp [Builtin.clear_,run_underlying Tryz.underlying23,hzc,hst]
set_option maxHeartbeats 3200000 in
set_option maxRecDepth 1000000 in
theorem delete_any (rs:List Rum) (n p g c base:Nat) (w:World) (hn:rs.length=n) (ho:ROwn base w (.slice (some ⟨g,0,none⟩) n c) rs) (hp:p < n) (hsm:n≤1000) :
 Calls Tryz.prog 229 #[.slice (some ⟨g,0,none⟩) n c,.int .i64 p,.int .i64 (p+1)] w fun e w'=>e=.returned (.slice (some ⟨g,0,none⟩) (n - 1) c)∧ROwn base w' (.slice (some ⟨g,0,none⟩) (n - 1) c) (rs.eraseIdx p)∧Below base w w':=by
 obtain ⟨i0,hi0,hz0,hz1,hz2⟩:=info_parts Tryz.infoR
 have HO:Hid (w.ownsRow base 82 6 (.slice (some ⟨g,0,none⟩) n c) n (flR rs)):=by rw [← hn];rw [← hn] at ho;exact ho
 obtain ⟨hgl,hnc,hcm⟩:base≤g∧n≤c∧c≤maxLen:=by
  rcases HO.out.2 with ⟨hv,_⟩ | ⟨g',c',cur,hv,hbg,hg,hnc,hcm,hcs,htake⟩
  ·cases hv
  ·simp only [Value.slice.injEq,Option.some.injEq,Addr.mk.injEq,and_true,true_and] at hv
   obtain ⟨rfl,rfl⟩:=hv
   exact ⟨hbg,hnc,hcm⟩
 unfold maxLen at hcm
 have hp0:(0:Int)≤(p:Int)+1:=by omega
 have hp1:(p:Int)+1≤(n:Int):=by omega
 have hp2:((p:Int)+1).toNat=p+1:=by omega
 have hic:p≤c:=by omega
 have hcell:∀ k,k < n * 6→w.cell? ⟨g,k,none⟩=(flR rs)[k]?:=fun k hk=>by
  rcases HO.out.2 with ⟨hv,_⟩ | ⟨g',c',cur,hv,hbg,hg,_,_,hcs,htake⟩
  ·cases hv
  ·simp only [Value.slice.injEq,Option.some.injEq,Addr.mk.injEq,and_true,true_and] at hv
   obtain ⟨rfl,rfl⟩:=hv
   rw [cellsAt hg,← htake,List.getElem?_take_of_lt hk,Array.getElem?_toList]
 have hfl:(flR rs).length=n * 6:=by rw [flR_len,hn]
 have S1:Hid ((flR (rs.drop (p+1))).length=(n - (p+1)) * 6):=(show (flR (rs.drop (p+1))).length=_ by rw [flR_len,List.length_drop,hn])
 obtain ⟨A,hA,hnews⟩:∃ A:Addr,(if c=p+1 then some (⟨g,0,none⟩:Addr) else some ⟨g,(p+1) * 6,none⟩)=some A∧Hid (∀ j u,(flR (rs.drop (p+1)))[j]?=some u→w.drew.cell? (A.add j)=some u):=by
  by_cases h:c=p+1
  ·refine ⟨_,if_pos h,fun j u hj=>?_⟩
   have:j < (flR (rs.drop (p+1))).length:=(List.getElem?_eq_some_iff.1 hj).1
   rw [S1.out] at this
   omega
  ·refine ⟨_,if_neg h,fun j u hj=>?_⟩
   have hj1:j < (flR (rs.drop (p+1))).length:=(List.getElem?_eq_some_iff.1 hj).1
   rw [S1.out] at hj1
   rw [Addr.add_lit]
   show w.cell? _=_
   rw [hcell _ (by omega),← hj,← flR_drop,List.getElem?_drop]
 have S2:Hid (∀ u∈flR (rs.drop (p+1)),u.oneCell'=true):=flR_one _
 have S3:Hid (∀ j,j < (flR (rs.drop (p+1))).length→(w.drew.cell? ⟨g,0+p * 6+j,none⟩).isSome=true∧w.drew.frozen? ⟨g,0+p * 6+j,none⟩=false):=fun j hj=>by
  rw [S1.out] at hj
  refine ⟨?_,World.ownsRow.frozenAt HO.out _⟩
  show (w.cell? _).isSome=true
  rw [hcell _ (by omega),List.getElem?_eq_getElem (by omega)]
  rfl
 have HD:Hid ((w.drew.setCells g (p * 6) (flR (rs.drop (p+1)))).ownsRow base 82 6 (.slice (some ⟨g,0,none⟩) n c) n (wrs (flR rs) (p * 6) (flR (rs.drop (p+1))))):=stored_all _ _ _ _ (show w.drew.ownsRow base 82 6 (.slice (some ⟨g,0,none⟩) n c) n (flR rs) from HO.out)
 have hclear:∀ ty,(Builtin.clear_ #[23] ty #[.slice (some ⟨g,(p+(n - (p+1))) * 6,none⟩) (n - (p+(n - (p+1)))) (c - (p+(n - (p+1))))]).run Tryz.prog (w.drew.setCells g (p * 6) (flR (rs.drop (p+1))))=.ok (.tuple #[]) ((w.drew.setCells g (p * 6) (flR (rs.drop (p+1)))).setCells g ((n - 1) * 6) zR):=fun ty=>by
  rw [show p+(n - (p+1))=n - 1 by omega,show n - (n - 1)=1 by omega]
  exact run_clear_one _ ty g _ _ (fun j hj=>by rw [World.ownsRow.cellAt HD.out _ (by omega),List.getElem?_eq_getElem (by rw [wrs_len,hfl];omega)];rfl) (fun j _=>World.ownsRow.frozenAt HD.out _)
 have HF:Hid (((w.drew.setCells g (p * 6) (flR (rs.drop (p+1)))).setCells g ((n - 1) * 6) zR).ownsRow base 82 6 (.slice (some ⟨g,0,none⟩) (n - 1) c) (n - 1) (flR (rs.eraseIdx p))):=by
  have h:=owns_shrink (m:=n - 1) (stored_all zR _ ((n - 1) * 6) _ HD.out) (by omega)
  rw [erase_cells hn hp] at h
  exact h
 have HL:Hid ((rs.eraseIdx p).length=n - 1):=(show (rs.eraseIdx p).length=n - 1 by rw [List.length_eraseIdx,if_pos (by omega),hn])
 have HBL:Hid (Below base w ((w.drew.setCells g (p * 6) (flR (rs.drop (p+1)))).setCells g ((n - 1) * 6) zR)):=below_setCells hgl _ _ _ _ (below_setCells hgl _ _ _ _ (Below.refl _ _).drew)
 have HPN:Hid (p+(n - (p+1))=n - 1):=(show p+(n - (p+1))=n - 1 by omega)
 clear ho hcell
 go_enter Tryz.func229,Tryz.ntmps229
 go_wp2_with fail
 go_region_law (refine step_append_room rfl (.tmp 22) (.tmp 25) 23 rfl 82 i0 6 Tryz.underlying23 hi0 hz1 g 0 p c (by simp [Act.eval,Act.put]) A (n - (p+1)) (c - (p+1)) (flR (rs.drop (p+1))) (by simp [Act.eval,Act.put]) S1.out hnews.out S2.out (by omega) S3.out ?_)
 go_wp2_with fail
 go_ret
 refine ⟨?_,?_,HBL.out⟩
 ·have hpn:=HPN.out
  simp only [hpn]
  rfl
 ·show World.ownsRow _ _ _ _ _ (rs.eraseIdx p).length _
  rw [HL.out]
  exact HF.out
end Go.Proofs.YtikgjgmgbfjcgaaGreat
