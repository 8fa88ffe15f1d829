import Derived.Test.YtffdoiokmiklgaaGreatDoortr38
import Derived.Test.YtffdoiokmiklgaaGreatDoortr4
import Derived.Test.YtffdoiokmiklgaaGreatDoortr2
import Derived.Test.YtffdoiokmiklgaaGreatDoortr16
import Derived.Deep.RegionLaw
import Derived.Deep.AppendLies
import Derived.Deep.Cut
import Derived.Lib.SmallJoins
import Derived.Laws.StructEq
import Derived.Test.YtffdoiokmiklgaaGreatDoortr7
namespace Go.Proofs.YtffdoiokmiklgaaGreatDoor
namespace Lt
open Go.RowKit
theorem Tryz.info65:(Tryz.prog.info? 65).map (fun i=>(i.zero,i.size,i.bytes))=some (some (.agg #[.int .i64 0,.string ⟨#[]⟩]),2,24):=by kernel_rfl
end Lt
end Go.Proofs.YtffdoiokmiklgaaGreatDoor
namespace Go.Proofs.YtffdoiokmiklgaaGreatDoor
open Go.RowKit
theorem Tryz.infoLq:(Tryz.prog.info? 65).map (fun i=>(i.zero,i.size,i.bytes))=some (some (.agg #[.int .i64 0,.string ⟨#[]⟩]),2,24):=by kernel_rfl
structure Ev where
 kind:Int
 which:Int
 other:Int
 n:Int
 name:ByteArray
 p:Pl
 s:Sv.Svc
def plA (un ul:Value) (v:Ev):Array Value:=#[un,ul,.int .i64 v.kind,.int .i64 v.which,.int .i64 v.other,.int .i64 v.n,.string v.name,.int .i64 v.p.x,.int .i64 v.p.y,.int .i64 v.p.z,.int .i64 v.p.h,.int .i64 v.p.s,.string v.s.node,.string v.s.idn,.string v.s.name,.string v.s.tag,.int .i64 v.s.addr,.int .i64 v.s.port,.bool v.s.passing,.int .i64 v.s.version,.bool v.s.gone]
structure Mv (C:Nat) (w w':World):Prop where
 below:Below C w w'
 keep:∀ (b:Nat) (cs:Array Value) (T:TypeId) (f:Nat × Nat),w.heap[b]?=some (.cells cs T f)→T≠65→T≠75→w'.heap[b]?=some (.cells cs T f)
theorem Mv.of {C:Nat} {w w':World} (h:Below w.heap.size w w') (hC:C≤w.heap.size):Mv C w w':=⟨h.mono hC,fun b _ _ _ hb _ _=>(h.block b (Array.getElem?_eq_some_iff.1 hb).1).trans hb⟩
theorem Mv.trans {C:Nat} {w w' w'':World} (h:Mv C w w') (h':Mv C w' w''):Mv C w w'':=⟨h.below.trans h'.below,fun b cs T f hb h1 h2=>h'.keep b cs T f (h.keep b cs T f hb h1 h2) h1 h2⟩
theorem row_ty {C:Nat} {T:TypeId} {k n:Nat} {v:Value} {xs:List Value} {w w':World} (ho:w.ownsRow C T k v n xs) (hk:∀ (b:Nat) (cs:Array Value) (f:Nat × Nat),w.heap[b]?=some (.cells cs T f)→w'.heap[b]?=some (.cells cs T f)):w'.ownsRow C T k v n xs:=by
 rcases ho.2 with ⟨rfl,h0⟩ | ⟨b,c,cur,rfl,hbg,hb,hr⟩
 ·exact ⟨ho.1,.inl ⟨rfl,h0⟩⟩
 ·exact ⟨ho.1,.inr ⟨b,c,cur,rfl,hbg,hk _ _ _ hb,hr⟩⟩
theorem row_block {C:Nat} {T:TypeId} {k n:Nat} {v:Value} {xs:List Value} {w:World} (ho:w.ownsRow C T k v n xs) {b:Nat} (e:v.ownBlock=some b):C≤b∧∃ cs,w.heap[b]?=some (.cells cs T (0,0)):=by
 rcases ho.2 with ⟨rfl,h0⟩ | ⟨b',c,cur,rfl,hbg,hb,hr⟩
 ·cases e
 ·have:b'=b:=by simpa [Value.ownBlock] using e
  subst this
  exact ⟨hbg,_,hb⟩
theorem row_form {C:Nat} {T:TypeId} {k n:Nat} {v:Value} {xs:List Value} {w:World} (ho:w.ownsRow C T k v n xs):∃ a c,v=.slice a n c:=by
 rcases ho.2 with ⟨rfl,rfl⟩ | ⟨b',c,cur,rfl,_⟩
 ·exact ⟨none,0,rfl⟩
 ·exact ⟨_,c,rfl⟩
structure Plr (C:Nat) (w:World) (g:Nat) (un ul:Value) (ls:List Lt.Ltr) (v:Ev):Prop where
 hg:w.heap[g]?=some (.cells (plA un ul v) 75 (0,0))
 le:C≤g
 ls:Lt.Own C w ul ls
theorem Plr.below {C:Nat} {w w':World} {g:Nat} {un ul:Value} {ls:List Lt.Ltr} {v:Ev} (h:Plr C w g un ul ls v) (hb:Below w.heap.size w w'):Plr C w' g un ul ls v:=
 ⟨(hb.block g (Array.getElem?_eq_some_iff.1 h.hg).1).trans h.hg,h.le,row_ty h.ls (fun b _ _ e=>(hb.block b (Array.getElem?_eq_some_iff.1 e).1).trans e)⟩
theorem set_pl {w:World} {g:Nat} {un ul x:Value} {v:Ev} (h:w.heap[g]?=some (.cells (plA un ul v) 75 (0,0))):(w.setCell ⟨g,1,none⟩ x).heap[g]?=some (.cells (plA un x v) 75 (0,0)):=Joins.block_setCell h x
theorem Plr.turn {C g:Nat} {un ul x:Value} {ls ls':List Lt.Ltr} {v:Ev} {w w5:World} (h:Plr C w g un ul ls v) (hb:Below C w w5) (hk:∀ b,b < w.heap.size→ul.ownBlock≠some b→w5.heap[b]?=w.heap[b]?) (hown:Lt.Own C w5 x ls'):Mv C w (w5.setCell ⟨g,1,none⟩ x)∧Plr C (w5.setCell ⟨g,1,none⟩ x) g un x ls' v:=by
 have hgl:g < w.heap.size:=(Array.getElem?_eq_some_iff.1 h.hg).1
 have hne:ul.ownBlock≠some g:=fun e=>by
  obtain ⟨_,cs,h2⟩:=row_block h.ls e
  rw [h.hg] at h2
  simp at h2
 have h5:w5.heap[g]?=some (.cells (plA un ul v) 75 (0,0)):=(hk g hgl hne).trans h.hg
 refine ⟨⟨hb.setCell (p:=⟨g,1,none⟩) h.le _,fun b cs T f e h1 h2=>?_⟩,⟨set_pl h5,h.le,row_ty hown (fun b cs f e=>?_)⟩⟩
 ·have hbg:b≠g:=fun e2=>by
   subst e2;rw [h.hg] at e;simp at e;exact h2 e.2.1.symm
  have hbl:ul.ownBlock≠some b:=fun e2=>by
   obtain ⟨_,cs2,h3⟩:=row_block h.ls e2
   rw [e] at h3;simp at h3;exact h1 h3.2.1
  rw [Below.heap_setCell _ _ _ _ hbg]
  exact (hk b (Array.getElem?_eq_some_iff.1 e).1 hbl).trans e
 ·have hbg:b≠g:=fun e2=>by
   subst e2;rw [h5] at e;simp at e
  rw [Below.heap_setCell _ _ _ _ hbg]
  exact e
set_option maxHeartbeats 6400000 in
set_option maxRecDepth 100000 in
theorem send_any (C g:Nat) (un ul:Value) (ls:List Lt.Ltr) (v:Ev) (to:Int) (tx:ByteArray) (w:World) (h:Plr C w g un ul ls v) (hC:C≤w.heap.size) (h20:ls.length < 20) :
 Calls Tryz.prog 152 #[.pointer (some ⟨g,0,none⟩),.agg #[.int .i64 to,.string tx]] w fun e w'=>e=.returned (.int .i64 0)∧Mv C w w'∧∃ a k c,Plr C w' g un (.slice a k c) (ls++[⟨to,tx⟩]) v:=by
 obtain ⟨i0,hi0,hz0,hzs,hzb⟩:=info_parts (Tryz.infoLq)
 obtain ⟨au,cu,hul⟩:=row_form h.ls
 subst hul
 have hgl:g < w.heap.size:=(Array.getElem?_eq_some_iff.1 h.hg).1
 obtain ⟨X,hX⟩:∃ X,X=w.alloc (.cells #[.int .i64 to,.string tx] 65):=⟨_,rfl⟩
 have hbX:Below w.heap.size w X:=by rw [hX];exact (Below.refl _ _).alloc (Nat.le_refl _) _
 have HSX:Hid (X.heap.size=w.heap.size+1):=by show _=_;rw [hX];simp
 have hx:X.heap[w.heap.size]?=some (.cells #[.int .i64 to,.string tx] 65 (0,0)):=by rw [hX];exact heap_alloc_new w _
 have x0:X.cell? ⟨w.heap.size,0,none⟩=some (.int .i64 to):=cellsAt hx 0
 have x1:X.cell? ⟨w.heap.size,1,none⟩=some (.string tx):=cellsAt hx 1
 have hgX:X.heap[g]?=some (.cells (plA un (.slice au ls.length cu) v) 75 (0,0)):=(hbX.block g hgl).trans h.hg
 have y1:X.cell? ⟨g,1,none⟩=some (.slice au ls.length cu):=cellsAt hgX 1
 have HP:Hid (Plr C w g un (.slice au ls.length cu) ls v):=h
 have y1a:∀ o,(X.alloc o).cell? ⟨g,1,none⟩=some (.slice au ls.length cu):=fun o=>(((Below.refl X.heap.size X).alloc (Nat.le_refl _) o).cell (p:=⟨g,1,none⟩) (Nat.lt_of_lt_of_le hgl hbX.size)).trans y1
 have HBX:Hid (Below w.heap.size w X):=hbX
 have hrow:X.ownsRow C 65 2 (.slice au ls.length cu) ls.length (Lt.fl ls):=row_ty h.ls (fun b _ _ e=>(hbX.block b (Array.getElem?_eq_some_iff.1 e).1).trans e)
 have HNB:Hid ((Value.slice au ls.length cu).ownBlock≠some g):=fun e=>by
  obtain ⟨_,cs,h2⟩:=row_block h.ls e
  rw [h.hg] at h2
  simp at h2
 have HFL:Hid (Lt.fl (ls++[⟨to,tx⟩])=Lt.fl ls++[.int .i64 to,.string tx]):=by show _=_;rw [Lt.fl_append];rfl
 have hd:((ls.length:Int) == 20)=false:=by simp;omega
 have HLN:Hid (ls.length+1=(ls++[(⟨to,tx⟩:Lt.Ltr)]).length):=by show _=_;simp
 have h63:ls.length+1≤maxLen:=by unfold maxLen;omega
 have hbt:(ls.length+1) * 24≤140737488355328:=by omega
 have HGX:Hid (X.heap[g]?=some (.cells (plA un (.slice au ls.length cu) v) 75 (0,0))):=hgX
 clear h hbX hx hgX h20
 generalize ls.length=m at *
 go_enter Tryz.func152,Tryz.ntmps152
 go_upto_region 1 with fail
 rw [← hX]
 clear hX
 go_wp2_with fail
 go_region_law (refine step_append_lies _ (by rfl) _ _ _ (by rfl) C 65 i0 _ 2 24 Tryz.underlying23 hi0 hz0 hzs hzb rfl (by omega) (.slice au m cu) m (Lt.fl ls) (by rfl) ((World.ownsRow.alloc hrow _).drew) ⟨X.heap.size,0,none⟩ 1 1 [.int .i64 to,.string tx] (by rfl) (by rfl) (World.news_of_block (cs:=#[.int .i64 to,.string tx]) (t:=65) (fr:=(0,0)) (heap_alloc_new X _)) (by simp [Value.oneCell']) (by omega) h63 hbt (by have:=HSX.out;simp<;>omega) (X.heap.size+1) (by simp) ?_;intro gg cap w5 hown1 hgrow hat hlt;have hgb:w5.heap[g]?=some (.cells (plA un (.slice au m cu) v) 75 (0,0)):=((hgrow.block g (by have:=HSX.out;simp<;>omega) (Ne.symm HNB.out)).trans (Below.heap_alloc X _ _ (by have:=HSX.out;omega))).trans HGX.out;have z1:w5.cell? ⟨g,1,none⟩=some (.slice au m cu):=cellsAt hgb 1;have zf:w5.frozen? ⟨g,1,none⟩=false:=(by simp [World.frozen?,hgb]);have HR:Hid (Mv C w (w5.setCell ⟨g,1,none⟩ (.slice (some ⟨gg,0,none⟩) (m+1) cap))∧Plr C (w5.setCell ⟨g,1,none⟩ (.slice (some ⟨gg,0,none⟩) (m+1) cap)) g un (.slice (some ⟨gg,0,none⟩) (m+1) cap) (ls++[⟨to,tx⟩]) v):=Plr.turn HP.out (((HBX.out.alloc HBX.out.size _).drew.mono hC).grown hgrow (by have:=HSX.out;simp<;>omega) (fun k hk=>(row_block HP.out.ls hk).1)) (fun b hlt hne=>(hgrow.block b (by have:=HSX.out;simp<;>omega) (Ne.symm hne)).trans ((Below.heap_alloc X _ _ (by have:=HSX.out;omega)).trans (HBX.out.block b hlt))) (by show World.ownsRow _ _ _ _ _ _ _;rw [← HLN.out,HFL.out];exact hown1);clear hgb hown1 hgrow hat hlt)
 all_goals
  go_wp2_with fail
  go_ret
  exact ⟨rfl,HR.out.1,_,_,_,HR.out.2⟩
end Go.Proofs.YtffdoiokmiklgaaGreatDoor
namespace Go.Proofs.YtffdoiokmiklgaaGreatDoor
namespace Lt
open Go.RowKit
set_option maxHeartbeats 800000 in
theorem clone_any (ms:List Ltr) (v:Value) (w:World) (h:Sl w v ms) (hn:ms.length≤1000) :
 Calls Tryz.prog 37 #[v] w fun e w'=>∃ v',e=.returned v'∧Own w.heap.size w' v' ms∧Below w.heap.size w w':=by
 obtain ⟨a,cap,rfl,hs,h⟩:=h
 obtain ⟨i0,hi0,hz0,hzs,hzb⟩:=info_parts Tryz.info65
 cases a with
 | none=>
   have he:ms=[]:=by
    rcases h with h | ⟨b,off,h,_⟩
    ·exact h
    ·cases h
   subst he
   clear h hs
   have hnil:=fun (w:World)=>Lib.run_eql_slice_nil (P:=Tryz.prog) w 23 65 none 0 cap 0 0 Tryz.underlying23
   simp only [List.length_nil,Option.isNone_none] at hnil ⊢
   go_enter Tryz.func37,Tryz.ntmps37
   go_wp2_with fail
   go_ret
   exact ⟨_,rfl,own_nil _ _,Below.refl _ _⟩
 | some a=>
   have hnil:=fun (w:World)=>Lib.run_eql_slice_nil (P:=Tryz.prog) w 23 65 (some a) ms.length cap 0 0 Tryz.underlying23
   simp only [Option.isNone_some] at hnil
   have hnews:Hid (∀ j u,(fl ms)[j]?=some u→(w.alloc (.cells #[] 65)).cell? (a.add j)=some u):=by
    intro j u hj
    rcases h with h | ⟨b,off,h,hb,hr⟩
    ·subst h;simp [fl] at hj
    ·cases h
     have hjl:j < ms.length * 2:=by rw [← fl_len];exact (List.getElem?_eq_some_iff.1 hj).1
     have h1:=fl_get ms (j / 2) (by omega) (j%2) (by omega)
     rw [show j / 2 * 2+j%2=j by omega,hj] at h1
     rw [Addr.add_lit,World.cell?_alloc_past (w:=w) _ b _ hb]
     obtain ⟨c0,c1⟩:=hr (j / 2) (by omega)
     have hcs:j%2=0∨j%2=1:=by omega
     rcases hcs with e | e
     ·rw [show off+j=off+j / 2 * 2 by omega,c0];rw [e] at h1;simpa [Ltr.cs] using h1.symm
     ·rw [show off+j=off+j / 2 * 2+1 by omega,c1];rw [e] at h1;simpa [Ltr.cs] using h1.symm
   have HO:Hid ((w.alloc (.cells #[] 65)).ownsRow w.heap.size 65 2 (.slice (some ⟨w.heap.size,0,none⟩) 0 0) 0 []):=World.ownsRow_made w #[] 0 (Nat.le_refl _) (by unfold maxLen;omega) rfl
   clear h hs
   go_enter Tryz.func37,Tryz.ntmps37
   go_wp2_with (at_builtin;refine wpList_append_own _ rfl _ _ 23 rfl w.heap.size 65 i0 _ 2 24 Tryz.underlying23 hi0 hz0 hzs hzb rfl (by omega) _ 0 [] rfl HO.out a ms.length cap (fl ms) rfl (fl_len ms) hnews.out (fl_one ms) (by unfold maxLen;omega) (by omega) (by simp) ?_)
   intro v' w' r1 r2 r3
   go_wp2_with fail
   go_ret
   refine ⟨v',rfl,?_,?_⟩
   ·simpa using r1
   ·exact ((Below.refl _ _).alloc (Nat.le_refl _) _).grown r2 (by simp) (fun k hk=>by simp [Value.ownBlock] at hk;omega)
end Lt
end Go.Proofs.YtffdoiokmiklgaaGreatDoor
namespace Go.Proofs.YtffdoiokmiklgaaGreatDoor
open Go.RowKit
theorem Tryz.infoLt:(Tryz.prog.info? 65).map (fun i=>(i.zero,i.size,i.bytes))=some (some (.agg #[.int .i64 0,.string ⟨#[]⟩]),2,24):=by kernel_rfl
def zLt:List Value:=[.int .i64 0,.string ⟨#[]⟩]
theorem setCells_other {g k:Nat} (hk:k≠g):∀ (vs:List Value) (o:Nat) (w:World),(w.setCells g o vs).heap[k]?=w.heap[k]?
 | [],_,_=>rfl
 | v :: r,o,w=>(setCells_other hk r (o+1) _).trans (Below.heap_setCell w ⟨g,o,none⟩ v k hk)
theorem eraseL_cells {rs:List Lt.Ltr} {p n:Nat} (hn:rs.length=n) (hp:p < n):(wrs (wrs (Lt.fl rs) (p * 2) (Lt.fl (rs.drop (p+1)))) ((n - 1) * 2) zLt).take ((n - 1) * 2)=Lt.fl (rs.eraseIdx p):=by
 have hl:(Lt.fl rs).length=n * 2:=by rw [Lt.fl_len,hn]
 have hd:(Lt.fl (rs.drop (p+1))).length=(n - (p+1)) * 2:=by rw [Lt.fl_len,List.length_drop,hn]
 refine take_eq_of (by rw [wrs_len,wrs_len,hl];omega) (by rw [Lt.fl_len,List.length_eraseIdx,if_pos (by omega),hn]) (fun j hj=>?_)
 rw [wrs_out _ _ _ _ (by omega),List.eraseIdx_eq_take_drop_succ,Lt.fl_append]
 have ht:(Lt.fl (rs.take p)).length=p * 2:=by rw [Lt.fl_len,List.length_take,hn];omega
 by_cases hjp:j < p * 2
 ·rw [wrs_out _ _ _ _ (by omega),List.getElem?_append_left (by omega),← Lt.fl_take,List.getElem?_take_of_lt hjp]
 ·rw [List.getElem?_append_right (by omega),ht]
  have:=wrs_in (Lt.fl (rs.drop (p+1))) (Lt.fl rs) (p * 2) (j - p * 2) (by rw [hd];omega) (by rw [hd,hl];omega)
  rw [show p * 2+(j - p * 2)=j by omega] at this
  exact this
theorem run_clearL (w:World) (ty:TypeId) (b o c:Nat) (hc:∀ j,j < 2→(w.cell? ⟨b,o+j,none⟩).isSome=true) (hf:∀ j,j < 2→w.frozen? ⟨b,o+j,none⟩=false) :
 (Builtin.clear_ #[23] ty #[.slice (some ⟨b,o,none⟩) 1 c]).run Tryz.prog w=.ok (.tuple #[]) (w.setCells b o zLt):=by
 have hzc:(Builtin.zeroCells (Value.agg #[.int .i64 0,.string ⟨#[]⟩]).cells 1).toList=zLt:=by kernel_rfl
 have hst:=run_storeCells_cells (P:=Tryz.prog) b o zLt 0 w (fun j hj=>by simpa using hc j (by simpa [zLt] using hj)) (fun j hj=>by simpa using hf j (by simpa [zLt] using hj)) (by intro v hv;simp [zLt] at hv;rcases hv with rfl | rfl<;>rfl)
 simp only [Nat.add_zero] at hst
 simp [Builtin.clear_,run_underlying Tryz.underlying23,hzc,hst]
set_option maxHeartbeats 3200000 in
set_option maxRecDepth 1000000 in
theorem deleteL_any (rs:List Lt.Ltr) (n p g c base:Nat) (w:World) (hn:rs.length=n) (ho:Lt.Own base w (.slice (some ⟨g,0,none⟩) n c) rs) (hp:p < n) (hsm:n≤1000) :
 Calls Tryz.prog 151 #[.slice (some ⟨g,0,none⟩) n c,.int .i64 p,.int .i64 (p+1)] w fun e w'=>e=.returned (.slice (some ⟨g,0,none⟩) (n - 1) c)∧Lt.Own base w' (.slice (some ⟨g,0,none⟩) (n - 1) c) (rs.eraseIdx p)∧Below base w w'∧∀ k,k≠g→w'.heap[k]?=w.heap[k]?:=by
 obtain ⟨i0,hi0,hz0,hz1,hz2⟩:=info_parts Tryz.infoLt
 have HO:Hid (w.ownsRow base 65 2 (.slice (some ⟨g,0,none⟩) n c) n (Lt.fl rs)):=by rw [← hn];rw [← hn] at ho;exact ho
 obtain ⟨hgl,hnc,hcm⟩:base≤g∧n≤c∧c≤maxLen:=by
  rcases HO.out.2 with ⟨hv,_⟩ | ⟨g',c',cur,hv,hbg,hg,hnc,hcm,hcs,htake⟩
  ·cases hv
  ·simp only [Value.slice.injEq,Option.some.injEq,Addr.mk.injEq,and_true,true_and] at hv
   obtain ⟨rfl,rfl⟩:=hv
   exact ⟨hbg,hnc,hcm⟩
 unfold maxLen at hcm
 have hp0:(0:Int)≤(p:Int)+1:=by omega
 have hp1:(p:Int)+1≤(n:Int):=by omega
 have hp2:((p:Int)+1).toNat=p+1:=by omega
 have hic:p≤c:=by omega
 have hcell:∀ k,k < n * 2→w.cell? ⟨g,k,none⟩=(Lt.fl rs)[k]?:=fun k hk=>by
  rcases HO.out.2 with ⟨hv,_⟩ | ⟨g',c',cur,hv,hbg,hg,_,_,hcs,htake⟩
  ·cases hv
  ·simp only [Value.slice.injEq,Option.some.injEq,Addr.mk.injEq,and_true,true_and] at hv
   obtain ⟨rfl,rfl⟩:=hv
   rw [cellsAt hg,← htake,List.getElem?_take_of_lt hk,Array.getElem?_toList]
 have hfl:(Lt.fl rs).length=n * 2:=by rw [Lt.fl_len,hn]
 have S1:Hid ((Lt.fl (rs.drop (p+1))).length=(n - (p+1)) * 2):=(show (Lt.fl (rs.drop (p+1))).length=_ by rw [Lt.fl_len,List.length_drop,hn])
 obtain ⟨A,hA,hnews⟩:∃ A:Addr,(if c=p+1 then some (⟨g,0,none⟩:Addr) else some ⟨g,(p+1) * 2,none⟩)=some A∧Hid (∀ j u,(Lt.fl (rs.drop (p+1)))[j]?=some u→w.drew.cell? (A.add j)=some u):=by
  by_cases h:c=p+1
  ·refine ⟨_,if_pos h,fun j u hj=>?_⟩
   have:j < (Lt.fl (rs.drop (p+1))).length:=(List.getElem?_eq_some_iff.1 hj).1
   rw [S1.out] at this
   omega
  ·refine ⟨_,if_neg h,fun j u hj=>?_⟩
   have hj1:j < (Lt.fl (rs.drop (p+1))).length:=(List.getElem?_eq_some_iff.1 hj).1
   rw [S1.out] at hj1
   rw [Addr.add_lit]
   show w.cell? _=_
   rw [hcell _ (by omega),← hj,← Lt.fl_drop,List.getElem?_drop]
 have S2:Hid (∀ u∈Lt.fl (rs.drop (p+1)),u.oneCell'=true):=Lt.fl_one _
 have S3:Hid (∀ j,j < (Lt.fl (rs.drop (p+1))).length→(w.drew.cell? ⟨g,0+p * 2+j,none⟩).isSome=true∧w.drew.frozen? ⟨g,0+p * 2+j,none⟩=false):=fun j hj=>by
  rw [S1.out] at hj
  refine ⟨?_,World.ownsRow.frozenAt HO.out _⟩
  show (w.cell? _).isSome=true
  rw [hcell _ (by omega),List.getElem?_eq_getElem (by omega)]
  rfl
 have HD:Hid ((w.drew.setCells g (p * 2) (Lt.fl (rs.drop (p+1)))).ownsRow base 65 2 (.slice (some ⟨g,0,none⟩) n c) n (wrs (Lt.fl rs) (p * 2) (Lt.fl (rs.drop (p+1))))):=stored_all _ _ _ _ (show w.drew.ownsRow base 65 2 (.slice (some ⟨g,0,none⟩) n c) n (Lt.fl rs) from HO.out)
 have hclear:∀ ty,(Builtin.clear_ #[23] ty #[.slice (some ⟨g,(p+(n - (p+1))) * 2,none⟩) (n - (p+(n - (p+1)))) (c - (p+(n - (p+1))))]).run Tryz.prog (w.drew.setCells g (p * 2) (Lt.fl (rs.drop (p+1))))=.ok (.tuple #[]) ((w.drew.setCells g (p * 2) (Lt.fl (rs.drop (p+1)))).setCells g ((n - 1) * 2) zLt):=fun ty=>by
  rw [show p+(n - (p+1))=n - 1 by omega,show n - (n - 1)=1 by omega]
  exact run_clearL _ ty g _ _ (fun j hj=>by rw [World.ownsRow.cellAt HD.out _ (by omega),List.getElem?_eq_getElem (by rw [wrs_len,hfl];omega)];rfl) (fun j _=>World.ownsRow.frozenAt HD.out _)
 have HF:Hid (((w.drew.setCells g (p * 2) (Lt.fl (rs.drop (p+1)))).setCells g ((n - 1) * 2) zLt).ownsRow base 65 2 (.slice (some ⟨g,0,none⟩) (n - 1) c) (n - 1) (Lt.fl (rs.eraseIdx p))):=by
  have h:=owns_shrink (m:=n - 1) (stored_all zLt _ ((n - 1) * 2) _ HD.out) (by omega)
  rw [eraseL_cells hn hp] at h
  exact h
 have HL:Hid ((rs.eraseIdx p).length=n - 1):=(show (rs.eraseIdx p).length=n - 1 by rw [List.length_eraseIdx,if_pos (by omega),hn])
 have HBL:Hid (Below base w ((w.drew.setCells g (p * 2) (Lt.fl (rs.drop (p+1)))).setCells g ((n - 1) * 2) zLt)):=below_setCells hgl _ _ _ _ (below_setCells hgl _ _ _ _ (Below.refl _ _).drew)
 have HOT:Hid (∀ k,k≠g→((w.drew.setCells g (p * 2) (Lt.fl (rs.drop (p+1)))).setCells g ((n - 1) * 2) zLt).heap[k]?=w.heap[k]?):=fun k hk=>(setCells_other hk _ _ _).trans (setCells_other hk _ _ _)
 have HPN:Hid (p+(n - (p+1))=n - 1):=(show p+(n - (p+1))=n - 1 by omega)
 clear ho hcell
 go_enter Tryz.func151,Tryz.ntmps151
 go_wp2_with fail
 go_region_law (refine step_append_room rfl (.tmp 22) (.tmp 25) 23 rfl 65 i0 2 Tryz.underlying23 hi0 hz1 g 0 p c (by simp [Act.eval,Act.put]) A (n - (p+1)) (c - (p+1)) (Lt.fl (rs.drop (p+1))) (by simp [Act.eval,Act.put]) S1.out hnews.out S2.out (by omega) S3.out ?_)
 go_wp2_with fail
 go_ret
 refine ⟨?_,?_,HBL.out,HOT.out⟩
 ·have hpn:=HPN.out
  simp only [hpn]
  rfl
 ·show World.ownsRow _ _ _ _ _ (rs.eraseIdx p).length _
  rw [HL.out]
  exact HF.out
set_option maxHeartbeats 6400000 in
set_option maxRecDepth 100000 in
theorem lose_any (C g j:Nat) (un ul:Value) (ls:List Lt.Ltr) (v:Ev) (w:World) (h:Plr C w g un ul ls v) (h20:ls.length≤20) (hv:v.which=(j:Int)) (hj:j < ls.length) :
 Calls Tryz.prog 103 #[.pointer (some ⟨g,0,none⟩)] w fun e w'=>e=.returned (.int .i64 0)∧Mv C w w'∧∃ a k c,Plr C w' g un (.slice a k c) (ls.eraseIdx j) v:=by
 obtain ⟨lb,cu,hul⟩:∃ lb cu,ul=.slice (some ⟨lb,0,none⟩) ls.length cu:=by
  rcases h.ls.2 with ⟨_,h0⟩ | ⟨b',c,cur,rfl,_⟩
  ·omega
  ·exact ⟨b',c,rfl⟩
 subst hul
 have hgl:g < w.heap.size:=(Array.getElem?_eq_some_iff.1 h.hg).1
 have y1:w.cell? ⟨g,1,none⟩=some (.slice (some ⟨lb,0,none⟩) ls.length cu):=cellsAt h.hg 1
 have y3:w.cell? ⟨g,3,none⟩=some (.int .i64 (j:Int)):=by rw [← hv];exact cellsAt h.hg 3
 have hne:lb≠g:=fun e=>by
  obtain ⟨_,cs,h2⟩:=row_block h.ls (show (Value.slice (some ⟨lb,0,none⟩) ls.length cu).ownBlock=some g by rw [e];rfl)
  rw [h.hg] at h2
  simp at h2
 have HD:Hid (Calls Tryz.prog 151 #[.slice (some ⟨lb,0,none⟩) ls.length cu,.int .i64 j,.int .i64 (j+1)] w.drew fun e w'=>e=.returned (.slice (some ⟨lb,0,none⟩) (ls.length - 1) cu)∧w'.cell? ⟨g,1,none⟩=some (.slice (some ⟨lb,0,none⟩) ls.length cu)∧w'.frozen? ⟨g,1,none⟩=false∧Hid (Mv C w (w'.setCell ⟨g,1,none⟩ (.slice (some ⟨lb,0,none⟩) (ls.length - 1) cu))∧Plr C (w'.setCell ⟨g,1,none⟩ (.slice (some ⟨lb,0,none⟩) (ls.length - 1) cu)) g un (.slice (some ⟨lb,0,none⟩) (ls.length - 1) cu) (ls.eraseIdx j) v)):=by
  refine (deleteL_any ls ls.length j lb cu C w.drew rfl (World.ownsRow.drew h.ls) hj (by omega)).mono ?_
  rintro e w1 ⟨rfl,ho,hb,hk⟩
  have hg1:w1.heap[g]?=some (.cells (plA un (.slice (some ⟨lb,0,none⟩) ls.length cu) v) 75 (0,0)):=(hk g (Ne.symm hne)).trans h.hg
  exact ⟨rfl,cellsAt hg1 1,by simp [World.frozen?,hg1],Plr.turn h ((Below.refl C w).drew.trans hb) (fun b _ hnb=>hk b (fun e=>hnb (by rw [e];rfl))) ho⟩
 have hw1:IntKind.i64.wrap ((j:Int)+1)=(j:Int)+1:=by rw [IntKind.wrap_i64];omega
 clear h hv hj h20 hne
 generalize ls.length=m at *
 go_enter Tryz.func103,Tryz.ntmps103
 go_wp2_with fail
 go_region_with (first | (go_at_call 151;refine HD.out.mono ?_;rintro e w1 ⟨rfl,z1,zf,HR⟩))
 all_goals
  go_wp2_with fail
  go_ret
  exact ⟨rfl,HR.out.1,_,_,_,HR.out.2⟩
end Go.Proofs.YtffdoiokmiklgaaGreatDoor
