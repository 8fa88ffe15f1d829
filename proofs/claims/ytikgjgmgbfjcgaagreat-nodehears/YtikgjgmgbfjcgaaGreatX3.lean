import Derived.Test.YtikgjgmgbfjcgaaGreatX1
namespace Go.Proofs.YtikgjgmgbfjcgaaGreat
open Go.RowKit
theorem cmpI_self (a:ByteArray):cmpI a a=0:=(cmpI_eq a a).2 rfl
theorem cmpI_flip (a b:ByteArray):0 < cmpI a b↔cmpI b a < 0:=by rw [cmpI_gt,cmpI_lt]
theorem cmpI_trans (a b c:ByteArray) (h1:cmpI a b < 0) (h2:cmpI b c < 0):cmpI a c < 0:=by
 rw [cmpI_lt] at *;exact less_trans h1 h2
namespace RL
section
variable {α:Type}
theorem keyed_txt (f:α→ByteArray):Keyed fun a b=>cmpI (f a) (f b) where
 refl a:=cmpI_self _
 gt a b:=cmpI_flip _ _
 trans a b c h1 h2:=cmpI_trans _ _ _ h1 h2
 left a b c h:=by rw [(cmpI_eq _ _).1 h]
 right a b c h:=by rw [(cmpI_eq _ _).1 h]
def bI (b:Bool):Int:=if b=true then 1 else 0
theorem bI_inj {a b:Bool} (h:bI a - bI b=0):a=b:=by cases a<;>cases b<;>simp [bI] at h ⊢
def lex (o p:α→α→Int) (a b:α):Int:=if o a b=0 then p a b else o a b
theorem keyed_lex {o p:α→α→Int} (h:Keyed o) (k:Keyed p):Keyed (lex o p) where
 refl a:=by rw [lex,if_pos (h.refl a),k.refl a]
 gt a b:=by
  unfold lex
  by_cases e:o a b=0
  ·rw [if_pos e,if_pos (h.symm e)];exact k.gt a b
  ·rw [if_neg e,if_neg (fun e2=>e (h.symm e2))];exact h.gt a b
 trans a b c h1 h2:=by
  unfold lex at *
  by_cases e:o a b=0
  ·rw [if_pos e] at h1
   by_cases e2:o b c=0
   ·rw [if_pos e2] at h2
    rw [if_pos (h.eqt e e2)];exact k.trans _ _ _ h1 h2
   ·rw [if_neg e2] at h2
    rw [if_neg (fun e3=>e2 (h.eqt (h.symm e) e3)),h.left a b c e];exact h2
  ·rw [if_neg e] at h1
   by_cases e2:o b c=0
   ·rw [if_neg (fun e3=>e (h.eqt e3 (h.symm e2))),← h.right b c a e2];exact h1
   ·rw [if_neg e2] at h2
    have h3:=h.trans _ _ _ h1 h2
    rw [if_neg (by omega)];exact h3
 left a b c e:=by
  unfold lex at *
  by_cases e1:o a b=0
  ·rw [if_pos e1] at e
   rw [h.left a b c e1,k.left a b c e]
  ·rw [if_neg e1] at e;exact absurd e e1
 right a b c e:=by
  unfold lex at *
  by_cases e1:o a b=0
  ·rw [if_pos e1] at e
   rw [h.right a b c e1,k.right a b c e]
  ·rw [if_neg e1] at e;exact absurd e e1
theorem lex_zero {o p:α→α→Int} {a b:α} (h:lex o p a b=0):o a b=0∧p a b=0:=by
 unfold lex at h
 by_cases e:o a b=0
 ·rw [if_pos e] at h;exact ⟨e,h⟩
 ·rw [if_neg e] at h;exact absurd h e
end
end RL
theorem Tryz.info37:(Tryz.prog.info? 37).map (fun i=>(i.zero,i.size,i.bytes))=some (some (.agg #[.string ⟨#[]⟩,.int .i64 0,.int .i64 0,.int .i64 0,.bool false]),5,48):=by kernel_rfl
theorem size37:(Tryz.prog.info? 37).map (·.size)=some 5:=by
 obtain ⟨i,hi,h1,h2,h3⟩:=info_parts Tryz.info37
 rw [hi];simp [h2]
theorem sizeOf37 (w:World):(Go.sizeOf 37).run Tryz.prog w=.ok 5 w:=by
 obtain ⟨i,hi,h1,h2,h3⟩:=info_parts Tryz.info37
 simp [Go.sizeOf,typeInfo,hi,h2]
theorem overlaps_run (w:World) (g vb o lb cb:Nat) (cur vs:Array Value) (hg:w.heap[g]?=some (.cells cur 37 (0,0))) (hv:w.heap[vb]?=some (.cells vs 37 (0,0))) (hne:vb≠g) (hk:cur.size≠0) :
 (callFunc 257 #[.slice (some ⟨vb,0,none⟩) 1 1,.slice (some ⟨g,o,none⟩) lb cb]).run Tryz.prog w=.ok (.value (.bool false)) w:=by
 rw [run_callFunc_extern Tryz.func257 (by kernel_rfl) (by kernel_rfl) (by kernel_rfl) (e:=Extern.SlicesOverlaps.overlaps #[22,22] #[4]) (by kernel_rfl),
  Lib.run_overlaps_apart w 22 4 37 Tryz.underlying22 5 sizeOf37 ⟨vb,0,none⟩ ⟨g,o,none⟩ 1 1 lb cb hne 37 37 vs.size cur.size (by simp [World.shape?,hv]) (by simp [World.shape?,hg]) hk (by simp [World.frozen?,hv]) (by simp [World.frozen?,hv])]
 rfl
set_option maxHeartbeats 1000000 in
set_option maxRecDepth 100000 in
theorem insert_room (g n c i vb:Nat) (cur:Array Value) (vs:List Value) (w:World) (hg:w.heap[g]?=some (.cells cur 37 (0,0))) (hcs:cur.size=c * 5) (hi:i < n) (hroom:n+1≤c) (hc63:c≤9223372036854775807)
 (hvb:vb≠g) (hv:w.heap[vb]?=some (.cells vs.toArray 37 (0,0))) (hvl:vs.length=5) (h1c:∀ v∈cur.toList.take (n * 5),v.oneCell'=true) (h1v:∀ v∈vs,v.oneCell'=true) :
 Calls Tryz.prog 247 #[.slice (some ⟨g,0,none⟩) n c,.int .i64 i,.slice (some ⟨vb,0,none⟩) 1 1] w fun e w'=>e=.returned (.slice (some ⟨g,0,none⟩) (n+1) c) ∧
  ∃ cur':Array Value,w'.heap[g]?=some (.cells cur' 37 (0,0))∧cur'.size=c * 5∧cur'.toList.take ((n+1) * 5)=cur.toList.take (i * 5)++vs++(cur.toList.take (n * 5)).drop (i * 5)∧w.grownBy w' (some g):=by
 have hov:=fun o lb cb=>overlaps_run w g vb o lb cb cur vs.toArray hg hv hvb (by omega)
 have hz2:¬ ((i:Int)=(n:Int)):=by omega
 have hb2:¬ (c=i+1):=by omega
 have hb4:¬ (c=i):=by omega
 have hb3:(i:Int)≤(n:Int)+1:=by omega
 have hXl:((cur.toList.take (n * 5)).drop (i * 5)).length=(n - i) * 5:=by
  simp only [List.length_drop,List.length_take,Array.length_toList];omega
 have hX1:∀ v∈(cur.toList.take (n * 5)).drop (i * 5),v.oneCell'=true:=fun v hv=>h1c v (List.mem_of_mem_drop hv)
 have hXs:∀ j v,((cur.toList.take (n * 5)).drop (i * 5))[j]?=some v→w.drew.cell? ((⟨g,i * 5,none⟩:Addr).add j)=some v:=fun j v hj=>by
  have e:w.drew.cell? ((⟨g,i * 5,none⟩:Addr).add j)=cur[i * 5+j]?:=by rw [Addr.add_lit];exact cellsAt hg _
  rw [e]
  rw [List.getElem?_drop,List.getElem?_take] at hj
  split at hj
  ·simpa using hj
  ·cases hj
 generalize hX:(cur.toList.take (n * 5)).drop (i * 5)=X at *
 have hcp1:∀ ty dc sc,(Builtin.copy_ #[22,22] ty #[.slice (some ⟨g,(i+1) * 5,none⟩) (n - i) dc,.slice (some ⟨g,i * 5,none⟩) (n+1 - i) sc]).run Tryz.prog w.drew=.ok (goInt (Nat.min (n+1 - i) (n - i))) (w.drew.setRow g (cur.toList.take ((i+1) * 5)++X++cur.toList.drop ((i+1) * 5+X.length)).toArray):=fun ty dc sc=>
  run_copy_k w.drew 22 22 ty 37 g ((i+1) * 5) (n - i) dc ⟨g,i * 5,none⟩ (n+1 - i) sc 5 cur 37 X Tryz.underlying22 size37 hg (by rw [hXl];congr 1;simp only [Nat.min_def];split<;>omega) hXs (by rw [hXl,hcs];omega) hX1
 obtain ⟨C1,hC1⟩:∃ C1:Array Value,C1=(cur.toList.take ((i+1) * 5)++X++cur.toList.drop ((i+1) * 5+X.length)).toArray:=⟨_,rfl⟩
 obtain ⟨W1,hW1⟩:∃ W1,W1=w.drew.setRow g C1:=⟨_,rfl⟩
 rw [← hC1,← hW1] at hcp1
 have hg1:W1.heap[g]?=some (.cells C1 37 (0,0)):=by rw [hW1];exact setRow_heap w.drew g cur C1 37 (0,0) hg
 have ho1:∀ k,k≠g→W1.heap[k]?=w.heap[k]?:=fun k hk=>by rw [hW1,setRow_other w.drew g k C1 hk];rfl
 have hv1:W1.heap[vb]?=some (.cells vs.toArray 37 (0,0)):=by rw [ho1 vb hvb];exact hv
 have hs1:C1.size=c * 5:=by
  rw [hC1];simp only [List.size_toArray,List.length_append,List.length_take,List.length_drop,Array.length_toList,hXl,hcs];omega
 have hcp2:∀ ty dc,(Builtin.copy_ #[22,22] ty #[.slice (some ⟨g,i * 5,none⟩) (n+1 - i) dc,.slice (some ⟨vb,0,none⟩) 1 1]).run Tryz.prog W1=.ok (goInt (Nat.min 1 (n+1 - i))) (W1.setRow g (C1.toList.take (i * 5)++vs++C1.toList.drop (i * 5+vs.length)).toArray):=fun ty dc=>
  run_copy_k W1 22 22 ty 37 g (i * 5) (n+1 - i) dc ⟨vb,0,none⟩ 1 1 5 C1 37 vs Tryz.underlying22 size37 hg1 (by rw [hvl];simp only [Nat.min_def];split<;>omega) (fun j v hj=>by rw [Addr.add_lit,cellsAt hv1];simpa using hj) (by rw [hvl,hs1];omega) h1v
 obtain ⟨C2,hC2⟩:∃ C2:Array Value,C2=(C1.toList.take (i * 5)++vs++C1.toList.drop (i * 5+vs.length)).toArray:=⟨_,rfl⟩
 obtain ⟨W2,hW2⟩:∃ W2,W2=W1.setRow g C2:=⟨_,rfl⟩
 rw [← hC2,← hW2] at hcp2
 have hg2:W2.heap[g]?=some (.cells C2 37 (0,0)):=by rw [hW2];exact setRow_heap W1 g C1 C2 37 (0,0) hg1
 have hgr:w.grownBy W2 (some g):=⟨by rw [hW2,hW1];rfl,by rw [hW2,hW1];rfl,by rw [hW2,hW1];rfl,by rw [hW2,hW1];simp [World.setRow],fun k _ hk=>by
  have hk':k≠g:=fun e=>hk (by rw [e])
  rw [hW2,setRow_other W1 g k C2 hk',ho1 k hk']⟩
 have hs2:C2.size=c * 5:=by
  rw [hC2];simp only [List.size_toArray,List.length_append,List.length_take,List.length_drop,Array.length_toList,hvl,hs1];omega
 have hl2:C2.toList.take ((n+1) * 5)=cur.toList.take (i * 5)++vs++X:=by
  have e1:C1.toList.take (i * 5)=cur.toList.take (i * 5):=by
   rw [hC1]
   simp only [List.append_assoc]
   rw [List.take_append_of_le_length (by simp only [List.length_take,Array.length_toList,hcs];omega),List.take_take]
   congr 1;omega
  have e2:C1.toList.drop (i * 5+vs.length)=X++cur.toList.drop ((i+1) * 5+X.length):=by
   rw [hC1]
   simp only [List.append_assoc]
   rw [List.drop_append_of_le_length (by simp only [List.length_take,Array.length_toList,hcs];omega),List.drop_of_length_le (by simp only [List.length_take,Array.length_toList,hcs];omega),List.nil_append]
  rw [hC2,e1,e2]
  simp only [List.append_assoc]
  rw [← List.append_assoc vs,← List.append_assoc (List.take (i * 5) cur.toList)]
  exact List.take_left' (by simp only [List.length_append,List.length_take,Array.length_toList,hcs,hvl,hXl];omega)
 clear hW1 hW2 hC1 hC2 ho1 hXs hX1 h1c h1v hX hXl
 have HF:Hid (∃ cur':Array Value,W2.heap[g]?=some (.cells cur' 37 (0,0))∧cur'.size=c * 5∧cur'.toList.take ((n+1) * 5)=cur.toList.take (i * 5)++vs++X∧w.grownBy W2 (some g)):=⟨C2,hg2,hs2,by rw [hl2],hgr⟩
 clear hg2 hs2 hl2 hgr hg1 hv1 hs1 hg hv
 have hw1:IntKind.i64.wrap ((i:Int)+1)=(i:Int)+1:=by rw [IntKind.wrap_i64];omega
 have hb1:(0:Int)≤(i:Int)+1:=by omega
 have hin:i≤n:=by omega
 have htn:((i:Int)+1).toNat=i+1:=by omega
 go_enter Tryz.func247,Tryz.ntmps247
 go_wp2_with (simp only [hov])
 go_region_law (refine step_copy_runM rfl _ _ 22 22 rfl _ _ (by simp [Act.eval,Act.put]) (by simp [Act.eval,Act.put]) (hcp1 _ _ _) ?_)
 go_wp2_with fail
 go_ret
 exact ⟨rfl,HF.out⟩
set_option maxHeartbeats 1000000 in
set_option maxRecDepth 100000 in
theorem insert_grow (g n c i vb:Nat) (cur:Array Value) (vs:List Value) (w:World) (hg:w.heap[g]?=some (.cells cur 37 (0,0))) (hcs:cur.size=c * 5) (hi:i < n) (hnc:n≤c) (hroom:c < n+1) (hc63:n≤1000)
 (hv:w.heap[vb]?=some (.cells vs.toArray 37 (0,0))) (hvl:vs.length=5) (h1c:∀ v∈cur.toList.take (n * 5),v.oneCell'=true) (h1v:∀ v∈vs,v.oneCell'=true) :
 Calls Tryz.prog 247 #[.slice (some ⟨g,0,none⟩) n c,.int .i64 i,.slice (some ⟨vb,0,none⟩) 1 1] w fun e w'=>∃ G,e=.returned (.slice (some ⟨w.heap.size,0,none⟩) (n+1) G)∧n+1≤G∧G≤maxLen ∧
  ∃ cur':Array Value,w'.heap[w.heap.size]?=some (.cells cur' 37 (0,0))∧cur'.size=G * 5∧cur'.toList.take ((n+1) * 5)=cur.toList.take (i * 5)++vs++(cur.toList.take (n * 5)).drop (i * 5)∧w.grownBy w' none:=by
 obtain ⟨i0,hi0,hz0,hzs,hzb⟩:=info_parts Tryz.info37
 have hcn:c=n:=by omega
 subst hcn
 have hgw:g < w.heap.size:=(Array.getElem?_eq_some_iff.1 hg).1
 have hvw:vb < w.heap.size:=(Array.getElem?_eq_some_iff.1 hv).1
 have hz2:¬ ((i:Int)=(c:Int)):=by omega
 have hz3:(c:Int) < (c:Int)+1:=by omega
 have hkk:(c:Int)+1 - (i:Int)=((c+1 - i:Nat):Int):=by omega
 have hik:i+(c+1 - i)=c+1:=by omega
 have hold:(Builtin.firstCells i0.size i (.slice (some ⟨g,0,none⟩) i c)).run Tryz.prog w.drew=.ok (cur.toList.take (i * 5)).toArray w.drew:=by
  rw [hzs]
  exact run_firstCells_some w.drew 5 i ⟨g,0,none⟩ i c (cur.toList.take (i * 5)) (by rw [List.length_take,Array.length_toList];omega) (fun j v hj=>by
   have e:w.drew.cell? ((⟨g,0,none⟩:Addr).add j)=cur[j]?:=by rw [Addr.add_lit,Nat.zero_add];exact cellsAt hg _
   rw [e]
   rw [List.getElem?_take] at hj
   split at hj
   ·simpa using hj
   ·cases hj)
 have hrz:∀ ty,∃ G ROW,c+1≤G∧G≤maxLen∧ROW.size=G * 5∧ROW.toList.take (i * 5)=cur.toList.take (i * 5)∧(Builtin.append_ #[22,3] ty #[.slice (some ⟨g,0,none⟩) i c,.int .i64 ((c:Int)+1 - (i:Int))]).run Tryz.prog w =
  .ok (.slice (some ⟨w.heap.size,0,none⟩) (c+1) G) (w.drew.alloc (.cells ROW 37)):=fun ty=>by
  have h:=Lib.run_append_grow_zeros w 22 3 ty 37 i0 _ .i64 .i64 Tryz.underlying22 Tryz.underlying3 hi0 hz0 (some ⟨g,0,none⟩) i c (cur.toList.take (i * 5)) hold (c+1 - i) (by omega) (by omega) (by omega) (by omega) (by rw [hzb];omega) (by rw [hzb,hik];exact growslice_fits hroom (by omega))
  rw [hik] at h
  rw [hkk]
  have h1:=grownCap_ge w (c+1) c 37
  refine ⟨_,_,h1,grownCap_le_maxLen w (c+1) c 37 (by unfold maxLen;omega),?_,?_,h⟩
  ·simp only [Array.size_append,List.size_toArray,size_zeroCells,List.length_take,Array.length_toList,hcs,Value.cells]
   simp
   omega
  ·simp only [Array.toList_append,List.append_assoc]
   exact List.take_left' (by simp only [List.length_take,Array.length_toList,hcs];omega)
 obtain ⟨G,ROW,hG1,hG2,hRs,hRt,hrz⟩:=hrz 22
 have hG63:G≤9223372036854775807:=by unfold maxLen at hG2;omega
 obtain ⟨W1,hW1⟩:∃ W1,W1=(w.alloc (.cells ROW 37)).drew:=⟨_,rfl⟩
 have hwd:w.drew.alloc (.cells ROW 37)=W1:=by rw [hW1];rfl
 rw [hwd] at hrz
 have hg1:W1.heap[w.heap.size]?=some (.cells ROW 37 (0,0)):=by rw [hW1];exact heap_alloc_new w _
 have ho1:∀ k,k < w.heap.size→W1.heap[k]?=w.heap[k]?:=fun k hk=>by rw [hW1];exact Below.heap_alloc w _ k hk
 have hv1:W1.heap[vb]?=some (.cells vs.toArray 37 (0,0)):=by rw [ho1 vb hvw];exact hv
 have hcp1:∀ ty dc,(Builtin.copy_ #[22,22] ty #[.slice (some ⟨w.heap.size,i * 5,none⟩) (c+1 - i) dc,.slice (some ⟨vb,0,none⟩) 1 1]).run Tryz.prog W1=.ok (goInt (Nat.min 1 (c+1 - i))) (W1.setRow w.heap.size (ROW.toList.take (i * 5)++vs++ROW.toList.drop (i * 5+vs.length)).toArray):=fun ty dc=>
  run_copy_k W1 22 22 ty 37 w.heap.size (i * 5) (c+1 - i) dc ⟨vb,0,none⟩ 1 1 5 ROW 37 vs Tryz.underlying22 size37 hg1 (by rw [hvl];simp only [Nat.min_def];split<;>omega) (fun j v hj=>by rw [Addr.add_lit,cellsAt hv1];simpa using hj) (by rw [hvl,hRs];omega) h1v
 obtain ⟨C1,hC1⟩:∃ C1:Array Value,C1=(ROW.toList.take (i * 5)++vs++ROW.toList.drop (i * 5+vs.length)).toArray:=⟨_,rfl⟩
 obtain ⟨W2,hW2⟩:∃ W2,W2=W1.setRow w.heap.size C1:=⟨_,rfl⟩
 rw [← hC1,← hW2] at hcp1
 have hg2:W2.drew.heap[w.heap.size]?=some (.cells C1 37 (0,0)):=by rw [hW2];exact setRow_heap W1 w.heap.size ROW C1 37 (0,0) hg1
 have ho2:∀ k,k < w.heap.size→W2.drew.heap[k]?=w.heap[k]?:=fun k hk=>by
  have:=setRow_other W1 w.heap.size k C1 (by omega)
  rw [← hW2] at this
  exact this.trans (ho1 k hk)
 have hs1:C1.size=G * 5:=by
  rw [hC1];simp only [List.size_toArray,List.length_append,List.length_take,List.length_drop,Array.length_toList,hvl,hRs];omega
 have hXl:((cur.toList.take (c * 5)).drop (i * 5)).length=(c - i) * 5:=by
  simp only [List.length_drop,List.length_take,Array.length_toList];omega
 have hX1:∀ v∈(cur.toList.take (c * 5)).drop (i * 5),v.oneCell'=true:=fun v hv=>h1c v (List.mem_of_mem_drop hv)
 have hXs:∀ j v,((cur.toList.take (c * 5)).drop (i * 5))[j]?=some v→W2.drew.cell? ((⟨g,i * 5,none⟩:Addr).add j)=some v:=fun j v hj=>by
  have e:W2.drew.cell? ((⟨g,i * 5,none⟩:Addr).add j)=cur[i * 5+j]?:=by rw [Addr.add_lit];exact cellsAt ((ho2 g hgw).trans hg) _
  rw [e]
  rw [List.getElem?_drop,List.getElem?_take] at hj
  split at hj
  ·simpa using hj
  ·cases hj
 generalize hX:(cur.toList.take (c * 5)).drop (i * 5)=X at *
 have hcp2:∀ ty dc sc,(Builtin.copy_ #[22,22] ty #[.slice (some ⟨w.heap.size,(i+1) * 5,none⟩) (c - i) dc,.slice (some ⟨g,i * 5,none⟩) (c - i) sc]).run Tryz.prog W2.drew=.ok (goInt (Nat.min (c - i) (c - i))) (W2.drew.setRow w.heap.size (C1.toList.take ((i+1) * 5)++X++C1.toList.drop ((i+1) * 5+X.length)).toArray):=fun ty dc sc=>
  run_copy_k W2.drew 22 22 ty 37 w.heap.size ((i+1) * 5) (c - i) dc ⟨g,i * 5,none⟩ (c - i) sc 5 C1 37 X Tryz.underlying22 size37 hg2 (by rw [hXl];congr 1;simp only [Nat.min_def];split<;>omega) hXs (by rw [hXl,hs1];omega) hX1
 obtain ⟨C2,hC2⟩:∃ C2:Array Value,C2=(C1.toList.take ((i+1) * 5)++X++C1.toList.drop ((i+1) * 5+X.length)).toArray:=⟨_,rfl⟩
 obtain ⟨W3,hW3⟩:∃ W3,W3=W2.drew.setRow w.heap.size C2:=⟨_,rfl⟩
 rw [← hC2,← hW3] at hcp2
 have hg3:W3.heap[w.heap.size]?=some (.cells C2 37 (0,0)):=by rw [hW3];exact setRow_heap W2.drew w.heap.size C1 C2 37 (0,0) hg2
 have hgr:w.grownBy W3 none:=⟨by rw [hW3,hW2,hW1];rfl,by rw [hW3,hW2,hW1];rfl,by rw [hW3,hW2,hW1];rfl,by rw [hW3,hW2,hW1];simp [World.setRow],fun k hk _=>by
  rw [hW3,setRow_other W2.drew w.heap.size k C2 (by omega),ho2 k hk]⟩
 have hs2:C2.size=G * 5:=by
  rw [hC2];simp only [List.size_toArray,List.length_append,List.length_take,List.length_drop,Array.length_toList,hXl,hs1];omega
 have hl2:C2.toList.take ((c+1) * 5)=cur.toList.take (i * 5)++vs++X:=by
  have e1:C1.toList.take ((i+1) * 5)=cur.toList.take (i * 5)++vs:=by
   rw [hC1,hRt]
   exact List.take_left' (by simp only [List.length_append,List.length_take,Array.length_toList,hcs,hvl];omega)
  rw [hC2,e1]
  exact List.take_left' (by simp only [List.length_append,List.length_take,Array.length_toList,hcs,hvl,hXl];omega)
 have HF:Hid (∃ cur':Array Value,W3.heap[w.heap.size]?=some (.cells cur' 37 (0,0))∧cur'.size=G * 5∧cur'.toList.take ((c+1) * 5)=cur.toList.take (i * 5)++vs++X∧w.grownBy W3 none):=⟨C2,hg3,hs2,hl2,hgr⟩
 have hw1:IntKind.i64.wrap ((i:Int)+1)=(i:Int)+1:=by rw [IntKind.wrap_i64];omega
 have hb1:(0:Int)≤(i:Int)+1:=by omega
 have hin:i≤c:=by omega
 have htn:((i:Int)+1).toNat=i+1:=by omega
 have hGi:¬ (G=i):=by omega
 have hGim:¬ (G=i+1):=by omega
 have hci:¬ (c=i):=by omega
 clear hW1 hW2 hW3 hC1 hC2 ho1 ho2 hXs hX1 h1c h1v hX hXl hg1 hg2 hg3 hgr hs1 hs2 hl2 hv1 hwd hRs hRt hkk hik hold hg hv hi0 hz0 hzs hzb
 go_enter Tryz.func247,Tryz.ntmps247
 go_wp2_with (at_builtin;refine Lib.wpList_append_run _ rfl _ _ _ _ rfl _ _ rfl rfl _ _ hrz ?_)
 go_region_law (refine step_copy_runM rfl _ _ 22 22 rfl _ _ (by simp [Act.eval,Act.put]) (by simp [Act.eval,Act.put]) (hcp2 _ _ _) ?_)
 go_wp2_with fail
 go_ret
 exact ⟨G,rfl,hG1,hG2,HF.out⟩
set_option maxHeartbeats 1000000 in
set_option maxRecDepth 100000 in
theorem insert_end (base n vb:Nat) (v:Value) (xs vs:List Value) (w:World) (hown:w.ownsRow base 37 5 v n xs) (hn:n≤1000) (hbase:base≤w.heap.size)
 (hv:w.heap[vb]?=some (.cells vs.toArray 37 (0,0))) (hvl:vs.length=5) (h1v:∀ v∈vs,v.oneCell'=true) :
 Calls Tryz.prog 247 #[v,.int .i64 n,.slice (some ⟨vb,0,none⟩) 1 1] w fun e w'=>∃ v',e=.returned v'∧w'.ownsRow base 37 5 v' (n+1) (xs++vs)∧w.grownBy w' v.ownBlock:=by
 obtain ⟨i0,hi0,hz0,hzs,hzb⟩:=info_parts Tryz.info37
 have hnews:∀ j u,vs[j]?=some u→w.cell? ((⟨vb,0,none⟩:Addr).add j)=some u:=fun j v hj=>by rw [Addr.add_lit,cellsAt hv];simpa using hj
 have HO:=hown
 rcases hown.2 with ⟨rfl,rfl⟩ | ⟨g,c,cur,rfl,hbg,hg,hnc,hcm,hcs,htake⟩
 ·have HO':Hid (w.ownsRow base 37 5 (.slice none 0 0) 0 xs):=HO
  clear hown HO hn
  go_enter Tryz.func247,Tryz.ntmps247
  go_wp2_with (at_builtin;refine wpList_append_own _ rfl _ _ 22 rfl base 37 i0 _ 5 48 Tryz.underlying22 hi0 hz0 hzs hzb rfl (by omega) _ 0 xs rfl HO'.out ⟨vb,0,none⟩ 1 1 vs rfl (by omega) hnews h1v (by unfold maxLen;omega) (by omega) hbase ?_)
  intro v' w' r1 r2 r3
  go_wp2_with fail
  go_ret
  exact ⟨v',rfl,r1,r2⟩
 ·have HO':Hid (w.ownsRow base 37 5 (.slice (some ⟨g,0,none⟩) n c) n xs):=HO
  clear hown HO hg htake hcs
  unfold maxLen at hcm
  by_cases hcn:c=n
  ·subst hcn
   go_enter Tryz.func247,Tryz.ntmps247
   go_wp2_with (at_builtin;refine wpList_append_own _ rfl _ _ 22 rfl base 37 i0 _ 5 48 Tryz.underlying22 hi0 hz0 hzs hzb rfl (by omega) _ c xs rfl HO'.out ⟨vb,0,none⟩ 1 1 vs rfl (by omega) hnews h1v (by unfold maxLen;omega) (by omega) hbase ?_)
   intro v' w' r1 r2 r3
   go_wp2_with fail
   go_ret
   exact ⟨v',rfl,r1,r2⟩
  ·go_enter Tryz.func247,Tryz.ntmps247
   go_wp2_with (at_builtin;refine wpList_append_own _ rfl _ _ 22 rfl base 37 i0 _ 5 48 Tryz.underlying22 hi0 hz0 hzs hzb rfl (by omega) _ n xs rfl HO'.out ⟨vb,0,none⟩ 1 1 vs rfl (by omega) hnews h1v (by unfold maxLen;omega) (by omega) hbase ?_)
   intro v' w' r1 r2 r3
   go_wp2_with fail
   go_ret
   exact ⟨v',rfl,r1,r2⟩
theorem insert_any (base i vb:Nat) (v:Value) (ms:List Mem) (m:Mem) (w:World) (hown:Own base w v ms) (hi:i≤ms.length) (hn:ms.length≤1000) (hbase:base≤w.heap.size)
 (hv:w.heap[vb]?=some (.cells m.cs.toArray 37 (0,0))) (hne:v.ownBlock≠some vb) :
 Calls Tryz.prog 247 #[v,.int .i64 i,.slice (some ⟨vb,0,none⟩) 1 1] w fun e w'=>∃ v',e=.returned v'∧Own base w' v' (ms.take i++m :: ms.drop i)∧w.grownBy w' v.ownBlock:=by
 have hlen:(ms.take i++m :: ms.drop i).length=ms.length+1:=by simp;omega
 have hfl:fl (ms.take i++m :: ms.drop i)=(fl ms).take (i * 5)++m.cs++(fl ms).drop (i * 5):=by rw [fl_append,fl_cons,fl_take,fl_drop,List.append_assoc]
 by_cases hin:i=ms.length
 ·subst hin
  refine (insert_end base ms.length vb v (fl ms) m.cs w hown hn hbase hv rfl (cs_one m)).mono ?_
  rintro e w' ⟨v',rfl,h1,h2⟩
  refine ⟨v',rfl,?_,h2⟩
  have e1:ms.take ms.length++m :: ms.drop ms.length=ms++[m]:=by simp
  have e2:fl (ms++[m])=fl ms++m.cs:=by rw [fl_append,fl_cons];simp [fl]
  rw [e1]
  show w'.ownsRow base 37 5 v' (ms++[m]).length (fl (ms++[m]))
  rw [e2,show (ms++[m]).length=ms.length+1 by simp]
  exact h1
 ·rcases hown.2 with ⟨_,h0⟩ | ⟨g,c,cur,rfl,hbg,hg,hnc,hcm,hcs,htake⟩
  ·omega
  ·have hvb:vb≠g:=fun e=>hne (by simp [Value.ownBlock,e])
   have h1c:∀ v∈cur.toList.take (ms.length * 5),v.oneCell'=true:=by rw [htake];exact fl_one ms
   have hti:cur.toList.take (i * 5)=(fl ms).take (i * 5):=by rw [← htake,List.take_take];congr 1;omega
   have key:∀ l:List Value,l=cur.toList.take (i * 5)++m.cs++(cur.toList.take (ms.length * 5)).drop (i * 5)→l=fl (ms.take i++m :: ms.drop i):=fun l hl=>by rw [hl,hfl,htake,hti]
   by_cases hroom:ms.length+1≤c
   ·refine (insert_room g ms.length c i vb cur m.cs w hg hcs (by omega) hroom (by unfold maxLen at hcm;omega) hvb hv rfl h1c (cs_one m)).mono ?_
    rintro e w' ⟨rfl,cur',h1,h2,h3,h4⟩
    refine ⟨_,rfl,?_,h4⟩
    rw [← hlen]
    exact own_of hbg h1 h2 (by omega) hcm (key _ (by rw [hlen];exact h3))
   ·refine (insert_grow g ms.length c i vb cur m.cs w hg hcs (by omega) hnc (by omega) hn hv rfl h1c (cs_one m)).mono ?_
    rintro e w' ⟨G,rfl,hG1,hG2,cur',h1,h2,h3,h4⟩
    refine ⟨_,rfl,?_,grown_any h4 _⟩
    rw [← hlen]
    exact own_of hbase h1 h2 (by omega) hG2 (key _ (by rw [hlen];exact h3))
def oneE (nm:ByteArray) (st lf ad:Int):Int:=
 if labB nm=true then (if within st 1 4=true then (if within lf 1 1000000=true then (if within ad 0 4294967295=true then 0 else 3) else 3) else 7) else 1
def newB (sa la aa:Int) (va:Bool) (sb lb ab:Int) (vb:Bool):Bool:=
 if la=lb then (if sa=sb then (if aa=ab then (va && !vb) else decide (ab < aa)) else decide (sb < sa)) else decide (lb < la)
set_option maxHeartbeats 800000 in
theorem checkOne_any (nm:ByteArray) (st lf ad:Int) (sv:Bool) (w:World) (hs:nm.size≤maxLen) :
 Calls Tryz.prog 140 #[.agg #[.string nm,.int .i64 st,.int .i64 lf,.int .i64 ad,.bool sv]] w fun e w'=>e=.returned (.int .i64 (oneE nm st lf ad))∧w'=w.alloc (.cells #[.string nm,.int .i64 st,.int .i64 lf,.int .i64 ad,.bool sv] 37):=by
 rcases h1:labB nm with _ | _
 ·go_enter Tryz.func140,Tryz.ntmps140
  go_wp2_with (go_at_call 96;refine (label_any _ _ hs).mono ?_;rintro e w' ⟨rfl,rfl⟩;rw [h1])
  go_ret
  exact ⟨ret_int (by simp [oneE,h1]),rfl⟩
 ·rcases h2:within st 1 4 with _ | _
  ·go_enter Tryz.func140,Tryz.ntmps140
   go_wp2_with (first | (go_at_call 96;refine (label_any _ _ hs).mono ?_;rintro e w' ⟨rfl,rfl⟩;rw [h1]) | (go_at_call 97;refine (within_any _ _ _ _).mono ?_;rintro e w' ⟨rfl,rfl⟩;rw [h2]))
   go_ret
   exact ⟨ret_int (by simp [oneE,h1,h2]),rfl⟩
  ·rcases h3:within lf 1 1000000 with _ | _
   ·go_enter Tryz.func140,Tryz.ntmps140
    go_wp2_with (first | (go_at_call 96;refine (label_any _ _ hs).mono ?_;rintro e w' ⟨rfl,rfl⟩;rw [h1]) | (go_at_call 97;refine (within_any _ _ _ _).mono ?_;rintro e w' ⟨rfl,rfl⟩;first | rw [h2] | rw [h3]))
    go_ret
    exact ⟨ret_int (by simp [oneE,h1,h2,h3]),rfl⟩
   ·rcases h4:within ad 0 4294967295 with _ | _
    all_goals
     go_enter Tryz.func140,Tryz.ntmps140
     go_wp2_with (first | (go_at_call 96;refine (label_any _ _ hs).mono ?_;rintro e w' ⟨rfl,rfl⟩;rw [h1]) | (go_at_call 97;refine (within_any _ _ _ _).mono ?_;rintro e w' ⟨rfl,rfl⟩;first | rw [h2] | rw [h3]) | (go_at_call 42;refine (address_any _ _).mono ?_;rintro e w' ⟨rfl,rfl⟩;rw [h4]))
     go_ret
     exact ⟨ret_int (by simp [oneE,h1,h2,h3,h4]),rfl⟩
set_option maxHeartbeats 800000 in
theorem oneMember_any (nm:ByteArray) (st lf ad:Int) (sv:Bool) (w:World) (hs:nm.size≤maxLen) :
 Calls Tryz.prog 107 #[.agg #[.string nm,.int .i64 st,.int .i64 lf,.int .i64 ad,.bool sv]] w fun e w'=>e=.returned (.int .i64 (oneE nm st lf ad))∧w'=w.alloc (.cells #[.string nm,.int .i64 st,.int .i64 lf,.int .i64 ad,.bool sv] 37):=by
 rcases h1:labB nm with _ | _
 ·go_enter Tryz.func107,Tryz.ntmps107
  go_wp2_with (go_at_call 13;refine (isLabel_any _ _ hs).mono ?_;rintro e w' ⟨rfl,rfl⟩;rw [h1])
  go_ret
  exact ⟨ret_int (by simp [oneE,h1]),rfl⟩
 ·rcases h2:within st 1 4 with _ | _
  ·go_enter Tryz.func107,Tryz.ntmps107
   go_wp2_with (first | (go_at_call 13;refine (isLabel_any _ _ hs).mono ?_;rintro e w' ⟨rfl,rfl⟩;rw [h1]) | (go_at_call 43;refine (between_any _ _ _ _).mono ?_;rintro e w' ⟨rfl,rfl⟩;rw [h2]))
   go_ret
   exact ⟨ret_int (by simp [oneE,h1,h2]),rfl⟩
  ·rcases h3:within lf 1 1000000 with _ | _
   ·go_enter Tryz.func107,Tryz.ntmps107
    go_wp2_with (first | (go_at_call 13;refine (isLabel_any _ _ hs).mono ?_;rintro e w' ⟨rfl,rfl⟩;rw [h1]) | (go_at_call 43;refine (between_any _ _ _ _).mono ?_;rintro e w' ⟨rfl,rfl⟩;first | rw [h2] | rw [h3]))
    go_ret
    exact ⟨ret_int (by simp [oneE,h1,h2,h3]),rfl⟩
   ·rcases h4:within ad 0 4294967295 with _ | _
    all_goals
     go_enter Tryz.func107,Tryz.ntmps107
     go_wp2_with (first | (go_at_call 13;refine (isLabel_any _ _ hs).mono ?_;rintro e w' ⟨rfl,rfl⟩;rw [h1]) | (go_at_call 43;refine (between_any _ _ _ _).mono ?_;rintro e w' ⟨rfl,rfl⟩;first | rw [h2] | rw [h3]) | (go_at_call 14;refine (isAddress_any _ _).mono ?_;rintro e w' ⟨rfl,rfl⟩;rw [h4]))
     go_ret
     exact ⟨ret_int (by simp [oneE,h1,h2,h3,h4]),rfl⟩
set_option maxHeartbeats 800000 in
theorem newer_any (na nb:ByteArray) (sa la aa:Int) (va:Bool) (sb lb ab:Int) (vb:Bool) (w:World) :
 Calls Tryz.prog 189 #[.agg #[.string na,.int .i64 sa,.int .i64 la,.int .i64 aa,.bool va],.agg #[.string nb,.int .i64 sb,.int .i64 lb,.int .i64 ab,.bool vb]] w fun e w'=>e=.returned (.bool (newB sa la aa va sb lb ab vb))∧w'=(w.alloc (.cells #[.string na,.int .i64 sa,.int .i64 la,.int .i64 aa,.bool va] 37)).alloc (.cells #[.string nb,.int .i64 sb,.int .i64 lb,.int .i64 ab,.bool vb] 37):=by
 by_cases h1:la=lb
 ·subst h1
  by_cases h2:sa=sb
  ·subst h2
   by_cases h3:aa=ab
   ·subst h3
    cases va
    all_goals
     go_enter Tryz.func189,Tryz.ntmps189
     go_wp2
     go_ret
     exact ⟨ret_bool (by simp [newB]),rfl⟩
   ·have h3':(aa != ab)=true:=by simpa using h3
    go_enter Tryz.func189,Tryz.ntmps189
    go_wp2
    go_ret
    exact ⟨ret_bool (by simp [newB,h3]),rfl⟩
  ·have h2':(sa != sb)=true:=by simpa using h2
   go_enter Tryz.func189,Tryz.ntmps189
   go_wp2
   go_ret
   exact ⟨ret_bool (by simp [newB,h2]),rfl⟩
 ·have h1':(la != lb)=true:=by simpa using h1
  go_enter Tryz.func189,Tryz.ntmps189
  go_wp2
  go_ret
  exact ⟨ret_bool (by simp [newB,h1]),rfl⟩
set_option maxHeartbeats 800000 in
theorem newerMember_any (na nb:ByteArray) (sa la aa:Int) (va:Bool) (sb lb ab:Int) (vb:Bool) (w:World) :
 Calls Tryz.prog 53 #[.agg #[.string na,.int .i64 sa,.int .i64 la,.int .i64 aa,.bool va],.agg #[.string nb,.int .i64 sb,.int .i64 lb,.int .i64 ab,.bool vb]] w fun e w'=>e=.returned (.bool (newB sa la aa va sb lb ab vb))∧w'=(w.alloc (.cells #[.string na,.int .i64 sa,.int .i64 la,.int .i64 aa,.bool va] 37)).alloc (.cells #[.string nb,.int .i64 sb,.int .i64 lb,.int .i64 ab,.bool vb] 37):=by
 by_cases h1:la=lb
 ·subst h1
  by_cases h2:sa=sb
  ·subst h2
   by_cases h3:aa=ab
   ·subst h3
    cases va
    all_goals
     go_enter Tryz.func53,Tryz.ntmps53
     go_wp2
     go_ret
     exact ⟨ret_bool (by simp [newB]),rfl⟩
   ·have h3':(aa != ab)=true:=by simpa using h3
    go_enter Tryz.func53,Tryz.ntmps53
    go_wp2
    go_ret
    exact ⟨ret_bool (by simp [newB,h3]),rfl⟩
  ·have h2':(sa != sb)=true:=by simpa using h2
   go_enter Tryz.func53,Tryz.ntmps53
   go_wp2
   go_ret
   exact ⟨ret_bool (by simp [newB,h2]),rfl⟩
 ·have h1':(la != lb)=true:=by simpa using h1
  go_enter Tryz.func53,Tryz.ntmps53
  go_wp2
  go_ret
  exact ⟨ret_bool (by simp [newB,h1]),rfl⟩
def Mem.e (m:Mem):Int:=oneE m.name m.state m.life m.addr
def firstE:List Mem→Int
 | []=>0
 | m :: r=>if m.e=0 then firstE r else m.e
theorem firstE_zero:∀ (ms:List Mem),(∀ j,j < ms.length→(ms.getD j dm).e=0)→firstE ms=0
 | [],_=>rfl
 | m :: r,h=>by
   have h0:=h 0 (by simp)
   simp only [List.getD_cons_zero] at h0
   rw [firstE,if_pos h0]
   exact firstE_zero r fun j hj=>by have:=h (j+1) (by simpa using hj);simpa using this
theorem firstE_at:∀ (ms:List Mem) (k:Nat),k < ms.length→(∀ j,j < k→(ms.getD j dm).e=0)→(ms.getD k dm).e≠0→firstE ms=(ms.getD k dm).e
 | [],k,h,_,_=>by simp at h
 | m :: r,0,_,_,hne=>by
   simp only [List.getD_cons_zero] at hne ⊢
   rw [firstE,if_neg hne]
 | m :: r,k+1,h,hz,hne=>by
   have h0:=hz 0 (by omega)
   simp only [List.getD_cons_zero] at h0
   rw [firstE,if_pos h0,List.getD_cons_succ]
   rw [List.getD_cons_succ] at hne
   exact firstE_at r k (by simpa using h) (fun j hj=>by have:=hz (j+1) (by omega);simpa using this) hne
def risesB:List Mem→Bool
 | a :: b :: r=>less a.name b.name && risesB (b :: r)
 | _=>true
theorem rises_all:∀ (ms:List Mem),(∀ j,j+1 < ms.length→less (ms.getD j dm).name (ms.getD (j+1) dm).name=true)→risesB ms=true
 | [],_=>rfl
 | [_],_=>rfl
 | a :: b :: r,h=>by
   have h0:=h 0 (by simp)
   simp only [List.getD_cons_zero,List.getD_cons_succ] at h0
   rw [risesB,h0,Bool.true_and]
   exact rises_all (b :: r) fun j hj=>by have:=h (j+1) (by simpa using hj);simpa using this
theorem rises_get:∀ (ms:List Mem),risesB ms=true→∀ j,j+1 < ms.length→less (ms.getD j dm).name (ms.getD (j+1) dm).name=true
 | [],_,j,h=>by simp at h
 | [_],_,j,h=>by simp at h
 | a :: b :: r,hr,0,_=>by
   rw [risesB,Bool.and_eq_true] at hr
   simpa using hr.1
 | a :: b :: r,hr,j+1,h=>by
   rw [risesB,Bool.and_eq_true] at hr
   have:=rises_get (b :: r) hr.2 j (by simpa using h)
   simpa using this
def chk (ms:List Mem):Int:=if 20 < ms.length then 2 else if firstE ms=0 then (if risesB ms=true then 0 else 4) else firstE ms
theorem chk_e (ms:List Mem) (k:Nat) (hn:ms.length≤20) (hk:k < ms.length) (hz:∀ j,j < k→(ms.getD j dm).e=0) (hne:(ms.getD k dm).e≠0):chk ms=(ms.getD k dm).e:=by
 have h:=firstE_at ms k hk hz hne
 rw [chk,if_neg (by omega),h,if_neg hne]
theorem chk_4 (ms:List Mem) (k:Nat) (hn:ms.length≤20) (hz:∀ j,j < ms.length→(ms.getD j dm).e=0) (hk:k+1 < ms.length) (hl:less (ms.getD k dm).name (ms.getD (k+1) dm).name=false):chk ms=4:=by
 rw [chk,if_neg (by omega),firstE_zero ms hz,if_pos rfl,if_neg]
 intro h
 have:=rises_get ms h k hk
 rw [hl] at this
 cases this
theorem chk_0 (ms:List Mem) (hn:ms.length≤20) (hz:∀ j,j < ms.length→(ms.getD j dm).e=0) (hl:∀ j,j+1 < ms.length→less (ms.getD j dm).name (ms.getD (j+1) dm).name=true):chk ms=0:=by
 rw [chk,if_neg (by omega),firstE_zero ms hz,if_pos rfl,if_pos (rises_all ms hl)]
structure At (ms:List Mem) (t:ByteArray) (p:Nat) (f:Bool):Prop where
 le:p≤ms.length
 lo:∀ j,j < p→cmpI (ms.getD j dm).name t < 0
 hi:∀ j,p≤j→j < ms.length→0≤cmpI (ms.getD j dm).name t
 is:f=true↔p < ms.length∧cmpI (ms.getD p dm).name t=0
def newM (a b:Mem):Bool:=newB a.state a.life a.addr a.server b.state b.life b.addr b.server
def hearL:List Mem→Mem→List Mem
 | [],m=>[m]
 | x :: r,m=>if cmpI x.name m.name < 0 then x :: hearL r m else if cmpI x.name m.name=0 then (if newM m x=true then m :: r else x :: r) else m :: x :: r
abbrev Rise (ms:List Mem):Prop:=ms.Pairwise fun a b=>less a.name b.name=true
theorem rise_of:∀ ms:List Mem,risesB ms=true→Rise ms
 | [],_=>.nil
 | [x],_=>by simp [Rise]
 | a :: b :: r,h=>by
   rw [risesB,Bool.and_eq_true] at h
   have ih:=rise_of (b :: r) h.2
   refine List.pairwise_cons.2 ⟨fun c hc=>?_,ih⟩
   rcases List.mem_cons.1 hc with rfl | hc
   ·exact h.1
   ·exact less_trans h.1 (List.rel_of_pairwise_cons ih hc)
theorem rises_of:∀ ms:List Mem,Rise ms→risesB ms=true
 | [],_=>rfl
 | [x],_=>rfl
 | a :: b :: r,h=>by
   rw [risesB,List.rel_of_pairwise_cons h (by simp),Bool.true_and]
   exact rises_of (b :: r) (List.Pairwise.of_cons h)
theorem rise_mono {ms:List Mem} (h:Rise ms) (t:ByteArray):∀ i j,i≤j→j < ms.length→cmpI (ms.getD j dm).name t < 0→cmpI (ms.getD i dm).name t < 0:=by
 intro i j hij hj hlt
 rcases Nat.lt_or_eq_of_le hij with hlt' | rfl
 ·have hp:=List.pairwise_iff_getElem.1 h i j (by omega) hj hlt'
  rw [cmpI_lt] at hlt ⊢
  have e1:ms.getD i dm=ms[i]:=by simp [List.getD,List.getElem?_eq_getElem (show i < ms.length by omega)]
  have e2:ms.getD j dm=ms[j]:=by simp [List.getD,List.getElem?_eq_getElem hj]
  rw [e1];rw [e2] at hlt
  exact less_trans hp hlt
 ·exact hlt
theorem hearL_at:∀ (ms:List Mem) (m:Mem) (p:Nat) (f:Bool),At ms m.name p f →
 hearL ms m=if f=true then (if newM m (ms.getD p dm)=true then ms.set p m else ms) else ms.take p++m :: ms.drop p
 | [],m,p,f,h=>by
   have hp:p=0:=by have:=h.le;simpa using this
   subst hp
   have hf:f=false:=by
    cases f
    ·rfl
    ·have:=h.is.1 rfl;simp at this
   subst hf
   simp [hearL]
 | x :: r,m,0,f,h=>by
   have h0:=h.hi 0 (Nat.le_refl _) (by simp)
   simp only [List.getD_cons_zero] at h0
   rw [hearL,if_neg (by omega)]
   cases f
   ·have hne:¬ cmpI x.name m.name=0:=fun e=>by have:=h.is.2 ⟨by simp,by simpa using e⟩;cases this
    rw [if_neg hne];simp
   ·have he:=(h.is.1 rfl).2
    simp only [List.getD_cons_zero] at he
    rw [if_pos he]
    simp only [List.getD_cons_zero,List.set_cons_zero,if_pos]
 | x :: r,m,p+1,f,h=>by
   have h0:=h.lo 0 (by omega)
   simp only [List.getD_cons_zero] at h0
   have hr:At r m.name p f:=⟨by have:=h.le;simpa using this,fun j hj=>by have:=h.lo (j+1) (by omega);simpa using this,
    fun j hj hl=>by have:=h.hi (j+1) (by omega) (by simpa using hl);simpa using this,by have:=h.is;simpa using this⟩
   rw [hearL,if_pos h0,hearL_at r m p f hr]
   cases f
   ·simp
   ·simp only [if_pos,List.getD_cons_succ,List.set_cons_succ]
    split<;>rfl
theorem hearL_mem:∀ (ms:List Mem) (m x:Mem),x∈hearL ms m→x=m∨x∈ms
 | [],m,x,h=>by simp [hearL] at h;exact .inl h
 | y :: r,m,x,h=>by
   rw [hearL] at h
   split at h
   ·rcases List.mem_cons.1 h with rfl | h
    ·exact .inr (by simp)
    ·rcases hearL_mem r m x h with h | h
     ·exact .inl h
     ·exact .inr (by simp [h])
   ·split at h
    ·split at h
     ·rcases List.mem_cons.1 h with h | h
      ·exact .inl h
      ·exact .inr (by simp [h])
     ·exact .inr h
    ·rcases List.mem_cons.1 h with h | h
     ·exact .inl h
     ·exact .inr h
theorem hearL_rise:∀ (ms:List Mem) (m:Mem),Rise ms→Rise (hearL ms m)
 | [],m,_=>by simp [hearL]
 | x :: r,m,h=>by
   have hx:=List.pairwise_cons.1 h
   rw [hearL]
   split
   ·rename_i hlt
    refine List.pairwise_cons.2 ⟨fun y hy=>?_,hearL_rise r m hx.2⟩
    rcases hearL_mem r m y hy with rfl | hy
    ·exact (cmpI_lt _ _).1 hlt
    ·exact hx.1 y hy
   ·rename_i hlt
    split
    ·rename_i he
     have hn:x.name=m.name:=(cmpI_eq _ _).1 he
     split
     ·exact List.pairwise_cons.2 ⟨fun y hy=>by rw [← hn];exact hx.1 y hy,hx.2⟩
     ·exact h
    ·rename_i he
     have hg:less m.name x.name=true:=(cmpI_gt _ _).1 (by omega)
     refine List.pairwise_cons.2 ⟨fun y hy=>?_,h⟩
     rcases List.mem_cons.1 hy with rfl | hy
     ·exact hg
     ·exact less_trans hg (hx.1 y hy)
theorem hearL_len:∀ (ms:List Mem) (m:Mem),ms.length≤(hearL ms m).length∧(hearL ms m).length≤ms.length+1
 | [],m=>by simp [hearL]
 | x :: r,m=>by
   have:=hearL_len r m
   rw [hearL]
   split
   ·simp;omega
   ·split
    ·split<;>simp
    ·simp
def joinL (a b:List Mem):List Mem:=b.foldl hearL a
theorem joinL_rise:∀ (b a:List Mem),Rise a→Rise (joinL a b)
 | [],_,h=>h
 | m :: r,a,h=>joinL_rise r (hearL a m) (hearL_rise a m h)
theorem joinL_len:∀ (b a:List Mem),(joinL a b).length≤a.length+b.length
 | [],_=>by simp [joinL]
 | m :: r,a=>by
   have h1:=joinL_len r (hearL a m)
   have h2:=hearL_len a m
   simp only [joinL,List.foldl_cons,List.length_cons] at *
   omega
theorem at_any (ms:List Mem) (hr:Rise ms) (nm:ByteArray):∃ p f,At ms nm p f:=by
 induction ms with
 | nil=>exact ⟨0,false,by simp,fun j h=>by omega,fun j h h2=>by simp at h2,by simp⟩
 | cons x r ih=>
   have hx:=List.pairwise_cons.1 hr
   by_cases hlt:cmpI x.name nm < 0
   ·obtain ⟨p,f,h⟩:=ih hx.2
    refine ⟨p+1,f,by have:=h.le;simpa using this,fun j hj=>?_,fun j hj hl=>?_,by have:=h.is;simpa using this⟩
    ·cases j with
     | zero=>simpa using hlt
     | succ j=>have:=h.lo j (by omega);simpa using this
    ·cases j with
     | zero=>omega
     | succ j=>have:=h.hi j (by omega) (by simpa using hl);simpa using this
   ·refine ⟨0,decide (cmpI x.name nm=0),by simp,fun j hj=>by omega,fun j _ hl=>?_,by simp⟩
    apply Int.not_lt.1
    intro hq
    have:=rise_mono hr nm 0 j (by omega) hl hq
    simp at this
    omega
theorem at_uniq {ms:List Mem} {nm:ByteArray} {p q:Nat} {f e:Bool} (h:At ms nm p f) (k:At ms nm q e):p=q∧f=e:=by
 have hpq:p=q:=by
  rcases Nat.lt_trichotomy p q with hlt | rfl | hlt
  ·have h1:=k.lo p hlt
   have h2:=h.hi p (Nat.le_refl _) (by have:=k.le;omega)
   omega
  ·rfl
  ·have h1:=h.lo q hlt
   have h2:=k.hi q (Nat.le_refl _) (by have:=h.le;omega)
   omega
 subst hpq
 refine ⟨rfl,?_⟩
 rw [Bool.eq_iff_iff,h.is,k.is]
theorem ns_hear {ms:List Mem} {m:Mem} (h:∀ m∈ms,m.name.size≤maxLen) (hm:m.name.size≤maxLen):∀ x∈hearL ms m,x.name.size≤maxLen:=by
 intro x hx
 rcases hearL_mem ms m x hx with rfl | hx
 ·exact hm
 ·exact h x hx
theorem ns_join:∀ (b a:List Mem),(∀ m∈a,m.name.size≤maxLen)→(∀ m∈b,m.name.size≤maxLen)→∀ x∈joinL a b,x.name.size≤maxLen
 | [],_,ha,_=>ha
 | m :: r,a,ha,hb=>ns_join r (hearL a m) (ns_hear ha (hb m (by simp))) (fun x hx=>hb x (by simp [hx]))
theorem joinL_take (a b:List Mem) (j:Nat) (hj:j < b.length):joinL a (b.take (j+1))=hearL (joinL a (b.take j)) (b.getD j dm):=by
 have e:b.getD j dm=b[j]:=by simp [List.getD,List.getElem?_eq_getElem hj]
 rw [e,List.take_succ_eq_append_getElem hj,joinL,List.foldl_append,joinL]
 rfl
theorem hearL_last:∀ (a:List Mem) (m:Mem),(∀ x∈a,less x.name m.name=true)→hearL a m=a++[m]
 | [],_,_=>rfl
 | x :: r,m,h=>by
   rw [hearL,if_pos ((cmpI_lt _ _).2 (h x (by simp))),hearL_last r m (fun y hy=>h y (by simp [hy]))]
   rfl
theorem joinL_app:∀ (b a:List Mem),Rise (a++b)→joinL a b=a++b
 | [],a,_=>by simp [joinL]
 | m :: r,a,h=>by
   have h1:hearL a m=a++[m]:=hearL_last a m fun x hx=>(List.pairwise_append.1 h).2.2 x hx m (by simp)
   have h2:=joinL_app r (a++[m]) (by simpa using h)
   simp only [joinL,List.foldl_cons,h1] at h2 ⊢
   rw [h2];simp
theorem joinL_nil (b:List Mem) (h:Rise b):joinL [] b=b:=joinL_app b [] h
theorem chk_zero {ms:List Mem} (h:chk ms=0):ms.length≤20∧Rise ms∧firstE ms=0:=by
 unfold chk at h
 split at h
 ·omega
 ·split at h
  ·rename_i h1 h2
   split at h
   ·rename_i h3
    exact ⟨by omega,rise_of ms h3,h2⟩
   ·omega
  ·rename_i h1 h2;exact absurd h h2
def chkTwo (a b:List Mem):Int:=if chk a=0 then chk b else chk a
def stg (a b:List Mem) (k:Nat):List Mem:=if k=0 then [] else if k=1 then a else joinL a b
def joinE (a b:List Mem):Int:=if chkTwo a b=0 then (if 20 < (joinL a b).length then 2 else 0) else chkTwo a b
theorem rises_allO (ms:List Mem) (h:∀ j,j+1 < ms.length→cmpI (ms.getD j dm).name (ms.getD (j+1) dm).name < 0):risesB ms=true:=rises_all ms fun j hj=>(cmpI_lt _ _).1 (h j hj)
theorem rises_getO (ms:List Mem) (h:risesB ms=true):∀ j,j+1 < ms.length→cmpI (ms.getD j dm).name (ms.getD (j+1) dm).name < 0:=fun j hj=>(cmpI_lt _ _).2 (rises_get ms h j hj)
theorem chk_r (ms:List Mem) (hn:ms.length≤20) (hz:∀ j,j < ms.length→(ms.getD j dm).e=0):chk ms=if risesB ms=true then 0 else 4:=by
 rw [chk,if_neg (by omega),firstE_zero ms hz,if_pos rfl]
end Go.Proofs.YtikgjgmgbfjcgaaGreat
