import Derived.Test.YtffdoiokmiklgaaGreatDoorX2
namespace Go.Proofs.YtffdoiokmiklgaaGreatDoor
open Go.RowKit
theorem Tryz.info56:(Tryz.prog.info? 56).map (fun i=>(i.zero,i.size,i.bytes))=some (some (.agg #[.string ⟨#[]⟩,.int .i64 0,.int .i64 0,.int .i64 0,.bool false]),5,48):=by kernel_rfl
theorem size56:(Tryz.prog.info? 56).map (·.size)=some 5:=by
 obtain ⟨i,hi,h1,h2,h3⟩:=info_parts Tryz.info56
 rw [hi];simp [h2]
theorem sizeOf56 (w:World):(Go.sizeOf 56).run Tryz.prog w=.ok 5 w:=by
 obtain ⟨i,hi,h1,h2,h3⟩:=info_parts Tryz.info56
 simp [Go.sizeOf,typeInfo,hi,h2]
theorem overlaps_run (w:World) (g vb o lb cb:Nat) (cur vs:Array Value) (hg:w.heap[g]?=some (.cells cur 56 (0,0))) (hv:w.heap[vb]?=some (.cells vs 56 (0,0))) (hne:vb≠g) (hk:cur.size≠0) :
 (callFunc 305 #[.slice (some ⟨vb,0,none⟩) 1 1,.slice (some ⟨g,o,none⟩) lb cb]).run Tryz.prog w=.ok (.value (.bool false)) w:=by
 rw [run_callFunc_extern Tryz.func305 (by kernel_rfl) (by kernel_rfl) (by kernel_rfl) (e:=Extern.SlicesOverlaps.overlaps #[45,45] #[4]) (by kernel_rfl),
  Lib.run_overlaps_apart w 45 4 56 Tryz.underlying45 5 sizeOf56 ⟨vb,0,none⟩ ⟨g,o,none⟩ 1 1 lb cb hne 56 56 vs.size cur.size (by simp [World.shape?,hv]) (by simp [World.shape?,hg]) hk (by simp [World.frozen?,hv]) (by simp [World.frozen?,hv])]
 rfl
set_option maxHeartbeats 1000000 in
set_option maxRecDepth 100000 in
theorem insert_room (g n c i vb:Nat) (cur:Array Value) (vs:List Value) (w:World) (hg:w.heap[g]?=some (.cells cur 56 (0,0))) (hcs:cur.size=c * 5) (hi:i < n) (hroom:n+1≤c) (hc63:c≤9223372036854775807)
 (hvb:vb≠g) (hv:w.heap[vb]?=some (.cells vs.toArray 56 (0,0))) (hvl:vs.length=5) (h1c:∀ v∈cur.toList.take (n * 5),v.oneCell'=true) (h1v:∀ v∈vs,v.oneCell'=true) :
 Calls Tryz.prog 267 #[.slice (some ⟨g,0,none⟩) n c,.int .i64 i,.slice (some ⟨vb,0,none⟩) 1 1] w fun e w'=>e=.returned (.slice (some ⟨g,0,none⟩) (n+1) c) ∧
  ∃ cur':Array Value,w'.heap[g]?=some (.cells cur' 56 (0,0))∧cur'.size=c * 5∧cur'.toList.take ((n+1) * 5)=cur.toList.take (i * 5)++vs++(cur.toList.take (n * 5)).drop (i * 5)∧w.grownBy w' (some g):=by
 have hov:=fun o lb cb=>overlaps_run w g vb o lb cb cur vs.toArray hg hv hvb (by omega)
 have hz2:¬ ((i:Int)=(n:Int)):=by omega
 have hb2:¬ (c=i+1):=by omega
 have hb4:¬ (c=i):=by omega
 have hb3:(i:Int)≤(n:Int)+1:=by omega
 have hXl:((cur.toList.take (n * 5)).drop (i * 5)).length=(n - i) * 5:=by
  simp only [List.length_drop,List.length_take,Array.length_toList];omega
 have hX1:∀ v∈(cur.toList.take (n * 5)).drop (i * 5),v.oneCell'=true:=fun v hv=>h1c v (List.mem_of_mem_drop hv)
 have hXs:∀ j v,((cur.toList.take (n * 5)).drop (i * 5))[j]?=some v→w.drew.cell? ((⟨g,i * 5,none⟩:Addr).add j)=some v:=fun j v hj=>by
  have e:w.drew.cell? ((⟨g,i * 5,none⟩:Addr).add j)=cur[i * 5+j]?:=by rw [Addr.add_lit];exact cellsAt hg _
  rw [e]
  rw [List.getElem?_drop,List.getElem?_take] at hj
  split at hj
  ·simpa using hj
  ·cases hj
 generalize hX:(cur.toList.take (n * 5)).drop (i * 5)=X at *
 have hcp1:∀ ty dc sc,(Builtin.copy_ #[45,45] ty #[.slice (some ⟨g,(i+1) * 5,none⟩) (n - i) dc,.slice (some ⟨g,i * 5,none⟩) (n+1 - i) sc]).run Tryz.prog w.drew=.ok (goInt (Nat.min (n+1 - i) (n - i))) (w.drew.setRow g (cur.toList.take ((i+1) * 5)++X++cur.toList.drop ((i+1) * 5+X.length)).toArray):=fun ty dc sc=>
  run_copy_k w.drew 45 45 ty 56 g ((i+1) * 5) (n - i) dc ⟨g,i * 5,none⟩ (n+1 - i) sc 5 cur 56 X Tryz.underlying45 size56 hg (by rw [hXl];congr 1;simp only [Nat.min_def];split<;>omega) hXs (by rw [hXl,hcs];omega) hX1
 obtain ⟨C1,hC1⟩:∃ C1:Array Value,C1=(cur.toList.take ((i+1) * 5)++X++cur.toList.drop ((i+1) * 5+X.length)).toArray:=⟨_,rfl⟩
 obtain ⟨W1,hW1⟩:∃ W1,W1=w.drew.setRow g C1:=⟨_,rfl⟩
 rw [← hC1,← hW1] at hcp1
 have hg1:W1.heap[g]?=some (.cells C1 56 (0,0)):=by rw [hW1];exact setRow_heap w.drew g cur C1 56 (0,0) hg
 have ho1:∀ k,k≠g→W1.heap[k]?=w.heap[k]?:=fun k hk=>by rw [hW1,setRow_other w.drew g k C1 hk];rfl
 have hv1:W1.heap[vb]?=some (.cells vs.toArray 56 (0,0)):=by rw [ho1 vb hvb];exact hv
 have hs1:C1.size=c * 5:=by
  rw [hC1];simp only [List.size_toArray,List.length_append,List.length_take,List.length_drop,Array.length_toList,hXl,hcs];omega
 have hcp2:∀ ty dc,(Builtin.copy_ #[45,45] ty #[.slice (some ⟨g,i * 5,none⟩) (n+1 - i) dc,.slice (some ⟨vb,0,none⟩) 1 1]).run Tryz.prog W1=.ok (goInt (Nat.min 1 (n+1 - i))) (W1.setRow g (C1.toList.take (i * 5)++vs++C1.toList.drop (i * 5+vs.length)).toArray):=fun ty dc=>
  run_copy_k W1 45 45 ty 56 g (i * 5) (n+1 - i) dc ⟨vb,0,none⟩ 1 1 5 C1 56 vs Tryz.underlying45 size56 hg1 (by rw [hvl];simp only [Nat.min_def];split<;>omega) (fun j v hj=>by rw [Addr.add_lit,cellsAt hv1];simpa using hj) (by rw [hvl,hs1];omega) h1v
 obtain ⟨C2,hC2⟩:∃ C2:Array Value,C2=(C1.toList.take (i * 5)++vs++C1.toList.drop (i * 5+vs.length)).toArray:=⟨_,rfl⟩
 obtain ⟨W2,hW2⟩:∃ W2,W2=W1.setRow g C2:=⟨_,rfl⟩
 rw [← hC2,← hW2] at hcp2
 have hg2:W2.heap[g]?=some (.cells C2 56 (0,0)):=by rw [hW2];exact setRow_heap W1 g C1 C2 56 (0,0) hg1
 have hgr:w.grownBy W2 (some g):=⟨by rw [hW2,hW1];rfl,by rw [hW2,hW1];rfl,by rw [hW2,hW1];rfl,by rw [hW2,hW1];simp [World.setRow],fun k _ hk=>by
  have hk':k≠g:=fun e=>hk (by rw [e])
  rw [hW2,setRow_other W1 g k C2 hk',ho1 k hk']⟩
 have hs2:C2.size=c * 5:=by
  rw [hC2];simp only [List.size_toArray,List.length_append,List.length_take,List.length_drop,Array.length_toList,hvl,hs1];omega
 have hl2:C2.toList.take ((n+1) * 5)=cur.toList.take (i * 5)++vs++X:=by
  have e1:C1.toList.take (i * 5)=cur.toList.take (i * 5):=by
   rw [hC1]
   simp only [List.append_assoc]
   rw [List.take_append_of_le_length (by simp only [List.length_take,Array.length_toList,hcs];omega),List.take_take]
   congr 1;omega
  have e2:C1.toList.drop (i * 5+vs.length)=X++cur.toList.drop ((i+1) * 5+X.length):=by
   rw [hC1]
   simp only [List.append_assoc]
   rw [List.drop_append_of_le_length (by simp only [List.length_take,Array.length_toList,hcs];omega),List.drop_of_length_le (by simp only [List.length_take,Array.length_toList,hcs];omega),List.nil_append]
  rw [hC2,e1,e2]
  simp only [List.append_assoc]
  rw [← List.append_assoc vs,← List.append_assoc (List.take (i * 5) cur.toList)]
  exact List.take_left' (by simp only [List.length_append,List.length_take,Array.length_toList,hcs,hvl,hXl];omega)
 clear hW1 hW2 hC1 hC2 ho1 hXs hX1 h1c h1v hX hXl
 have HF:Hid (∃ cur':Array Value,W2.heap[g]?=some (.cells cur' 56 (0,0))∧cur'.size=c * 5∧cur'.toList.take ((n+1) * 5)=cur.toList.take (i * 5)++vs++X∧w.grownBy W2 (some g)):=⟨C2,hg2,hs2,by rw [hl2],hgr⟩
 clear hg2 hs2 hl2 hgr hg1 hv1 hs1 hg hv
 have hw1:IntKind.i64.wrap ((i:Int)+1)=(i:Int)+1:=by rw [IntKind.wrap_i64];omega
 have hb1:(0:Int)≤(i:Int)+1:=by omega
 have hin:i≤n:=by omega
 have htn:((i:Int)+1).toNat=i+1:=by omega
 go_enter Tryz.func267,Tryz.ntmps267
 go_wp2_with (simp only [hov])
 go_region_law (refine step_copy_runM rfl _ _ 45 45 rfl _ _ (by simp [Act.eval,Act.put]) (by simp [Act.eval,Act.put]) (hcp1 _ _ _) ?_)
 go_wp2_with fail
 go_ret
 exact ⟨rfl,HF.out⟩
set_option maxHeartbeats 1000000 in
set_option maxRecDepth 100000 in
theorem insert_grow (g n c i vb:Nat) (cur:Array Value) (vs:List Value) (w:World) (hg:w.heap[g]?=some (.cells cur 56 (0,0))) (hcs:cur.size=c * 5) (hi:i < n) (hnc:n≤c) (hroom:c < n+1) (hc63:n≤1000)
 (hv:w.heap[vb]?=some (.cells vs.toArray 56 (0,0))) (hvl:vs.length=5) (h1c:∀ v∈cur.toList.take (n * 5),v.oneCell'=true) (h1v:∀ v∈vs,v.oneCell'=true) :
 Calls Tryz.prog 267 #[.slice (some ⟨g,0,none⟩) n c,.int .i64 i,.slice (some ⟨vb,0,none⟩) 1 1] w fun e w'=>∃ G,e=.returned (.slice (some ⟨w.heap.size,0,none⟩) (n+1) G)∧n+1≤G∧G≤maxLen ∧
  ∃ cur':Array Value,w'.heap[w.heap.size]?=some (.cells cur' 56 (0,0))∧cur'.size=G * 5∧cur'.toList.take ((n+1) * 5)=cur.toList.take (i * 5)++vs++(cur.toList.take (n * 5)).drop (i * 5)∧w.grownBy w' none:=by
 obtain ⟨i0,hi0,hz0,hzs,hzb⟩:=info_parts Tryz.info56
 have hcn:c=n:=by omega
 subst hcn
 have hgw:g < w.heap.size:=(Array.getElem?_eq_some_iff.1 hg).1
 have hvw:vb < w.heap.size:=(Array.getElem?_eq_some_iff.1 hv).1
 have hz2:¬ ((i:Int)=(c:Int)):=by omega
 have hz3:(c:Int) < (c:Int)+1:=by omega
 have hkk:(c:Int)+1 - (i:Int)=((c+1 - i:Nat):Int):=by omega
 have hik:i+(c+1 - i)=c+1:=by omega
 have hold:(Builtin.firstCells i0.size i (.slice (some ⟨g,0,none⟩) i c)).run Tryz.prog w.drew=.ok (cur.toList.take (i * 5)).toArray w.drew:=by
  rw [hzs]
  exact run_firstCells_some w.drew 5 i ⟨g,0,none⟩ i c (cur.toList.take (i * 5)) (by rw [List.length_take,Array.length_toList];omega) (fun j v hj=>by
   have e:w.drew.cell? ((⟨g,0,none⟩:Addr).add j)=cur[j]?:=by rw [Addr.add_lit,Nat.zero_add];exact cellsAt hg _
   rw [e]
   rw [List.getElem?_take] at hj
   split at hj
   ·simpa using hj
   ·cases hj)
 have hrz:∀ ty,∃ G ROW,c+1≤G∧G≤maxLen∧ROW.size=G * 5∧ROW.toList.take (i * 5)=cur.toList.take (i * 5)∧(Builtin.append_ #[45,3] ty #[.slice (some ⟨g,0,none⟩) i c,.int .i64 ((c:Int)+1 - (i:Int))]).run Tryz.prog w =
  .ok (.slice (some ⟨w.heap.size,0,none⟩) (c+1) G) (w.drew.alloc (.cells ROW 56)):=fun ty=>by
  have h:=Lib.run_append_grow_zeros w 45 3 ty 56 i0 _ .i64 .i64 Tryz.underlying45 Tryz.underlying3 hi0 hz0 (some ⟨g,0,none⟩) i c (cur.toList.take (i * 5)) hold (c+1 - i) (by omega) (by omega) (by omega) (by omega) (by rw [hzb];omega) (by rw [hzb,hik];exact growslice_fits hroom (by omega))
  rw [hik] at h
  rw [hkk]
  have h1:=grownCap_ge w (c+1) c 56
  refine ⟨_,_,h1,grownCap_le_maxLen w (c+1) c 56 (by unfold maxLen;omega),?_,?_,h⟩
  ·simp only [Array.size_append,List.size_toArray,size_zeroCells,List.length_take,Array.length_toList,hcs,Value.cells]
   simp
   omega
  ·simp only [Array.toList_append,List.append_assoc]
   exact List.take_left' (by simp only [List.length_take,Array.length_toList,hcs];omega)
 obtain ⟨G,ROW,hG1,hG2,hRs,hRt,hrz⟩:=hrz 45
 have hG63:G≤9223372036854775807:=by unfold maxLen at hG2;omega
 obtain ⟨W1,hW1⟩:∃ W1,W1=(w.alloc (.cells ROW 56)).drew:=⟨_,rfl⟩
 have hwd:w.drew.alloc (.cells ROW 56)=W1:=by rw [hW1];rfl
 rw [hwd] at hrz
 have hg1:W1.heap[w.heap.size]?=some (.cells ROW 56 (0,0)):=by rw [hW1];exact heap_alloc_new w _
 have ho1:∀ k,k < w.heap.size→W1.heap[k]?=w.heap[k]?:=fun k hk=>by rw [hW1];exact Below.heap_alloc w _ k hk
 have hv1:W1.heap[vb]?=some (.cells vs.toArray 56 (0,0)):=by rw [ho1 vb hvw];exact hv
 have hcp1:∀ ty dc,(Builtin.copy_ #[45,45] ty #[.slice (some ⟨w.heap.size,i * 5,none⟩) (c+1 - i) dc,.slice (some ⟨vb,0,none⟩) 1 1]).run Tryz.prog W1=.ok (goInt (Nat.min 1 (c+1 - i))) (W1.setRow w.heap.size (ROW.toList.take (i * 5)++vs++ROW.toList.drop (i * 5+vs.length)).toArray):=fun ty dc=>
  run_copy_k W1 45 45 ty 56 w.heap.size (i * 5) (c+1 - i) dc ⟨vb,0,none⟩ 1 1 5 ROW 56 vs Tryz.underlying45 size56 hg1 (by rw [hvl];simp only [Nat.min_def];split<;>omega) (fun j v hj=>by rw [Addr.add_lit,cellsAt hv1];simpa using hj) (by rw [hvl,hRs];omega) h1v
 obtain ⟨C1,hC1⟩:∃ C1:Array Value,C1=(ROW.toList.take (i * 5)++vs++ROW.toList.drop (i * 5+vs.length)).toArray:=⟨_,rfl⟩
 obtain ⟨W2,hW2⟩:∃ W2,W2=W1.setRow w.heap.size C1:=⟨_,rfl⟩
 rw [← hC1,← hW2] at hcp1
 have hg2:W2.drew.heap[w.heap.size]?=some (.cells C1 56 (0,0)):=by rw [hW2];exact setRow_heap W1 w.heap.size ROW C1 56 (0,0) hg1
 have ho2:∀ k,k < w.heap.size→W2.drew.heap[k]?=w.heap[k]?:=fun k hk=>by
  have:=setRow_other W1 w.heap.size k C1 (by omega)
  rw [← hW2] at this
  exact this.trans (ho1 k hk)
 have hs1:C1.size=G * 5:=by
  rw [hC1];simp only [List.size_toArray,List.length_append,List.length_take,List.length_drop,Array.length_toList,hvl,hRs];omega
 have hXl:((cur.toList.take (c * 5)).drop (i * 5)).length=(c - i) * 5:=by
  simp only [List.length_drop,List.length_take,Array.length_toList];omega
 have hX1:∀ v∈(cur.toList.take (c * 5)).drop (i * 5),v.oneCell'=true:=fun v hv=>h1c v (List.mem_of_mem_drop hv)
 have hXs:∀ j v,((cur.toList.take (c * 5)).drop (i * 5))[j]?=some v→W2.drew.cell? ((⟨g,i * 5,none⟩:Addr).add j)=some v:=fun j v hj=>by
  have e:W2.drew.cell? ((⟨g,i * 5,none⟩:Addr).add j)=cur[i * 5+j]?:=by rw [Addr.add_lit];exact cellsAt ((ho2 g hgw).trans hg) _
  rw [e]
  rw [List.getElem?_drop,List.getElem?_take] at hj
  split at hj
  ·simpa using hj
  ·cases hj
 generalize hX:(cur.toList.take (c * 5)).drop (i * 5)=X at *
 have hcp2:∀ ty dc sc,(Builtin.copy_ #[45,45] ty #[.slice (some ⟨w.heap.size,(i+1) * 5,none⟩) (c - i) dc,.slice (some ⟨g,i * 5,none⟩) (c - i) sc]).run Tryz.prog W2.drew=.ok (goInt (Nat.min (c - i) (c - i))) (W2.drew.setRow w.heap.size (C1.toList.take ((i+1) * 5)++X++C1.toList.drop ((i+1) * 5+X.length)).toArray):=fun ty dc sc=>
  run_copy_k W2.drew 45 45 ty 56 w.heap.size ((i+1) * 5) (c - i) dc ⟨g,i * 5,none⟩ (c - i) sc 5 C1 56 X Tryz.underlying45 size56 hg2 (by rw [hXl];congr 1;simp only [Nat.min_def];split<;>omega) hXs (by rw [hXl,hs1];omega) hX1
 obtain ⟨C2,hC2⟩:∃ C2:Array Value,C2=(C1.toList.take ((i+1) * 5)++X++C1.toList.drop ((i+1) * 5+X.length)).toArray:=⟨_,rfl⟩
 obtain ⟨W3,hW3⟩:∃ W3,W3=W2.drew.setRow w.heap.size C2:=⟨_,rfl⟩
 rw [← hC2,← hW3] at hcp2
 have hg3:W3.heap[w.heap.size]?=some (.cells C2 56 (0,0)):=by rw [hW3];exact setRow_heap W2.drew w.heap.size C1 C2 56 (0,0) hg2
 have hgr:w.grownBy W3 none:=⟨by rw [hW3,hW2,hW1];rfl,by rw [hW3,hW2,hW1];rfl,by rw [hW3,hW2,hW1];rfl,by rw [hW3,hW2,hW1];simp [World.setRow],fun k hk _=>by
  rw [hW3,setRow_other W2.drew w.heap.size k C2 (by omega),ho2 k hk]⟩
 have hs2:C2.size=G * 5:=by
  rw [hC2];simp only [List.size_toArray,List.length_append,List.length_take,List.length_drop,Array.length_toList,hXl,hs1];omega
 have hl2:C2.toList.take ((c+1) * 5)=cur.toList.take (i * 5)++vs++X:=by
  have e1:C1.toList.take ((i+1) * 5)=cur.toList.take (i * 5)++vs:=by
   rw [hC1,hRt]
   exact List.take_left' (by simp only [List.length_append,List.length_take,Array.length_toList,hcs,hvl];omega)
  rw [hC2,e1]
  exact List.take_left' (by simp only [List.length_append,List.length_take,Array.length_toList,hcs,hvl,hXl];omega)
 have HF:Hid (∃ cur':Array Value,W3.heap[w.heap.size]?=some (.cells cur' 56 (0,0))∧cur'.size=G * 5∧cur'.toList.take ((c+1) * 5)=cur.toList.take (i * 5)++vs++X∧w.grownBy W3 none):=⟨C2,hg3,hs2,hl2,hgr⟩
 have hw1:IntKind.i64.wrap ((i:Int)+1)=(i:Int)+1:=by rw [IntKind.wrap_i64];omega
 have hb1:(0:Int)≤(i:Int)+1:=by omega
 have hin:i≤c:=by omega
 have htn:((i:Int)+1).toNat=i+1:=by omega
 have hGi:¬ (G=i):=by omega
 have hGim:¬ (G=i+1):=by omega
 have hci:¬ (c=i):=by omega
 clear hW1 hW2 hW3 hC1 hC2 ho1 ho2 hXs hX1 h1c h1v hX hXl hg1 hg2 hg3 hgr hs1 hs2 hl2 hv1 hwd hRs hRt hkk hik hold hg hv hi0 hz0 hzs hzb
 go_enter Tryz.func267,Tryz.ntmps267
 go_wp2_with (at_builtin;refine Lib.wpList_append_run _ rfl _ _ _ _ rfl _ _ rfl rfl _ _ hrz ?_)
 go_region_law (refine step_copy_runM rfl _ _ 45 45 rfl _ _ (by simp [Act.eval,Act.put]) (by simp [Act.eval,Act.put]) (hcp2 _ _ _) ?_)
 go_wp2_with fail
 go_ret
 exact ⟨G,rfl,hG1,hG2,HF.out⟩
set_option maxHeartbeats 1000000 in
set_option maxRecDepth 100000 in
theorem insert_end (base n vb:Nat) (v:Value) (xs vs:List Value) (w:World) (hown:w.ownsRow base 56 5 v n xs) (hn:n≤1000) (hbase:base≤w.heap.size)
 (hv:w.heap[vb]?=some (.cells vs.toArray 56 (0,0))) (hvl:vs.length=5) (h1v:∀ v∈vs,v.oneCell'=true) :
 Calls Tryz.prog 267 #[v,.int .i64 n,.slice (some ⟨vb,0,none⟩) 1 1] w fun e w'=>∃ v',e=.returned v'∧w'.ownsRow base 56 5 v' (n+1) (xs++vs)∧w.grownBy w' v.ownBlock:=by
 obtain ⟨i0,hi0,hz0,hzs,hzb⟩:=info_parts Tryz.info56
 have hnews:∀ j u,vs[j]?=some u→w.cell? ((⟨vb,0,none⟩:Addr).add j)=some u:=fun j v hj=>by rw [Addr.add_lit,cellsAt hv];simpa using hj
 have HO:=hown
 rcases hown.2 with ⟨rfl,rfl⟩ | ⟨g,c,cur,rfl,hbg,hg,hnc,hcm,hcs,htake⟩
 ·have HO':Hid (w.ownsRow base 56 5 (.slice none 0 0) 0 xs):=HO
  clear hown HO hn
  go_enter Tryz.func267,Tryz.ntmps267
  go_wp2_with (at_builtin;refine wpList_append_own _ rfl _ _ 45 rfl base 56 i0 _ 5 48 Tryz.underlying45 hi0 hz0 hzs hzb rfl (by omega) _ 0 xs rfl HO'.out ⟨vb,0,none⟩ 1 1 vs rfl (by omega) hnews h1v (by unfold maxLen;omega) (by omega) hbase ?_)
  intro v' w' r1 r2 r3
  go_wp2_with fail
  go_ret
  exact ⟨v',rfl,r1,r2⟩
 ·have HO':Hid (w.ownsRow base 56 5 (.slice (some ⟨g,0,none⟩) n c) n xs):=HO
  clear hown HO hg htake hcs
  unfold maxLen at hcm
  by_cases hcn:c=n
  ·subst hcn
   go_enter Tryz.func267,Tryz.ntmps267
   go_wp2_with (at_builtin;refine wpList_append_own _ rfl _ _ 45 rfl base 56 i0 _ 5 48 Tryz.underlying45 hi0 hz0 hzs hzb rfl (by omega) _ c xs rfl HO'.out ⟨vb,0,none⟩ 1 1 vs rfl (by omega) hnews h1v (by unfold maxLen;omega) (by omega) hbase ?_)
   intro v' w' r1 r2 r3
   go_wp2_with fail
   go_ret
   exact ⟨v',rfl,r1,r2⟩
  ·go_enter Tryz.func267,Tryz.ntmps267
   go_wp2_with (at_builtin;refine wpList_append_own _ rfl _ _ 45 rfl base 56 i0 _ 5 48 Tryz.underlying45 hi0 hz0 hzs hzb rfl (by omega) _ n xs rfl HO'.out ⟨vb,0,none⟩ 1 1 vs rfl (by omega) hnews h1v (by unfold maxLen;omega) (by omega) hbase ?_)
   intro v' w' r1 r2 r3
   go_wp2_with fail
   go_ret
   exact ⟨v',rfl,r1,r2⟩
theorem insert_any (base i vb:Nat) (v:Value) (ms:List Mem) (m:Mem) (w:World) (hown:Own base w v ms) (hi:i≤ms.length) (hn:ms.length≤1000) (hbase:base≤w.heap.size)
 (hv:w.heap[vb]?=some (.cells m.cs.toArray 56 (0,0))) (hne:v.ownBlock≠some vb) :
 Calls Tryz.prog 267 #[v,.int .i64 i,.slice (some ⟨vb,0,none⟩) 1 1] w fun e w'=>∃ v',e=.returned v'∧Own base w' v' (ms.take i++m :: ms.drop i)∧w.grownBy w' v.ownBlock:=by
 have hlen:(ms.take i++m :: ms.drop i).length=ms.length+1:=by simp;omega
 have hfl:fl (ms.take i++m :: ms.drop i)=(fl ms).take (i * 5)++m.cs++(fl ms).drop (i * 5):=by rw [fl_append,fl_cons,fl_take,fl_drop,List.append_assoc]
 by_cases hin:i=ms.length
 ·subst hin
  refine (insert_end base ms.length vb v (fl ms) m.cs w hown hn hbase hv rfl (cs_one m)).mono ?_
  rintro e w' ⟨v',rfl,h1,h2⟩
  refine ⟨v',rfl,?_,h2⟩
  have e1:ms.take ms.length++m :: ms.drop ms.length=ms++[m]:=by simp
  have e2:fl (ms++[m])=fl ms++m.cs:=by rw [fl_append,fl_cons];simp [fl]
  rw [e1]
  show w'.ownsRow base 56 5 v' (ms++[m]).length (fl (ms++[m]))
  rw [e2,show (ms++[m]).length=ms.length+1 by simp]
  exact h1
 ·rcases hown.2 with ⟨_,h0⟩ | ⟨g,c,cur,rfl,hbg,hg,hnc,hcm,hcs,htake⟩
  ·omega
  ·have hvb:vb≠g:=fun e=>hne (by simp [Value.ownBlock,e])
   have h1c:∀ v∈cur.toList.take (ms.length * 5),v.oneCell'=true:=by rw [htake];exact fl_one ms
   have hti:cur.toList.take (i * 5)=(fl ms).take (i * 5):=by rw [← htake,List.take_take];congr 1;omega
   have key:∀ l:List Value,l=cur.toList.take (i * 5)++m.cs++(cur.toList.take (ms.length * 5)).drop (i * 5)→l=fl (ms.take i++m :: ms.drop i):=fun l hl=>by rw [hl,hfl,htake,hti]
   by_cases hroom:ms.length+1≤c
   ·refine (insert_room g ms.length c i vb cur m.cs w hg hcs (by omega) hroom (by unfold maxLen at hcm;omega) hvb hv rfl h1c (cs_one m)).mono ?_
    rintro e w' ⟨rfl,cur',h1,h2,h3,h4⟩
    refine ⟨_,rfl,?_,h4⟩
    rw [← hlen]
    exact own_of hbg h1 h2 (by omega) hcm (key _ (by rw [hlen];exact h3))
   ·refine (insert_grow g ms.length c i vb cur m.cs w hg hcs (by omega) hnc (by omega) hn hv rfl h1c (cs_one m)).mono ?_
    rintro e w' ⟨G,rfl,hG1,hG2,cur',h1,h2,h3,h4⟩
    refine ⟨_,rfl,?_,grown_any h4 _⟩
    rw [← hlen]
    exact own_of hbase h1 h2 (by omega) hG2 (key _ (by rw [hlen];exact h3))
end Go.Proofs.YtffdoiokmiklgaaGreatDoor
