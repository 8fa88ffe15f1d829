import Derived.Test.YtikgjgmgbfjcgaaGreatQ29
import Derived.Test.YtikgjgmgbfjcgaaGreatQ23
import Derived.Test.YtikgjgmgbfjcgaaGreatQ31
namespace Go.Proofs.YtikgjgmgbfjcgaaGreat
open Go.RowKit Go.Sort Go.Lib
def cfM (a b:Mem):Int:=cmpI a.name b.name
set_option maxHeartbeats 1000000 in
theorem tellF_any (x y:Mem) (W:World):Calls Tryz.prog 114 #[.agg #[.string x.name,.int .i64 x.state,.int .i64 x.life,.int .i64 x.addr,.bool x.server],.agg #[.string y.name,.int .i64 y.state,.int .i64 y.life,.int .i64 y.addr,.bool y.server]] W fun e w'=>e=.returned (.int .i64 (cfM x y))∧∃ q os',w'=grow (W.drewN q) os':=by
 unfold cfM
 go_enter Tryz.func114,Tryz.ntmps114
 go_wp2_with (go_at_call 115;refine (compare_any _ _ _).mono ?_;rintro e w' ⟨rfl,rfl⟩)
 go_ret
 exact ⟨rfl,0,_,by rw [alloc_eq_grow,alloc_eq_grow,grow_grow];rfl⟩
theorem cmpLaysM [Inhabited Mem] (blk off size:Nat) (w:World):CmpLays Tryz.prog 114 #[] Mem.cs 5 cfM blk off size w:=fun _ _ _ _ x y=>tellF_any x y _
theorem swoM:SWO (ltOf cfM) where
 irrefl x:=by simp [ltOf,cfM,(cmpI_eq x.name x.name).2 rfl]
 trans x y z:=by
  simp only [ltOf,cfM,decide_eq_true_eq,cmpI_lt]
  exact fun h1 h2=>less_trans h1 h2
 ntrans x y z:=by
  intro h1 h2
  have h1:¬ cmpI x.name y.name < 0:=of_decide_eq_false h1
  have h2:¬ cmpI y.name z.name < 0:=of_decide_eq_false h2
  refine decide_eq_false fun h3=>?_
  have h3:cmpI x.name z.name < 0:=h3
  rcases Int.lt_trichotomy (cmpI x.name y.name) 0 with h | h | h
  ·exact h1 h
  ·have e:x.name=y.name:=(cmpI_eq _ _).1 h
   rw [e] at h3;exact h2 h3
  ·have h4:less y.name x.name=true:=(cmpI_gt _ _).1 h
   exact h2 ((cmpI_lt _ _).2 (less_trans h4 ((cmpI_lt _ _).1 h3)))
theorem holds_own [Inhabited Mem] {base:Nat} {w:World} {g c:Nat} {l:List Mem} (h:Own base w (.slice (some ⟨g,0,none⟩) l.length c) l):HoldsK Mem.cs 5 w g 0 l.toArray:=by
 rcases h.2 with ⟨h1,_⟩ | ⟨g',c',cur,h1,hbg,hg,hnc,hcm,hcs,htake⟩
 ·cases h1
 ·simp only [Value.slice.injEq,Option.some.injEq,Addr.mk.injEq] at h1
  obtain ⟨⟨rfl,_,_⟩,_,_⟩:=h1
  intro j hj
  rw [size_flatK] at hj
  have hj':j < l.length * 5:=by simpa using hj
  refine ⟨?_,frozen_of hg _⟩
  rw [cellsAt hg,Nat.zero_add,get_flatK Mem.cs 5 l.toArray j (by simpa using hj')]
  have e1:=fl_get l (j / 5) (by omega) (j%5) (by omega)
  rw [show j / 5 * 5+j%5=j by omega] at e1
  have e2:cur[j]?=(fl l)[j]?:=by rw [← htake,List.getElem?_take_of_lt (by omega)];simp
  rw [e2,e1]
  have e3:l.toArray[j / 5]! = l.getD (j / 5) dm:=by
   have hlt:j / 5 < l.length:=by omega
   simp [List.getD,hlt]
  rw [e3]
  have hl:j%5 < (l.getD (j / 5) dm).cs.length:=by rw [cs_len];omega
  rw [List.getElem?_eq_getElem hl,getElem!_pos (l.getD (j / 5) dm).cs (j%5) hl]
  rfl
theorem block_sortK [Inhabited Mem] {w:World} {g m:Nat} {d:Array Mem} {os:Array Obj} {cur:Array Value} {T:TypeId} {fr:Nat × Nat} (hg:w.heap[g]?=some (.cells cur T fr)) :
 (sortWorldK Mem.cs 5 w g 0 m d os).heap[g]?=some (.cells (putCells id 0 (flatK Mem.cs 5 d) cur) T fr):=by
 have hlt:g < w.heap.size:=(Array.getElem?_eq_some_iff.1 hg).1
 have hlt2:g < (putRowK Mem.cs 5 (Sort.ahead w m) g 0 d).heap.size:=by
  show g < (putRow id (Sort.ahead w m) g 0 _).heap.size
  rw [size_putRow];exact hlt
 show ((putRowK Mem.cs 5 (Sort.ahead w m) g 0 d).heap++os)[g]?=_
 rw [Array.getElem?_append_left hlt2]
 show (w.heap.modify g (onCells (putCells id 0 (flatK Mem.cs 5 d))))[g]?=_
 rw [Array.getElem?_modify,if_pos rfl,hg]
 rfl
theorem own_sorted [Inhabited Mem] {base:Nat} {w:World} {g c m:Nat} {l:List Mem} {os:Array Obj} (h:Own base w (.slice (some ⟨g,0,none⟩) l.length c) l) (d:Array Mem) (hs:d.size=l.length) :
 Own base (sortWorldK Mem.cs 5 w g 0 m d os) (.slice (some ⟨g,0,none⟩) l.length c) d.toList:=by
 rcases h.2 with ⟨h1,_⟩ | ⟨g',c',cur,h1,hbg,hg,hnc,hcm,hcs,htake⟩
 ·cases h1
 ·simp only [Value.slice.injEq,Option.some.injEq,Addr.mk.injEq] at h1
  obtain ⟨⟨rfl,_,_⟩,_,rfl⟩:=h1
  have hl:d.toList.length=l.length:=by simpa using hs
  have ho:Own base (sortWorldK Mem.cs 5 w g 0 m d os) (.slice (some ⟨g,0,none⟩) d.toList.length c) d.toList:=by
   refine own_of hbg (block_sortK hg) (by simp [putCells,hcs]) (by omega) hcm ?_
   apply List.ext_getElem?
   intro t
   by_cases ht:t < d.toList.length * 5
   ·have htc:t < cur.size:=by rw [hcs];have:l.length * 5≤c * 5:=Nat.mul_le_mul_right 5 hnc;omega
    rw [List.getElem?_take_of_lt ht]
    have e1:=fl_get d.toList (t / 5) (by omega) (t%5) (by omega)
    rw [show t / 5 * 5+t%5=t by omega] at e1
    rw [e1]
    have hsz:t < d.size * 5:=by simpa using ht
    have e2:(putCells id 0 (flatK Mem.cs 5 d) cur).toList[t]?=some (flatK Mem.cs 5 d)[t]! := by
     simp only [putCells,Array.getElem?_toList,Array.getElem?_mapIdx,Array.getElem?_eq_getElem htc,Option.map_some]
     rw [if_pos ⟨Nat.zero_le _,by rw [size_flatK];omega⟩]
     rfl
    rw [e2,get_flatK Mem.cs 5 d t hsz]
    have e3:d[t / 5]! = d.toList.getD (t / 5) dm:=by
     have hlt:t / 5 < d.size:=by omega
     simp [List.getD,hlt]
    rw [e3]
    have hl2:t%5 < (d.toList.getD (t / 5) dm).cs.length:=by rw [cs_len];omega
    rw [List.getElem?_eq_getElem hl2,getElem!_pos (d.toList.getD (t / 5) dm).cs (t%5) hl2]
   ·rw [List.getElem?_eq_none (by rw [List.length_take];omega),List.getElem?_eq_none (by rw [fl_len];omega)]
  rw [← hl];exact ho
theorem hlenM (n:Nat) (W:World) (h:n≤12):Calls Tryz.prog 158 #[.int .u64 n] W fun e w'=>(∃ l:Int,e=.returned (.int .i64 l))∧w'=W:=
 (Tryz.bits_Len n W (by omega) (by omega)).mono fun _ _ ⟨he,hw⟩=>⟨⟨_,he⟩,hw⟩
theorem below_sortK [Inhabited Mem] {B:Nat} {w:World} {g n:Nat} {d:Array Mem} {os:Array Obj} (hg:B≤g) (hB:B≤w.heap.size):Go.RowKit.Below B w (sortWorldK Mem.cs 5 w g 0 n d os):=by
 refine ⟨rfl,rfl,rfl,by simp [sortWorldK,putRowK,putRow,mapBlock,Go.Sort.ahead,grow],fun k hk=>?_⟩
 unfold sortWorldK
 rw [heap_grow_old _ _ (by simp [putRowK,putRow,mapBlock,Go.Sort.ahead];omega)]
 have:g≠k:=by omega
 simp [putRowK,putRow,mapBlock,Go.Sort.ahead,Array.getElem?_modify,this]
theorem sh_sortK [Inhabited Mem] {w:World} {g n:Nat} {d:Array Mem} {os:Array Obj}:Sh (fun k=>k=g) w (sortWorldK Mem.cs 5 w g 0 n d os):=by
 refine ⟨rfl,rfl,rfl,by simp [sortWorldK,putRowK,putRow,mapBlock,Go.Sort.ahead,grow],fun k hk hne=>?_⟩
 unfold sortWorldK
 rw [heap_grow_old _ _ (by simp [putRowK,putRow,mapBlock,Go.Sort.ahead];omega)]
 have:g≠k:=fun e=>hne e.symm
 simp [putRowK,putRow,mapBlock,Go.Sort.ahead,Array.getElem?_modify,this]
def SortM (l:List Mem):Prop:=∀ i j,i < j→j < l.length→0≤cmpI (l.getD j dm).name (l.getD i dm).name
set_option maxHeartbeats 1600000 in
theorem sortM_some (base:Nat) (l:List Mem) (g c:Nat) (w:World) (h:Own base w (.slice (some ⟨g,0,none⟩) l.length c) l) (hb:base≤w.heap.size) (hl:l.length≤12) :
 Calls Tryz.prog 113 #[.slice (some ⟨g,0,none⟩) l.length c,.func (.func 114) #[] #[]] w fun e w'=>e=.returned (.tuple #[])∧∃ l':List Mem,l'.Perm l∧SortM l'∧Own base w' (.slice (some ⟨g,0,none⟩) l.length c) l'∧Go.RowKit.Below base w w'∧Sh (fun k=>k=g) w w':=by
 have eg:∀ args w,(callFunc 114 args).run Tryz.prog w=.ok (.enter 114 args) w:=enters_of Tryz.func114 (by kernel_rfl) rfl
 have hgl:=h.lt g rfl
 have hinh:Inhabited Mem:=⟨dm⟩
 have hcon:=AnyQ.slices_SortFunc_small_sorted Tryz.sortM 5 Tryz.isAgg37 Tryz.sizeOf37 Mem.cs cs_len cs_one cfM 114 #[] swoM g 0 c l.toArray w eg (cmpLaysM g 0 _ w) (holds_own h) hgl.2 (by simpa using hl) hlenM
 rw [List.size_toArray] at hcon
 refine Calls.mono hcon ?_
 rintro e w' ⟨rfl,d,n,os,hp,hs,rfl⟩
 obtain ⟨p1,_,p3⟩:=hp
 have hsz:d.size=l.length:=by simpa using p1
 refine ⟨rfl,d.toList,?_,fun i j hij hj=>?_,own_sorted h d hsz,below_sortK hgl.1 hb,sh_sortK⟩
 ·have e1:d.extract 0 l.length=d:=by rw [← hsz];simp
  have e2:l.toArray.extract 0 l.length=l.toArray:=by simp
  rw [e1,e2] at p3
  simpa using p3
 ·have hj':j < d.size:=by simpa using hj
  have h2:=hs i j (Nat.zero_le _) hij (by rw [← hsz];exact hj')
  have h3:¬ cmpI (d[j]!).name (d[i]!).name < 0:=of_decide_eq_false h2
  have e1:d[j]! = d.toList.getD j dm:=by simp [List.getD,hj']
  have e2:d[i]! = d.toList.getD i dm:=by simp [List.getD,show i < d.size by omega]
  rw [e1,e2] at h3
  omega
set_option maxHeartbeats 800000 in
theorem insM_none (f:Value) (w:World) :
 Calls Tryz.prog 195 #[.slice none 0 0,.int .i64 0,.int .i64 0,f] w fun e w'=>e=.returned (.tuple #[])∧w'=w:=by
 go_enter Tryz.func195,Tryz.ntmps195
 go_wp2_with fail
 refine wp_loop_rounds 1 ?_
 rw [rounds_succ]
 go_wp2_with fail
 go_end0
 exact ⟨rfl,rfl⟩
set_option maxHeartbeats 1600000 in
theorem pdqM_none (k:Int) (f:Value) (w:World) :
 Calls Tryz.prog 162 #[.slice none 0 0,.int .i64 0,.int .i64 0,.int .i64 k,f] w fun e w'=>e=.returned (.tuple #[])∧w'=w:=by
 go_enter Tryz.func162,Tryz.ntmps162
 go_wp2_with fail
 refine wp_loop_rounds 1 ?_
 rw [rounds_succ]
 go_wp2_with (go_at_call 195;refine (insM_none _ _).mono ?_;rintro e w' ⟨rfl,rfl⟩)
 (try simp only [Exit.inBlock,Exit.then]);refine bodyPost_ret (results_none rfl _ _ _) rfl ?_
 exact ⟨rfl,rfl⟩
set_option maxHeartbeats 800000 in
theorem sortM_none (f:Value) (w:World) :
 Calls Tryz.prog 113 #[.slice none 0 0,f] w fun e w'=>e=.returned (.tuple #[])∧w'=w:=by
 go_enter Tryz.func113,Tryz.ntmps113
 go_wp2_with (go_at_call 158;refine (Tryz.bits_Len _ _ (by omega) (by omega)).mono ?_;rintro e w' ⟨rfl,rfl⟩)
 refine (pdqM_none _ _ _).mono ?_
 rintro e w' ⟨rfl,rfl⟩
 go_wp2_with fail
 go_end0
 exact ⟨rfl,rfl⟩
theorem sortM_any (base:Nat) (l:List Mem) (v:Value) (w:World) (h:Own base w v l) (hb:base≤w.heap.size) (hl:l.length≤12) :
 Calls Tryz.prog 113 #[v,.func (.func 114) #[] #[]] w fun e w'=>e=.returned (.tuple #[])∧∃ l':List Mem,l'.Perm l∧SortM l'∧Own base w' v l'∧Go.RowKit.Below base w w'∧Sh (fun k=>v.ownBlock=some k) w w':=by
 rcases h.2 with ⟨h1,h2⟩ | ⟨g,c,cur,h1,_⟩
 ·subst h1
  have he:l=[]:=List.eq_nil_of_length_eq_zero h2
  subst he
  refine (sortM_none _ w).mono ?_
  rintro e w' ⟨rfl,rfl⟩
  exact ⟨rfl,[],.refl _,fun i j _ hj=>by simp at hj,own_nil _ _,Go.RowKit.Below.refl _ _,Sh.refl _ _⟩
 ·subst h1
  refine (sortM_some base l g c w h hb hl).mono ?_
  rintro e w' ⟨rfl,l',h1,h2,h3,h4,h5⟩
  exact ⟨rfl,l',h1,h2,h3,h4,h5.mono (fun k hk=>by rw [hk];rfl)⟩
end Go.Proofs.YtikgjgmgbfjcgaaGreat
