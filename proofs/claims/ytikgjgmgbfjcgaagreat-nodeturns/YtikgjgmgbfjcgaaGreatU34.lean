import Derived.Test.YtikgjgmgbfjcgaaGreatU32
import Derived.Test.YtikgjgmgbfjcgaaGreatU31
import Derived.Test.YtikgjgmgbfjcgaaGreatU33
namespace Go.Proofs.YtikgjgmgbfjcgaaGreat
open Go.RowKit Go.Sort Go.Lib
theorem hlenM (n:Nat) (W:World) (h:n≤12):Calls Tryz.prog 158 #[.int .u64 n] W fun e w'=>(∃ l:Int,e=.returned (.int .i64 l))∧w'=W:=
 (Tryz.bits_Len n W (by omega) (by omega)).mono fun _ _ ⟨he,hw⟩=>⟨⟨_,he⟩,hw⟩
theorem below_sortK [Inhabited Mem] {B:Nat} {w:World} {g n:Nat} {d:Array Mem} {os:Array Obj} (hg:B≤g) (hB:B≤w.heap.size):Go.RowKit.Below B w (sortWorldK Mem.cs 5 w g 0 n d os):=by
 refine ⟨rfl,rfl,rfl,by simp [sortWorldK,putRowK,putRow,mapBlock,Go.Sort.ahead,grow],fun k hk=>?_⟩
 unfold sortWorldK
 rw [heap_grow_old _ _ (by simp [putRowK,putRow,mapBlock,Go.Sort.ahead];omega)]
 have:g≠k:=by omega
 simp [putRowK,putRow,mapBlock,Go.Sort.ahead,Array.getElem?_modify,this]
theorem sh_sortK [Inhabited Mem] {w:World} {g n:Nat} {d:Array Mem} {os:Array Obj}:Sh (fun k=>k=g) w (sortWorldK Mem.cs 5 w g 0 n d os):=by
 refine ⟨rfl,rfl,rfl,by simp [sortWorldK,putRowK,putRow,mapBlock,Go.Sort.ahead,grow],fun k hk hne=>?_⟩
 unfold sortWorldK
 rw [heap_grow_old _ _ (by simp [putRowK,putRow,mapBlock,Go.Sort.ahead];omega)]
 have:g≠k:=fun e=>hne e.symm
 simp [putRowK,putRow,mapBlock,Go.Sort.ahead,Array.getElem?_modify,this]
def SortM (l:List Mem):Prop:=∀ i j,i < j→j < l.length→0≤cmpI (l.getD j dm).name (l.getD i dm).name
set_option maxHeartbeats 1600000 in
theorem sortM_some (base:Nat) (l:List Mem) (g c:Nat) (w:World) (h:Own base w (.slice (some ⟨g,0,none⟩) l.length c) l) (hb:base≤w.heap.size) (hl:l.length≤12) :
 Calls Tryz.prog 113 #[.slice (some ⟨g,0,none⟩) l.length c,.func (.func 114) #[] #[]] w fun e w'=>e=.returned (.tuple #[])∧∃ l':List Mem,l'.Perm l∧SortM l'∧Own base w' (.slice (some ⟨g,0,none⟩) l.length c) l'∧Go.RowKit.Below base w w'∧Sh (fun k=>k=g) w w':=by
 have eg:∀ args w,(callFunc 114 args).run Tryz.prog w=.ok (.enter 114 args) w:=enters_of Tryz.func114 (by kernel_rfl) rfl
 have hgl:=h.lt g rfl
 have hinh:Inhabited Mem:=⟨dm⟩
 have hcon:=AnyQ.slices_SortFunc_small_sorted Tryz.sortM 5 Tryz.isAgg37 Tryz.sizeOf37 Mem.cs cs_len cs_one cfM 114 #[] swoM g 0 c l.toArray w eg (cmpLaysM g 0 _ w) (holds_own h) hgl.2 (by simpa using hl) hlenM
 rw [List.size_toArray] at hcon
 refine Calls.mono hcon ?_
 rintro e w' ⟨rfl,d,n,os,hp,hs,rfl⟩
 obtain ⟨p1,_,p3⟩:=hp
 have hsz:d.size=l.length:=by simpa using p1
 refine ⟨rfl,d.toList,?_,fun i j hij hj=>?_,own_sorted h d hsz,below_sortK hgl.1 hb,sh_sortK⟩
 ·have e1:d.extract 0 l.length=d:=by rw [← hsz];simp
  have e2:l.toArray.extract 0 l.length=l.toArray:=by simp
  rw [e1,e2] at p3
  simpa using p3
 ·have hj':j < d.size:=by simpa using hj
  have h2:=hs i j (Nat.zero_le _) hij (by rw [← hsz];exact hj')
  have h3:¬ cmpI (d[j]!).name (d[i]!).name < 0:=of_decide_eq_false h2
  have e1:d[j]! = d.toList.getD j dm:=by simp [List.getD,hj']
  have e2:d[i]! = d.toList.getD i dm:=by simp [List.getD,show i < d.size by omega]
  rw [e1,e2] at h3
  omega
set_option maxHeartbeats 800000 in
theorem insM_none (f:Value) (w:World) :
 Calls Tryz.prog 195 #[.slice none 0 0,.int .i64 0,.int .i64 0,f] w fun e w'=>e=.returned (.tuple #[])∧w'=w:=by
 go_enter Tryz.func195,Tryz.ntmps195
 go_wp2_with fail
 refine wp_loop_rounds 1 ?_
 rw [rounds_succ]
 go_wp2_with fail
 go_end0
 exact ⟨rfl,rfl⟩
set_option maxHeartbeats 1600000 in
theorem pdqM_none (k:Int) (f:Value) (w:World) :
 Calls Tryz.prog 162 #[.slice none 0 0,.int .i64 0,.int .i64 0,.int .i64 k,f] w fun e w'=>e=.returned (.tuple #[])∧w'=w:=by
 go_enter Tryz.func162,Tryz.ntmps162
 go_wp2_with fail
 refine wp_loop_rounds 1 ?_
 rw [rounds_succ]
 go_wp2_with (go_at_call 195;refine (insM_none _ _).mono ?_;rintro e w' ⟨rfl,rfl⟩)
 (try simp only [Exit.inBlock,Exit.then]);refine bodyPost_ret (results_none rfl _ _ _) rfl ?_
 exact ⟨rfl,rfl⟩
set_option maxHeartbeats 800000 in
theorem sortM_none (f:Value) (w:World) :
 Calls Tryz.prog 113 #[.slice none 0 0,f] w fun e w'=>e=.returned (.tuple #[])∧w'=w:=by
 go_enter Tryz.func113,Tryz.ntmps113
 go_wp2_with (go_at_call 158;refine (Tryz.bits_Len _ _ (by omega) (by omega)).mono ?_;rintro e w' ⟨rfl,rfl⟩)
 refine (pdqM_none _ _ _).mono ?_
 rintro e w' ⟨rfl,rfl⟩
 go_wp2_with fail
 go_end0
 exact ⟨rfl,rfl⟩
theorem sortM_any (base:Nat) (l:List Mem) (v:Value) (w:World) (h:Own base w v l) (hb:base≤w.heap.size) (hl:l.length≤12) :
 Calls Tryz.prog 113 #[v,.func (.func 114) #[] #[]] w fun e w'=>e=.returned (.tuple #[])∧∃ l':List Mem,l'.Perm l∧SortM l'∧Own base w' v l'∧Go.RowKit.Below base w w'∧Sh (fun k=>v.ownBlock=some k) w w':=by
 rcases h.2 with ⟨h1,h2⟩ | ⟨g,c,cur,h1,_⟩
 ·subst h1
  have he:l=[]:=List.eq_nil_of_length_eq_zero h2
  subst he
  refine (sortM_none _ w).mono ?_
  rintro e w' ⟨rfl,rfl⟩
  exact ⟨rfl,[],.refl _,fun i j _ hj=>by simp at hj,own_nil _ _,Go.RowKit.Below.refl _ _,Sh.refl _ _⟩
 ·subst h1
  refine (sortM_some base l g c w h hb hl).mono ?_
  rintro e w' ⟨rfl,l',h1,h2,h3,h4,h5⟩
  exact ⟨rfl,l',h1,h2,h3,h4,h5.mono (fun k hk=>by rw [hk];rfl)⟩
end Go.Proofs.YtikgjgmgbfjcgaaGreat
namespace Go.Proofs.YtikgjgmgbfjcgaaGreat
open Go.RowKit
def TakeIs (rs:List Rum) (times:Int) (told:List Mem) (rest:List Rum):Prop:=
 (rs=[]∧told=[]∧rest=[])∨(0 < rs.length∧∃ ord,IsOrd rs ord∧told=toldL rs ord (min 5 rs.length)∧rest=(bump rs ord (min 5 rs.length)).filter (keepR times))
theorem takeIs_len {rs:List Rum} {times:Int} {told:List Mem} {rest:List Rum} (h:TakeIs rs times told rest):told.length≤5:=by
 rcases h with ⟨_,rfl,_⟩ | ⟨_,ord,_,rfl,_⟩
 ·simp
 ·unfold toldL;rw [List.length_map,List.length_take];omega
theorem toldL_mem {rs:List Rum} {ord:List Nat} {k:Nat} (h:IsOrd rs ord) {m:Mem} (hm:m∈toldL rs ord k):∃ r∈rs,r.m=m:=by
 unfold toldL at hm
 obtain ⟨i,hi,rfl⟩:=List.mem_map.1 hm
 have hb:=h.bd i (List.mem_of_mem_take hi)
 refine ⟨rs[i],List.getElem_mem _,?_⟩
 simp [List.getD,List.getElem?_eq_getElem hb]
theorem bump_mem (rs:List Rum):∀ (is:List Nat) (r:Rum),r∈is.foldl bumpOne rs→(∃ x∈rs,x.m=r.m)∨r.m=dm
 | [],r,h=>.inl ⟨r,h,rfl⟩
 | i :: is,r,h=>by
   rw [List.foldl_cons] at h
   rcases bump_mem (bumpOne rs i) is r h with ⟨x,hx,e⟩ | e
   ·unfold bumpOne at hx
    rcases List.mem_or_eq_of_mem_set hx with hx | rfl
    ·exact .inl ⟨x,hx,e⟩
    ·by_cases hi:i < rs.length
     ·exact .inl ⟨rs[i],List.getElem_mem _,by rw [← e];simp [List.getD,List.getElem?_eq_getElem hi]⟩
     ·exact .inr (by rw [← e];simp [List.getD,List.getElem?_eq_none (Nat.le_of_not_lt hi),dr])
   ·exact .inr e
theorem takeIs_ok {rs:List Rum} {times:Int} {told:List Mem} {rest:List Rum} (h:TakeIs rs times told rest) (hr:∀ r∈rs,r.m.name.size≤maxLen):(∀ m∈told,m.name.size≤maxLen)∧∀ r∈rest,r.m.name.size≤maxLen:=by
 rcases h with ⟨_,rfl,rfl⟩ | ⟨_,ord,ho,rfl,rfl⟩
 ·exact ⟨fun m hm=>by simp at hm,fun m hm=>by simp at hm⟩
 ·refine ⟨fun m hm=>?_,fun r hrr=>?_⟩
  ·obtain ⟨r,h1,rfl⟩:=toldL_mem ho hm;exact hr r h1
  ·have h1:=(List.mem_filter.1 hrr).1
   rcases bump_mem rs _ r h1 with ⟨x,hx,e⟩ | e
   ·rw [← e];exact hr x hx
   ·rw [e];simp [dm]
theorem take5_any (rs:List Rum) (v:Value) (times:Int) (w:World) (hv:RSl w v rs) (h0:chkR rs=0) (ht:within times 1 100=true) :
 Calls Tryz.prog 112 #[v,.int .i64 5,.int .i64 times] w fun e w'=>∃ a k c a2 k2 c2 told rest,e=.returned (.tuple #[.slice a k c,.slice a2 k2 c2,.int .i64 0])∧Hid (TakeIs rs times told rest)∧Own w.heap.size w' (.slice a k c) told∧ROwn w.heap.size w' (.slice a2 k2 c2) rest∧Below w.heap.size w w':=by
 by_cases hp:0 < rs.length
 ·have hT:TurnsSays rs v:=turns_some rs v (rs.length - 1) (by omega) (by have:=(chkR_e0 h0).1;omega)
  refine (take_some rs v 5 times w hv h0 rfl ht hp hT).mono ?_
  rintro e w' ⟨v1,v2,ord,rfl,ho,h1,h2,hb⟩
  obtain ⟨a,c,rfl,_⟩:=own_slice h1
  obtain ⟨a2,c2,rfl,_⟩:=own_slice h2
  exact ⟨a,_,c,a2,_,c2,_,_,rfl,.inr ⟨hp,ord,ho,rfl,rfl⟩,h1,h2,hb⟩
 ·have he:rs=[]:=List.eq_nil_of_length_eq_zero (by omega)
  subst he
  refine (take_none v 5 times w hv h0 rfl ht).mono ?_
  rintro e w' ⟨v1,v2,rfl,h1,h2,hb⟩
  obtain ⟨a,c,rfl,_⟩:=own_slice h1
  obtain ⟨a2,c2,rfl,_⟩:=own_slice h2
  exact ⟨a,_,c,a2,_,c2,_,_,rfl,.inl ⟨rfl,rfl,rfl⟩,h1,h2,hb⟩
def tmN (n:Nd):Int:=max (3 * (Lib.bitLen (liveL n.ms).length:Nat)) 1
def TellIs (n:Nd) (l:List Mem) (rest:List Rum):Prop:=∃ told,TakeIs n.rs (tmN n) told rest∧l.Perm told∧SortM l
end Go.Proofs.YtikgjgmgbfjcgaaGreat
