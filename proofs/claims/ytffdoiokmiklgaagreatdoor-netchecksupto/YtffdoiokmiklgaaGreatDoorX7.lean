import Derived.Test.YtffdoiokmiklgaaGreatDoorX5
import Derived.Test.YtffdoiokmiklgaaGreatDoorX6
namespace Go.Proofs.YtffdoiokmiklgaaGreatDoor
open Go.RowKit
def oneE (nm:ByteArray) (st lf ad:Int):Int:=
 if labB nm=true then (if within st 1 4=true then (if within lf 1 1000000=true then (if within ad 0 4294967295=true then 0 else 3) else 3) else 7) else 1
def newB (sa la aa:Int) (va:Bool) (sb lb ab:Int) (vb:Bool):Bool:=
 if la=lb then (if sa=sb then (if aa=ab then (va && !vb) else decide (ab < aa)) else decide (sb < sa)) else decide (lb < la)
set_option maxHeartbeats 800000 in
theorem checkOne_any (nm:ByteArray) (st lf ad:Int) (sv:Bool) (w:World) (hs:nm.size≤maxLen) :
 Calls Tryz.prog 177 #[.agg #[.string nm,.int .i64 st,.int .i64 lf,.int .i64 ad,.bool sv]] w fun e w'=>e=.returned (.int .i64 (oneE nm st lf ad))∧w'=w.alloc (.cells #[.string nm,.int .i64 st,.int .i64 lf,.int .i64 ad,.bool sv] 56):=by
 rcases h1:labB nm with _ | _
 ·go_enter Tryz.func177,Tryz.ntmps177
  go_wp2_with (go_at_call 75;refine (label_any _ _ hs).mono ?_;rintro e w' ⟨rfl,rfl⟩;rw [h1])
  go_ret
  exact ⟨ret_int (by simp [oneE,h1]),rfl⟩
 ·rcases h2:within st 1 4 with _ | _
  ·go_enter Tryz.func177,Tryz.ntmps177
   go_wp2_with (first | (go_at_call 75;refine (label_any _ _ hs).mono ?_;rintro e w' ⟨rfl,rfl⟩;rw [h1]) | (go_at_call 76;refine (within_any _ _ _ _).mono ?_;rintro e w' ⟨rfl,rfl⟩;rw [h2]))
   go_ret
   exact ⟨ret_int (by simp [oneE,h1,h2]),rfl⟩
  ·rcases h3:within lf 1 1000000 with _ | _
   ·go_enter Tryz.func177,Tryz.ntmps177
    go_wp2_with (first | (go_at_call 75;refine (label_any _ _ hs).mono ?_;rintro e w' ⟨rfl,rfl⟩;rw [h1]) | (go_at_call 76;refine (within_any _ _ _ _).mono ?_;rintro e w' ⟨rfl,rfl⟩;first | rw [h2] | rw [h3]))
    go_ret
    exact ⟨ret_int (by simp [oneE,h1,h2,h3]),rfl⟩
   ·rcases h4:within ad 0 4294967295 with _ | _
    all_goals
     go_enter Tryz.func177,Tryz.ntmps177
     go_wp2_with (first | (go_at_call 75;refine (label_any _ _ hs).mono ?_;rintro e w' ⟨rfl,rfl⟩;rw [h1]) | (go_at_call 76;refine (within_any _ _ _ _).mono ?_;rintro e w' ⟨rfl,rfl⟩;first | rw [h2] | rw [h3]) | (go_at_call 39;refine (address_any _ _).mono ?_;rintro e w' ⟨rfl,rfl⟩;rw [h4]))
     go_ret
     exact ⟨ret_int (by simp [oneE,h1,h2,h3,h4]),rfl⟩
set_option maxHeartbeats 800000 in
theorem oneMember_any (nm:ByteArray) (st lf ad:Int) (sv:Bool) (w:World) (hs:nm.size≤maxLen) :
 Calls Tryz.prog 79 #[.agg #[.string nm,.int .i64 st,.int .i64 lf,.int .i64 ad,.bool sv]] w fun e w'=>e=.returned (.int .i64 (oneE nm st lf ad))∧w'=w.alloc (.cells #[.string nm,.int .i64 st,.int .i64 lf,.int .i64 ad,.bool sv] 56):=by
 rcases h1:labB nm with _ | _
 ·go_enter Tryz.func79,Tryz.ntmps79
  go_wp2_with (go_at_call 41;refine (isLabel_any _ _ hs).mono ?_;rintro e w' ⟨rfl,rfl⟩;rw [h1])
  go_ret
  exact ⟨ret_int (by simp [oneE,h1]),rfl⟩
 ·rcases h2:within st 1 4 with _ | _
  ·go_enter Tryz.func79,Tryz.ntmps79
   go_wp2_with (first | (go_at_call 41;refine (isLabel_any _ _ hs).mono ?_;rintro e w' ⟨rfl,rfl⟩;rw [h1]) | (go_at_call 22;refine (between_any _ _ _ _).mono ?_;rintro e w' ⟨rfl,rfl⟩;rw [h2]))
   go_ret
   exact ⟨ret_int (by simp [oneE,h1,h2]),rfl⟩
  ·rcases h3:within lf 1 1000000 with _ | _
   ·go_enter Tryz.func79,Tryz.ntmps79
    go_wp2_with (first | (go_at_call 41;refine (isLabel_any _ _ hs).mono ?_;rintro e w' ⟨rfl,rfl⟩;rw [h1]) | (go_at_call 22;refine (between_any _ _ _ _).mono ?_;rintro e w' ⟨rfl,rfl⟩;first | rw [h2] | rw [h3]))
    go_ret
    exact ⟨ret_int (by simp [oneE,h1,h2,h3]),rfl⟩
   ·rcases h4:within ad 0 4294967295 with _ | _
    all_goals
     go_enter Tryz.func79,Tryz.ntmps79
     go_wp2_with (first | (go_at_call 41;refine (isLabel_any _ _ hs).mono ?_;rintro e w' ⟨rfl,rfl⟩;rw [h1]) | (go_at_call 22;refine (between_any _ _ _ _).mono ?_;rintro e w' ⟨rfl,rfl⟩;first | rw [h2] | rw [h3]) | (go_at_call 82;refine (isAddress_any _ _).mono ?_;rintro e w' ⟨rfl,rfl⟩;rw [h4]))
     go_ret
     exact ⟨ret_int (by simp [oneE,h1,h2,h3,h4]),rfl⟩
set_option maxHeartbeats 800000 in
theorem newer_any (na nb:ByteArray) (sa la aa:Int) (va:Bool) (sb lb ab:Int) (vb:Bool) (w:World) :
 Calls Tryz.prog 234 #[.agg #[.string na,.int .i64 sa,.int .i64 la,.int .i64 aa,.bool va],.agg #[.string nb,.int .i64 sb,.int .i64 lb,.int .i64 ab,.bool vb]] w fun e w'=>e=.returned (.bool (newB sa la aa va sb lb ab vb))∧w'=(w.alloc (.cells #[.string na,.int .i64 sa,.int .i64 la,.int .i64 aa,.bool va] 56)).alloc (.cells #[.string nb,.int .i64 sb,.int .i64 lb,.int .i64 ab,.bool vb] 56):=by
 by_cases h1:la=lb
 ·subst h1
  by_cases h2:sa=sb
  ·subst h2
   by_cases h3:aa=ab
   ·subst h3
    cases va
    all_goals
     go_enter Tryz.func234,Tryz.ntmps234
     go_wp2
     go_ret
     exact ⟨ret_bool (by simp [newB]),rfl⟩
   ·have h3':(aa != ab)=true:=by simpa using h3
    go_enter Tryz.func234,Tryz.ntmps234
    go_wp2
    go_ret
    exact ⟨ret_bool (by simp [newB,h3]),rfl⟩
  ·have h2':(sa != sb)=true:=by simpa using h2
   go_enter Tryz.func234,Tryz.ntmps234
   go_wp2
   go_ret
   exact ⟨ret_bool (by simp [newB,h2]),rfl⟩
 ·have h1':(la != lb)=true:=by simpa using h1
  go_enter Tryz.func234,Tryz.ntmps234
  go_wp2
  go_ret
  exact ⟨ret_bool (by simp [newB,h1]),rfl⟩
set_option maxHeartbeats 800000 in
theorem newerMember_any (na nb:ByteArray) (sa la aa:Int) (va:Bool) (sb lb ab:Int) (vb:Bool) (w:World) :
 Calls Tryz.prog 48 #[.agg #[.string na,.int .i64 sa,.int .i64 la,.int .i64 aa,.bool va],.agg #[.string nb,.int .i64 sb,.int .i64 lb,.int .i64 ab,.bool vb]] w fun e w'=>e=.returned (.bool (newB sa la aa va sb lb ab vb))∧w'=(w.alloc (.cells #[.string na,.int .i64 sa,.int .i64 la,.int .i64 aa,.bool va] 56)).alloc (.cells #[.string nb,.int .i64 sb,.int .i64 lb,.int .i64 ab,.bool vb] 56):=by
 by_cases h1:la=lb
 ·subst h1
  by_cases h2:sa=sb
  ·subst h2
   by_cases h3:aa=ab
   ·subst h3
    cases va
    all_goals
     go_enter Tryz.func48,Tryz.ntmps48
     go_wp2
     go_ret
     exact ⟨ret_bool (by simp [newB]),rfl⟩
   ·have h3':(aa != ab)=true:=by simpa using h3
    go_enter Tryz.func48,Tryz.ntmps48
    go_wp2
    go_ret
    exact ⟨ret_bool (by simp [newB,h3]),rfl⟩
  ·have h2':(sa != sb)=true:=by simpa using h2
   go_enter Tryz.func48,Tryz.ntmps48
   go_wp2
   go_ret
   exact ⟨ret_bool (by simp [newB,h2]),rfl⟩
 ·have h1':(la != lb)=true:=by simpa using h1
  go_enter Tryz.func48,Tryz.ntmps48
  go_wp2
  go_ret
  exact ⟨ret_bool (by simp [newB,h1]),rfl⟩
def Mem.e (m:Mem):Int:=oneE m.name m.state m.life m.addr
def firstE:List Mem→Int
 | []=>0
 | m :: r=>if m.e=0 then firstE r else m.e
theorem firstE_zero:∀ (ms:List Mem),(∀ j,j < ms.length→(ms.getD j dm).e=0)→firstE ms=0
 | [],_=>rfl
 | m :: r,h=>by
   have h0:=h 0 (by simp)
   simp only [List.getD_cons_zero] at h0
   rw [firstE,if_pos h0]
   exact firstE_zero r fun j hj=>by have:=h (j+1) (by simpa using hj);simpa using this
theorem firstE_at:∀ (ms:List Mem) (k:Nat),k < ms.length→(∀ j,j < k→(ms.getD j dm).e=0)→(ms.getD k dm).e≠0→firstE ms=(ms.getD k dm).e
 | [],k,h,_,_=>by simp at h
 | m :: r,0,_,_,hne=>by
   simp only [List.getD_cons_zero] at hne ⊢
   rw [firstE,if_neg hne]
 | m :: r,k+1,h,hz,hne=>by
   have h0:=hz 0 (by omega)
   simp only [List.getD_cons_zero] at h0
   rw [firstE,if_pos h0,List.getD_cons_succ]
   rw [List.getD_cons_succ] at hne
   exact firstE_at r k (by simpa using h) (fun j hj=>by have:=hz (j+1) (by omega);simpa using this) hne
def risesB:List Mem→Bool
 | a :: b :: r=>less a.name b.name && risesB (b :: r)
 | _=>true
theorem rises_all:∀ (ms:List Mem),(∀ j,j+1 < ms.length→less (ms.getD j dm).name (ms.getD (j+1) dm).name=true)→risesB ms=true
 | [],_=>rfl
 | [_],_=>rfl
 | a :: b :: r,h=>by
   have h0:=h 0 (by simp)
   simp only [List.getD_cons_zero,List.getD_cons_succ] at h0
   rw [risesB,h0,Bool.true_and]
   exact rises_all (b :: r) fun j hj=>by have:=h (j+1) (by simpa using hj);simpa using this
theorem rises_get:∀ (ms:List Mem),risesB ms=true→∀ j,j+1 < ms.length→less (ms.getD j dm).name (ms.getD (j+1) dm).name=true
 | [],_,j,h=>by simp at h
 | [_],_,j,h=>by simp at h
 | a :: b :: r,hr,0,_=>by
   rw [risesB,Bool.and_eq_true] at hr
   simpa using hr.1
 | a :: b :: r,hr,j+1,h=>by
   rw [risesB,Bool.and_eq_true] at hr
   have:=rises_get (b :: r) hr.2 j (by simpa using h)
   simpa using this
def chk (ms:List Mem):Int:=if 20 < ms.length then 2 else if firstE ms=0 then (if risesB ms=true then 0 else 4) else firstE ms
theorem chk_e (ms:List Mem) (k:Nat) (hn:ms.length≤20) (hk:k < ms.length) (hz:∀ j,j < k→(ms.getD j dm).e=0) (hne:(ms.getD k dm).e≠0):chk ms=(ms.getD k dm).e:=by
 have h:=firstE_at ms k hk hz hne
 rw [chk,if_neg (by omega),h,if_neg hne]
theorem chk_4 (ms:List Mem) (k:Nat) (hn:ms.length≤20) (hz:∀ j,j < ms.length→(ms.getD j dm).e=0) (hk:k+1 < ms.length) (hl:less (ms.getD k dm).name (ms.getD (k+1) dm).name=false):chk ms=4:=by
 rw [chk,if_neg (by omega),firstE_zero ms hz,if_pos rfl,if_neg]
 intro h
 have:=rises_get ms h k hk
 rw [hl] at this
 cases this
theorem chk_0 (ms:List Mem) (hn:ms.length≤20) (hz:∀ j,j < ms.length→(ms.getD j dm).e=0) (hl:∀ j,j+1 < ms.length→less (ms.getD j dm).name (ms.getD (j+1) dm).name=true):chk ms=0:=by
 rw [chk,if_neg (by omega),firstE_zero ms hz,if_pos rfl,if_pos (rises_all ms hl)]
structure At (ms:List Mem) (t:ByteArray) (p:Nat) (f:Bool):Prop where
 le:p≤ms.length
 lo:∀ j,j < p→cmpI (ms.getD j dm).name t < 0
 hi:∀ j,p≤j→j < ms.length→0≤cmpI (ms.getD j dm).name t
 is:f=true↔p < ms.length∧cmpI (ms.getD p dm).name t=0
def newM (a b:Mem):Bool:=newB a.state a.life a.addr a.server b.state b.life b.addr b.server
def hearL:List Mem→Mem→List Mem
 | [],m=>[m]
 | x :: r,m=>if cmpI x.name m.name < 0 then x :: hearL r m else if cmpI x.name m.name=0 then (if newM m x=true then m :: r else x :: r) else m :: x :: r
abbrev Rise (ms:List Mem):Prop:=ms.Pairwise fun a b=>less a.name b.name=true
theorem rise_of:∀ ms:List Mem,risesB ms=true→Rise ms
 | [],_=>.nil
 | [x],_=>by simp [Rise]
 | a :: b :: r,h=>by
   rw [risesB,Bool.and_eq_true] at h
   have ih:=rise_of (b :: r) h.2
   refine List.pairwise_cons.2 ⟨fun c hc=>?_,ih⟩
   rcases List.mem_cons.1 hc with rfl | hc
   ·exact h.1
   ·exact less_trans h.1 (List.rel_of_pairwise_cons ih hc)
theorem rises_of:∀ ms:List Mem,Rise ms→risesB ms=true
 | [],_=>rfl
 | [x],_=>rfl
 | a :: b :: r,h=>by
   rw [risesB,List.rel_of_pairwise_cons h (by simp),Bool.true_and]
   exact rises_of (b :: r) (List.Pairwise.of_cons h)
theorem rise_mono {ms:List Mem} (h:Rise ms) (t:ByteArray):∀ i j,i≤j→j < ms.length→cmpI (ms.getD j dm).name t < 0→cmpI (ms.getD i dm).name t < 0:=by
 intro i j hij hj hlt
 rcases Nat.lt_or_eq_of_le hij with hlt' | rfl
 ·have hp:=List.pairwise_iff_getElem.1 h i j (by omega) hj hlt'
  rw [cmpI_lt] at hlt ⊢
  have e1:ms.getD i dm=ms[i]:=by simp [List.getD,List.getElem?_eq_getElem (show i < ms.length by omega)]
  have e2:ms.getD j dm=ms[j]:=by simp [List.getD,List.getElem?_eq_getElem hj]
  rw [e1];rw [e2] at hlt
  exact less_trans hp hlt
 ·exact hlt
theorem hearL_at:∀ (ms:List Mem) (m:Mem) (p:Nat) (f:Bool),At ms m.name p f →
 hearL ms m=if f=true then (if newM m (ms.getD p dm)=true then ms.set p m else ms) else ms.take p++m :: ms.drop p
 | [],m,p,f,h=>by
   have hp:p=0:=by have:=h.le;simpa using this
   subst hp
   have hf:f=false:=by
    cases f
    ·rfl
    ·have:=h.is.1 rfl;simp at this
   subst hf
   simp [hearL]
 | x :: r,m,0,f,h=>by
   have h0:=h.hi 0 (Nat.le_refl _) (by simp)
   simp only [List.getD_cons_zero] at h0
   rw [hearL,if_neg (by omega)]
   cases f
   ·have hne:¬ cmpI x.name m.name=0:=fun e=>by have:=h.is.2 ⟨by simp,by simpa using e⟩;cases this
    rw [if_neg hne];simp
   ·have he:=(h.is.1 rfl).2
    simp only [List.getD_cons_zero] at he
    rw [if_pos he]
    simp only [List.getD_cons_zero,List.set_cons_zero,if_pos]
 | x :: r,m,p+1,f,h=>by
   have h0:=h.lo 0 (by omega)
   simp only [List.getD_cons_zero] at h0
   have hr:At r m.name p f:=⟨by have:=h.le;simpa using this,fun j hj=>by have:=h.lo (j+1) (by omega);simpa using this,
    fun j hj hl=>by have:=h.hi (j+1) (by omega) (by simpa using hl);simpa using this,by have:=h.is;simpa using this⟩
   rw [hearL,if_pos h0,hearL_at r m p f hr]
   cases f
   ·simp
   ·simp only [if_pos,List.getD_cons_succ,List.set_cons_succ]
    split<;>rfl
theorem hearL_mem:∀ (ms:List Mem) (m x:Mem),x∈hearL ms m→x=m∨x∈ms
 | [],m,x,h=>by simp [hearL] at h;exact .inl h
 | y :: r,m,x,h=>by
   rw [hearL] at h
   split at h
   ·rcases List.mem_cons.1 h with rfl | h
    ·exact .inr (by simp)
    ·rcases hearL_mem r m x h with h | h
     ·exact .inl h
     ·exact .inr (by simp [h])
   ·split at h
    ·split at h
     ·rcases List.mem_cons.1 h with h | h
      ·exact .inl h
      ·exact .inr (by simp [h])
     ·exact .inr h
    ·rcases List.mem_cons.1 h with h | h
     ·exact .inl h
     ·exact .inr h
theorem hearL_rise:∀ (ms:List Mem) (m:Mem),Rise ms→Rise (hearL ms m)
 | [],m,_=>by simp [hearL]
 | x :: r,m,h=>by
   have hx:=List.pairwise_cons.1 h
   rw [hearL]
   split
   ·rename_i hlt
    refine List.pairwise_cons.2 ⟨fun y hy=>?_,hearL_rise r m hx.2⟩
    rcases hearL_mem r m y hy with rfl | hy
    ·exact (cmpI_lt _ _).1 hlt
    ·exact hx.1 y hy
   ·rename_i hlt
    split
    ·rename_i he
     have hn:x.name=m.name:=(cmpI_eq _ _).1 he
     split
     ·exact List.pairwise_cons.2 ⟨fun y hy=>by rw [← hn];exact hx.1 y hy,hx.2⟩
     ·exact h
    ·rename_i he
     have hg:less m.name x.name=true:=(cmpI_gt _ _).1 (by omega)
     refine List.pairwise_cons.2 ⟨fun y hy=>?_,h⟩
     rcases List.mem_cons.1 hy with rfl | hy
     ·exact hg
     ·exact less_trans hg (hx.1 y hy)
theorem hearL_len:∀ (ms:List Mem) (m:Mem),ms.length≤(hearL ms m).length∧(hearL ms m).length≤ms.length+1
 | [],m=>by simp [hearL]
 | x :: r,m=>by
   have:=hearL_len r m
   rw [hearL]
   split
   ·simp;omega
   ·split
    ·split<;>simp
    ·simp
def joinL (a b:List Mem):List Mem:=b.foldl hearL a
theorem joinL_rise:∀ (b a:List Mem),Rise a→Rise (joinL a b)
 | [],_,h=>h
 | m :: r,a,h=>joinL_rise r (hearL a m) (hearL_rise a m h)
theorem joinL_len:∀ (b a:List Mem),(joinL a b).length≤a.length+b.length
 | [],_=>by simp [joinL]
 | m :: r,a=>by
   have h1:=joinL_len r (hearL a m)
   have h2:=hearL_len a m
   simp only [joinL,List.foldl_cons,List.length_cons] at *
   omega
theorem at_uniq {ms:List Mem} {nm:ByteArray} {p q:Nat} {f e:Bool} (h:At ms nm p f) (k:At ms nm q e):p=q∧f=e:=by
 have hpq:p=q:=by
  rcases Nat.lt_trichotomy p q with hlt | rfl | hlt
  ·have h1:=k.lo p hlt
   have h2:=h.hi p (Nat.le_refl _) (by have:=k.le;omega)
   omega
  ·rfl
  ·have h1:=h.lo q hlt
   have h2:=k.hi q (Nat.le_refl _) (by have:=h.le;omega)
   omega
 subst hpq
 refine ⟨rfl,?_⟩
 rw [Bool.eq_iff_iff,h.is,k.is]
theorem ns_hear {ms:List Mem} {m:Mem} (h:∀ m∈ms,m.name.size≤maxLen) (hm:m.name.size≤maxLen):∀ x∈hearL ms m,x.name.size≤maxLen:=by
 intro x hx
 rcases hearL_mem ms m x hx with rfl | hx
 ·exact hm
 ·exact h x hx
theorem ns_join:∀ (b a:List Mem),(∀ m∈a,m.name.size≤maxLen)→(∀ m∈b,m.name.size≤maxLen)→∀ x∈joinL a b,x.name.size≤maxLen
 | [],_,ha,_=>ha
 | m :: r,a,ha,hb=>ns_join r (hearL a m) (ns_hear ha (hb m (by simp))) (fun x hx=>hb x (by simp [hx]))
theorem joinL_take (a b:List Mem) (j:Nat) (hj:j < b.length):joinL a (b.take (j+1))=hearL (joinL a (b.take j)) (b.getD j dm):=by
 have e:b.getD j dm=b[j]:=by simp [List.getD,List.getElem?_eq_getElem hj]
 rw [e,List.take_succ_eq_append_getElem hj,joinL,List.foldl_append,joinL]
 rfl
theorem hearL_last:∀ (a:List Mem) (m:Mem),(∀ x∈a,less x.name m.name=true)→hearL a m=a++[m]
 | [],_,_=>rfl
 | x :: r,m,h=>by
   rw [hearL,if_pos ((cmpI_lt _ _).2 (h x (by simp))),hearL_last r m (fun y hy=>h y (by simp [hy]))]
   rfl
theorem joinL_app:∀ (b a:List Mem),Rise (a++b)→joinL a b=a++b
 | [],a,_=>by simp [joinL]
 | m :: r,a,h=>by
   have h1:hearL a m=a++[m]:=hearL_last a m fun x hx=>(List.pairwise_append.1 h).2.2 x hx m (by simp)
   have h2:=joinL_app r (a++[m]) (by simpa using h)
   simp only [joinL,List.foldl_cons,h1] at h2 ⊢
   rw [h2];simp
theorem joinL_nil (b:List Mem) (h:Rise b):joinL [] b=b:=joinL_app b [] h
theorem chk_zero {ms:List Mem} (h:chk ms=0):ms.length≤20∧Rise ms∧firstE ms=0:=by
 unfold chk at h
 split at h
 ·omega
 ·split at h
  ·rename_i h1 h2
   split at h
   ·rename_i h3
    exact ⟨by omega,rise_of ms h3,h2⟩
   ·omega
  ·rename_i h1 h2;exact absurd h h2
def chkTwo (a b:List Mem):Int:=if chk a=0 then chk b else chk a
def stg (a b:List Mem) (k:Nat):List Mem:=if k=0 then [] else if k=1 then a else joinL a b
def joinE (a b:List Mem):Int:=if chkTwo a b=0 then (if 20 < (joinL a b).length then 2 else 0) else chkTwo a b
theorem rises_allO (ms:List Mem) (h:∀ j,j+1 < ms.length→cmpI (ms.getD j dm).name (ms.getD (j+1) dm).name < 0):risesB ms=true:=rises_all ms fun j hj=>(cmpI_lt _ _).1 (h j hj)
theorem rises_getO (ms:List Mem) (h:risesB ms=true):∀ j,j+1 < ms.length→cmpI (ms.getD j dm).name (ms.getD (j+1) dm).name < 0:=fun j hj=>(cmpI_lt _ _).2 (rises_get ms h j hj)
theorem chk_r (ms:List Mem) (hn:ms.length≤20) (hz:∀ j,j < ms.length→(ms.getD j dm).e=0):chk ms=if risesB ms=true then 0 else 4:=by
 rw [chk,if_neg (by omega),firstE_zero ms hz,if_pos rfl]
set_option maxHeartbeats 400000 in
theorem order_any (a b:Mem) (w:World) :
 Calls Tryz.prog 179 #[.agg #[.string a.name,.int .i64 a.state,.int .i64 a.life,.int .i64 a.addr,.bool a.server],.agg #[.string b.name,.int .i64 b.state,.int .i64 b.life,.int .i64 b.addr,.bool b.server]] w fun e w'=>e=.returned (.int .i64 (cmpI a.name b.name))∧Below w.heap.size w w':=by
 go_enter Tryz.func179,Tryz.ntmps179
 go_wp2_with (go_at_call 99;refine (compare_any _ _ _).mono ?_;rintro e w' ⟨rfl,rfl⟩)
 go_ret
 exact ⟨rfl,((Below.refl _ _).alloc (Nat.le_refl _) _).alloc (by simp) _⟩
theorem newerE_any (a b:Mem) (w:World) :
 Calls Tryz.prog 234 #[.agg #[.string a.name,.int .i64 a.state,.int .i64 a.life,.int .i64 a.addr,.bool a.server],.agg #[.string b.name,.int .i64 b.state,.int .i64 b.life,.int .i64 b.addr,.bool b.server]] w fun e w'=>e=.returned (.bool (newM a b))∧Below w.heap.size w w':=by
 refine (newer_any a.name b.name a.state a.life a.addr a.server b.state b.life b.addr b.server w).mono ?_
 rintro e w' ⟨rfl,rfl⟩
 exact ⟨rfl,((Below.refl _ _).alloc (Nat.le_refl _) _).alloc (by simp) _⟩
end Go.Proofs.YtffdoiokmiklgaaGreatDoor
