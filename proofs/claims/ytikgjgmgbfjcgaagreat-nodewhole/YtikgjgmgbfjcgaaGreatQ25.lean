import Derived.Test.YtikgjgmgbfjcgaaGreatQ20
import Derived.Test.YtikgjgmgbfjcgaaGreatQ24
namespace Go.Proofs.YtikgjgmgbfjcgaaGreat
open Go.RowKit
def posM (ms:List Mem) (t:ByteArray):Nat:=ms.findIdx fun m => !decide (cmpI m.name t < 0)
def isM (ms:List Mem) (t:ByteArray):Bool:=decide (posM ms t < ms.length) && decide (cmpI (ms.getD (posM ms t) dm).name t=0)
theorem at_pos {ms:List Mem} (hr:Rise ms) (t:ByteArray):At ms t (posM ms t) (isM ms t):=by
 have hget:∀ j (h:j < ms.length),ms.getD j dm=ms[j]:=fun j h=>by simp [List.getD,List.getElem?_eq_getElem h]
 refine ⟨List.findIdx_le_length,fun j hj=>?_,fun j hj hl=>?_,?_⟩
 ·have hl:j < ms.length:=Nat.lt_of_lt_of_le hj List.findIdx_le_length
  have h:=List.not_of_lt_findIdx hj
  rw [hget j hl]
  simpa using h
 ·have hp:posM ms t < ms.length:=by omega
  have h:=List.findIdx_getElem (xs:=ms) (p:=fun m:Mem => !decide (cmpI m.name t < 0)) (w:=hp)
  apply Int.not_lt.1
  intro hx
  have h2:=rise_mono hr t (posM ms t) j hj hl hx
  rw [hget _ hp] at h2
  have h3:(!decide (cmpI (ms[posM ms t]'hp).name t < 0))=true:=h
  rw [decide_eq_true h2] at h3
  cases h3
 ·unfold isM
  rw [Bool.and_eq_true,decide_eq_true_eq,decide_eq_true_eq]
theorem fst_some_of {ms:List Mem} {t:ByteArray} {p:Nat} (h:At ms t p true):fstM ms t=some (ms.getD p dm):=by
 obtain ⟨h1,h2⟩:=h.is.1 rfl
 refine fstM_some h1 (fun j hj e=>?_) ((cmpI_eq _ _).1 h2)
 have:=h.lo j hj
 rw [e,(cmpI_eq t t).2 rfl] at this
 omega
theorem fst_none_of {ms:List Mem} {t:ByteArray} {p:Nat} (hr:Rise ms) (h:At ms t p false):fstM ms t=none:=by
 refine fstM_none fun j hj e=>?_
 have hget:∀ j (h:j < ms.length),ms.getD j dm=ms[j]:=fun j h=>by simp [List.getD,List.getElem?_eq_getElem h]
 have h2:At ms t j true:=by
  refine ⟨by omega,fun i hi=>?_,fun i hi hl=>?_,⟨fun _=>⟨hj,(cmpI_eq _ _).2 e⟩,fun _=>rfl⟩⟩
  ·have:=List.pairwise_iff_getElem.1 hr i j (by omega) hj hi
   rw [← e,cmpI_lt,hget i (by omega),hget j hj];exact this
  ·rcases Nat.lt_or_eq_of_le hi with h3 | rfl
   ·have:=List.pairwise_iff_getElem.1 hr j i hj hl h3
    have h4:0 < cmpI (ms.getD i dm).name t:=by rw [← e,cmpI_gt,hget i hl,hget j hj];exact this
    omega
   ·rw [(cmpI_eq _ _).2 e];omega
 have:=(at_uniq h h2).2
 cases this
theorem fst_at {ms:List Mem} {t:ByteArray} {p:Nat} {f:Bool} (hr:Rise ms) (h:At ms t p f):fstM ms t=if f=true then some (ms.getD p dm) else none:=by
 cases f
 ·rw [fst_none_of hr h];rfl
 ·rw [fst_some_of h];rfl
theorem cmp_ne {a b:ByteArray} (h:cmpI a b < 0):a≠b:=fun e=>by rw [(cmpI_eq a b).2 e] at h;omega
theorem fst_cons (x:Mem) (r:List Mem) (t:ByteArray):fstM (x :: r) t=if x.name=t then some x else fstM r t:=by
 unfold fstM
 rw [List.find?_cons]
 by_cases h:x.name=t<;>simp [h]
theorem fst_hear_ne (m:Mem) (t:ByteArray) (ht:m.name≠t):∀ ms,fstM (hearL ms m) t=fstM ms t
 | []=>by rw [hearL,fst_cons,if_neg ht]
 | x :: r=>by
   rw [hearL]
   split
   ·rw [fst_cons,fst_cons,fst_hear_ne m t ht r]
   ·rename_i h1
    split
    ·rename_i h2
     have e:x.name=m.name:=(cmpI_eq _ _).1 h2
     split
     ·rw [fst_cons,fst_cons,if_neg ht,if_neg (by rw [e];exact ht)]
     ·rfl
    ·rw [fst_cons,if_neg ht]
theorem fst_hear (m:Mem):∀ ms,hearL ms m≠ms→fstM (hearL ms m) m.name=some m
 | [],_=>by rw [hearL,fst_cons,if_pos rfl]
 | x :: r,h=>by
   rw [hearL] at h ⊢
   split
   ·rename_i h1
    rw [if_pos h1] at h
    rw [fst_cons,if_neg (cmp_ne h1)]
    exact fst_hear m r (fun e=>h (by rw [e]))
   ·rename_i h1
    rw [if_neg h1] at h
    split
    ·rename_i h2
     rw [if_pos h2] at h
     split
     ·rw [fst_cons,if_pos rfl]
     ·rename_i h3;rw [if_neg h3] at h;exact absurd rfl h
    ·rw [fst_cons,if_pos rfl]
def rAt (rs:List Rum) (t:ByteArray):Nat:=rs.findIdx fun r=>decide (r.m.name=t)
theorem rAt_lo {rs:List Rum} {t:ByteArray} {j:Nat} (h:j < rAt rs t):(rs.getD j dr).m.name≠t:=by
 have hl:j < rs.length:=Nat.lt_of_lt_of_le h List.findIdx_le_length
 have h:=List.not_of_lt_findIdx h
 rw [show rs.getD j dr=rs[j] by simp [List.getD,List.getElem?_eq_getElem hl]]
 simpa using h
theorem rAt_is {rs:List Rum} {t:ByteArray} (h:rAt rs t < rs.length):(rs.getD (rAt rs t) dr).m.name=t:=by
 have h2:=List.findIdx_getElem (xs:=rs) (p:=fun r:Rum=>decide (r.m.name=t)) (w:=h)
 rw [show rs.getD (rAt rs t) dr=rs[rAt rs t] by simp [List.getD,List.getElem?_eq_getElem h]]
 exact of_decide_eq_true h2
theorem rAt_no {rs:List Rum} {t:ByteArray} (h:¬ rAt rs t < rs.length):NotIn rs t:=fun j hj=>rAt_lo (by
 have:rAt rs t≤rs.length:=List.findIdx_le_length
 omega)
theorem rAt_ne {rs:List Rum} (hd:Distinct rs) {t:ByteArray} {j:Nat} (hj:j < rs.length) (hne:j≠rAt rs t):(rs.getD j dr).m.name≠t:=by
 rcases Nat.lt_or_ge j (rAt rs t) with h | h
 ·exact rAt_lo h
 ·have hlt:rAt rs t < j:=by omega
  intro e
  exact hd (rAt rs t) j hlt hj (by rw [e];exact rAt_is (by omega))
def putL (rs:List Rum) (m:Mem):List Rum:=
 if rAt rs m.name < rs.length then (if newM m (rs.getD (rAt rs m.name) dr).m=true then rs.eraseIdx (rAt rs m.name)++[⟨m,0⟩] else rs) else rs++[⟨m,0⟩]
def putE (rs:List Rum) (m:Mem):Int:=if 20 < (putL rs m).length then 2 else 0
set_option maxHeartbeats 800000 in
theorem put_any (rs:List Rum) (v:Value) (m:Mem) (w:World) (hv:RSl w v rs) (hm:m.name.size≤maxLen) (h0:chkR rs=0) (he:m.e=0) :
 Calls Tryz.prog 206 #[v,.agg #[.string m.name,.int .i64 m.state,.int .i64 m.life,.int .i64 m.addr,.bool m.server]] w fun e w'=>∃ a k c,e=.returned (.tuple #[.slice a k c,.int .i64 (putE rs m)])∧Below w.heap.size w w'∧(putE rs m=0→ROwn w.heap.size w' (.slice a k c) (putL rs m)):=by
 have hl:=(chkR_e0 h0).1
 have sl:∀ {W:World} {B:Nat} {u:Value} {l:List Rum},ROwn B W u l→∃ a k c,u=.slice a k c:=fun h=>by
  obtain ⟨a,c,e⟩:=h.slice
  exact ⟨a,_,c,e⟩
 by_cases hp:rAt rs m.name < rs.length
 ·rcases hn:newM m (rs.getD (rAt rs m.name) dr).m with _ | _
  ·have e1:putL rs m=rs:=by unfold putL;rw [if_pos hp,if_neg (by rw [hn];simp)]
   have e2:putE rs m=0:=by unfold putE;rw [e1,if_neg (by omega)]
   refine (put_old rs v m w hv hm h0 he _ hp (rAt_is hp) hn).mono ?_
   rintro e w' ⟨v',rfl,ho,hb⟩
   obtain ⟨a,k,c,rfl⟩:=sl ho
   exact ⟨a,k,c,by rw [e2],hb,fun _=>by rw [e1];exact ho⟩
  ·have e1:putL rs m=rs.eraseIdx (rAt rs m.name)++[⟨m,0⟩]:=by unfold putL;rw [if_pos hp,if_pos hn]
   have e2:putE rs m=0:=by unfold putE;rw [e1,if_neg (by rw [List.length_append,List.length_eraseIdx_of_lt hp];simp;omega)]
   refine (put_newer rs v m w hv hm h0 he _ hp (rAt_is hp) hn).mono ?_
   rintro e w' ⟨v',rfl,ho,hb⟩
   obtain ⟨a,k,c,rfl⟩:=sl ho
   exact ⟨a,k,c,by rw [e2],hb,fun _=>by rw [e1];exact ho⟩
 ·have e1:putL rs m=rs++[⟨m,0⟩]:=by unfold putL;rw [if_neg hp]
  by_cases hf:rs.length=20
  ·have e2:putE rs m=2:=by unfold putE;rw [e1,if_pos (by rw [List.length_append];simp;omega)]
   refine (put_full rs v m w hv hm h0 he (rAt_no hp) hf).mono ?_
   rintro e w' ⟨rfl,hb⟩
   exact ⟨none,0,0,by rw [e2],hb,fun h=>by rw [e2] at h;cases h⟩
  ·have e2:putE rs m=0:=by unfold putE;rw [e1,if_neg (by rw [List.length_append];simp;omega)]
   refine (put_new rs v m w hv hm h0 he (rAt_no hp) (by omega)).mono ?_
   rintro e w' ⟨v',rfl,ho,hb⟩
   obtain ⟨a,k,c,rfl⟩:=sl ho
   exact ⟨a,k,c,by rw [e2],hb,fun _=>by rw [e1];exact ho⟩
theorem distinct_pw (rs:List Rum):Distinct rs↔rs.Pairwise fun a b=>a.m.name≠b.m.name:=by
 have hget:∀ j (h:j < rs.length),rs.getD j dr=rs[j]:=fun j h=>by simp [List.getD,List.getElem?_eq_getElem h]
 rw [List.pairwise_iff_getElem]
 exact ⟨fun h i j hi hj hij=>by have:=h i j hij hj;rwa [hget i hi,hget j hj] at this,fun h i j hij hj=>by rw [hget i (by omega),hget j hj];exact h i j (by omega) hj hij⟩
theorem told_mem (rs:List Rum):AllTold rs↔∀ r∈rs,within r.told 0 100=true:=by
 have hget:∀ j (h:j < rs.length),rs.getD j dr=rs[j]:=fun j h=>by simp [List.getD,List.getElem?_eq_getElem h]
 constructor
 ·intro h r hr
  obtain ⟨j,hj,rfl⟩:=List.getElem_of_mem hr
  have:=h j hj;rwa [hget j hj] at this
 ·intro h j hj
  rw [hget j hj];exact h _ (List.getElem_mem _)
theorem chkR_of {rs:List Rum} (h1:rs.length≤20) (h2:∀ r∈rs,r.m.e=0) (h3:∀ r∈rs,within r.told 0 100=true) (h4:rs.Pairwise fun a b=>a.m.name≠b.m.name):chkR rs=0:=by
 have hget:∀ j (h:j < rs.length),rs.getD j dr=rs[j]:=fun j h=>by simp [List.getD,List.getElem?_eq_getElem h]
 exact chkR_ok h1 (fun j hj=>by rw [hget j hj];exact h2 _ (List.getElem_mem _)) ((told_mem rs).2 h3) ((distinct_pw rs).2 h4)
theorem putL_mem {rs:List Rum} {m:Mem} {r:Rum} (h:r∈putL rs m):r∈rs∨r=⟨m,0⟩:=by
 unfold putL at h
 split at h
 ·split at h
  ·rcases List.mem_append.1 h with h | h
   ·exact .inl (List.mem_of_mem_eraseIdx h)
   ·exact .inr (by simpa using h)
  ·exact .inl h
 ·rcases List.mem_append.1 h with h | h
  ·exact .inl h
  ·exact .inr (by simpa using h)
theorem chkR_put {rs:List Rum} {m:Mem} (h:chkR rs=0) (hm:m.e=0) (hp:putE rs m=0):chkR (putL rs m)=0:=by
 obtain ⟨l1,l2,l3,l4⟩:=chkR_e0 h
 have hlen:(putL rs m).length≤20:=by
  unfold putE at hp
  split at hp
  ·cases hp
  ·omega
 rw [told_mem] at l3
 have hd:=(distinct_pw rs).1 l4
 refine chkR_of hlen (fun r hr=>?_) (fun r hr=>?_) ?_
 ·rcases putL_mem hr with h | rfl
  ·exact l2 r h
  ·exact hm
 ·rcases putL_mem hr with h | rfl
  ·exact l3 r h
  ·rfl
 ·unfold putL
  split
  ·rename_i hlt
   split
   ·rw [List.pairwise_append]
    refine ⟨hd.sublist (List.eraseIdx_sublist _ _),by simp,fun a ha b hb=>?_⟩
    simp at hb;subst hb
    obtain ⟨i,hi,hne,rfl⟩:=List.mem_eraseIdx_iff_getElem.1 ha
    have:=rAt_ne l4 hi hne
    rwa [show rs.getD i dr=rs[i] by simp [List.getD,List.getElem?_eq_getElem hi]] at this
   ·exact hd
  ·rename_i hlt
   rw [List.pairwise_append]
   refine ⟨hd,by simp,fun a ha b hb=>?_⟩
   simp at hb;subst hb
   obtain ⟨i,hi,rfl⟩:=List.getElem_of_mem ha
   have:=rAt_no hlt i hi
   rwa [show rs.getD i dr=rs[i] by simp [List.getD,List.getElem?_eq_getElem hi]] at this
theorem chk_of {ms:List Mem} (h1:ms.length≤20) (h2:Rise ms) (h3:∀ m∈ms,m.e=0):chk ms=0:=by
 have hget:∀ j (h:j < ms.length),ms.getD j dm=ms[j]:=fun j h=>by simp [List.getD,List.getElem?_eq_getElem h]
 rw [chk_r ms h1 (fun j hj=>by rw [hget j hj];exact h3 _ (List.getElem_mem _)),if_pos (rises_of ms h2)]
theorem chk_hear {ms:List Mem} {m:Mem} (h:chk ms=0) (hm:m.e=0) (hl:(hearL ms m).length≤20):chk (hearL ms m)=0:=by
 obtain ⟨_,h2,_⟩:=chk_zero h
 refine chk_of hl (hearL_rise ms m h2) (fun x hx=>?_)
 rcases hearL_mem ms m x hx with rfl | hx
 ·exact hm
 ·exact chk_e0 h x hx
theorem joinE_one {ms:List Mem} {m:Mem} (h:chk ms=0) (hm:m.e=0):joinE ms [m]=if 20 < (hearL ms m).length then 2 else 0:=by
 unfold joinE chkTwo
 rw [if_pos h,chk_oneR,if_pos hm]
 rfl
def chgB (ms:List Mem) (m:Mem):Bool:=match fstM ms m.name with
 | none=>true
 | some k=>newM m k
theorem newM_self (m:Mem):newM m m=false:=by
 unfold newM newB
 simp
theorem chgB_iff {ms:List Mem} (hr:Rise ms) (m:Mem):chgB ms m=true↔hearL ms m≠ms:=by
 have hat:=at_pos hr m.name
 have hf:=fst_at hr hat
 have hh:=hearL_at ms m _ _ hat
 unfold chgB
 rw [hf,hh]
 rcases he:isM ms m.name with _ | _
 ·simp only [Bool.false_eq_true,if_false,ne_eq,true_iff]
  intro e
  have:=congrArg List.length e
  have hle:=hat.le
  simp at this
  omega
 ·simp only [if_true]
  rw [he] at hat
  have hp:=(hat.is.1 rfl).1
  by_cases hn:newM m (ms.getD (posM ms m.name) dm)=true
  ·rw [if_pos hn]
   refine ⟨fun _ e=>?_,fun _=>hn⟩
   have h2:ms.getD (posM ms m.name) dm=m:=by
    have:(ms.set (posM ms m.name) m).getD (posM ms m.name) dm=m:=by simp [List.getD,hp]
    rwa [e] at this
   rw [h2,newM_self] at hn
   cases hn
  ·rw [if_neg hn]
   exact ⟨fun h=>absurd h hn,fun h=>absurd rfl h⟩
theorem chg_no {ms:List Mem} (hr:Rise ms) {m:Mem} (h:chgB ms m=false):hearL ms m=ms:=by
 apply Classical.byContradiction
 intro hne
 rw [(chgB_iff hr m).2 hne] at h
 cases h
def rfP (n:Nd):Nat:=posM n.ms n.name
def rfF (n:Nd):Bool:=isM n.ms n.name
def rfL (n:Nd):List Mem:=refL n.ms (rfP n) (rfF n)
def rfM (n:Nd):Mem:=mOf (rfL n) n.name
def rfE (n:Nd):Int:=if refE n.ms (rfP n) (rfF n)=0 then (if refR n.ms (rfP n) (rfF n)=true then putE n.rs (rfM n) else 0) else refE n.ms (rfP n) (rfF n)
def rfN (n:Nd):Nd:=if refR n.ms (rfP n) (rfF n)=true then { n with ms:=rfL n,rs:=putL n.rs (rfM n) } else { n with ms:=rfL n }
def sp1 (n:Nd) (m:Mem):Nd:=if chgB n.ms m=true then { n with ms:=hearL n.ms m,rs:=putL n.rs m } else { n with ms:=hearL n.ms m }
def sp1E (n:Nd) (m:Mem):Int:=if joinE n.ms [m]=0 then (if chgB n.ms m=true then putE n.rs m else 0) else joinE n.ms [m]
def spE (n:Nd) (m:Mem):Int:=if sp1E n m=0 then (if m.name=n.name then rfE (sp1 n m) else 0) else sp1E n m
def spN (n:Nd) (m:Mem):Nd:=if m.name=n.name then rfN (sp1 n m) else sp1 n m
theorem mOf_at {ms:List Mem} {t:ByteArray} {p:Nat} (h:At ms t p true):mOf ms t=ms.getD p dm:=mOf_some (fst_some_of h)
theorem at_set {ms:List Mem} {t:ByteArray} {p:Nat} (h:At ms t p true) {x:Mem} (hx:x.name=t):At (ms.set p x) t p true:=by
 obtain ⟨h1,h2⟩:=h.is.1 rfl
 have hg:∀ j,(ms.set p x).getD j dm=if j=p then x else ms.getD j dm:=fun j=>by
  by_cases e:j=p
  ·subst e;simp [List.getD,h1]
  ·simp [List.getD,List.getElem?_set_ne (Ne.symm e),e]
 refine ⟨by rw [List.length_set];exact h.le,fun j hj=>?_,fun j hj hl=>?_,⟨fun _=>⟨by rw [List.length_set];exact h1,?_⟩,fun _=>rfl⟩⟩
 ·rw [hg j,if_neg (by omega)];exact h.lo j hj
 ·rw [hg j]
  split
  ·rw [hx,(cmpI_eq t t).2 rfl];omega
  ·rw [List.length_set] at hl;exact h.hi j hj hl
 ·rw [hg p,if_pos rfl,hx];exact (cmpI_eq t t).2 rfl
theorem mem_e0 (m:Mem):m.e=0↔labB m.name=true∧within m.state 1 4=true∧within m.life 1 1000000=true∧within m.addr 0 4294967295=true:=by
 unfold Mem.e oneE
 constructor
 ·intro h
  split at h
  ·rename_i h1
   split at h
   ·rename_i h2
    split at h
    ·rename_i h3
     split at h
     ·rename_i h4;exact ⟨h1,h2,h3,h4⟩
     ·cases h
    ·cases h
   ·cases h
  ·cases h
 ·rintro ⟨h1,h2,h3,h4⟩
  rw [if_pos h1,if_pos h2,if_pos h3,if_pos h4]
theorem within_iff {n a b:Int}:within n a b=true↔a≤n∧n≤b:=by unfold within;rw [Bool.and_eq_true,decide_eq_true_eq,decide_eq_true_eq]
theorem liveAgain_e {m:Mem} (h:m.e=0) (hl:m.life≠1000000):(liveAgain m).e=0:=by
 obtain ⟨h1,h2,h3,h4⟩:=(mem_e0 m).1 h
 rw [within_iff] at h3
 exact (mem_e0 _).2 ⟨h1,rfl,within_iff.2 ⟨by show (1:Int)≤m.life+1;omega,by show m.life+1≤1000000;omega⟩,h4⟩
theorem rf_facts {n:Nd} (h:chk n.ms=0) (hR:refR n.ms (rfP n) (rfF n)=true) :
 rfF n=true∧At n.ms n.name (rfP n) true∧rfL n=n.ms.set (rfP n) (liveAgain (n.ms.getD (rfP n) dm))∧rfM n=liveAgain (n.ms.getD (rfP n) dm)∧(rfM n).e=0∧(n.ms.getD (rfP n) dm).name=n.name∧rfP n < n.ms.length:=by
 have hr:=(chk_zero h).2.1
 have hat:At n.ms n.name (rfP n) (rfF n):=at_pos hr n.name
 have hR2:=hR
 unfold refR at hR
 rw [Bool.and_eq_true,Bool.and_eq_true] at hR
 obtain ⟨⟨h1,_⟩,h3⟩:=hR
 rw [h1] at hat
 obtain ⟨hp,hc⟩:=hat.is.1 rfl
 have hn:(n.ms.getD (rfP n) dm).name=n.name:=(cmpI_eq _ _).1 hc
 have hL:rfL n=n.ms.set (rfP n) (liveAgain (n.ms.getD (rfP n) dm)):=by unfold rfL refL;rw [if_pos hR2]
 have hM:rfM n=liveAgain (n.ms.getD (rfP n) dm):=by
  unfold rfM
  rw [hL,mOf_at (at_set hat (x:=liveAgain (n.ms.getD (rfP n) dm)) hn)]
  simp [List.getD,hp]
 have he:(n.ms.getD (rfP n) dm).e=0:=chk_e0 h _ (by rw [show n.ms.getD (rfP n) dm=n.ms[rfP n] by simp [List.getD,List.getElem?_eq_getElem hp]];exact List.getElem_mem _)
 exact ⟨h1,hat,hL,hM,by rw [hM];exact liveAgain_e he (by simpa using h3),hn,hp⟩
end Go.Proofs.YtikgjgmgbfjcgaaGreat
