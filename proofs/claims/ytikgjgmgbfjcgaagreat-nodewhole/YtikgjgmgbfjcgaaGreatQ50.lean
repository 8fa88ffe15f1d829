import Derived.Test.YtikgjgmgbfjcgaaGreatQ28
import Derived.Test.YtikgjgmgbfjcgaaGreatQ33
import Derived.Test.YtikgjgmgbfjcgaaGreatQ25
import Derived.Test.YtikgjgmgbfjcgaaGreatQ26
import Derived.Test.YtikgjgmgbfjcgaaGreatQ24
import Derived.Test.YtikgjgmgbfjcgaaGreatQ29
import Derived.Test.YtikgjgmgbfjcgaaGreatQ48
import Derived.Test.YtikgjgmgbfjcgaaGreatQ35
import Derived.Test.YtikgjgmgbfjcgaaGreatQ11
import Derived.Test.YtikgjgmgbfjcgaaGreatQ44
import Derived.Test.YtikgjgmgbfjcgaaGreatQ41
import Derived.Lib.QuietBelow
namespace Go.Proofs.YtikgjgmgbfjcgaaGreat
open Go.RowKit
theorem newM_lt (a b:Mem):newM a b=true↔b.life < a.life∨(b.life=a.life∧(b.state < a.state∨(b.state=a.state∧(b.addr < a.addr∨(b.addr=a.addr∧(b.server=false∧a.server=true)))))):=by
 unfold newM newB
 by_cases h1:a.life=b.life
 ·rw [if_pos h1]
  by_cases h2:a.state=b.state
  ·rw [if_pos h2]
   by_cases h3:a.addr=b.addr
   ·rw [if_pos h3]
    cases ha:a.server<;>cases hb:b.server<;>simp<;>omega
   ·rw [if_neg h3,decide_eq_true_eq]
    constructor
    ·intro h;exact .inr ⟨h1.symm,.inr ⟨h2.symm,.inl h⟩⟩
    ·rintro (h | ⟨_,h | ⟨_,h | ⟨h,_⟩⟩⟩)<;>omega
  ·rw [if_neg h2,decide_eq_true_eq]
   constructor
   ·intro h;exact .inr ⟨h1.symm,.inl h⟩
   ·rintro (h | ⟨_,h | ⟨h,_⟩⟩)<;>omega
 ·rw [if_neg h1,decide_eq_true_eq]
  constructor
  ·intro h;exact .inl h
  ·rintro (h | ⟨h,_⟩)<;>omega
theorem newM_asymm {a b:Mem} (h:newM a b=true):newM b a=false:=by
 rw [newM_lt] at h
 rcases hb:newM b a with _ | _
 ·rfl
 ·rw [newM_lt] at hb
  rcases h with h | ⟨h1,h | ⟨h2,h | ⟨h3,h4,h5⟩⟩⟩<;>rcases hb with g | ⟨g1,g | ⟨g2,g | ⟨g3,g4,g5⟩⟩⟩<;>first | omega | (rw [h4] at g5;cases g5)
theorem newM_le {a b c:Mem} (h1:newM a b=false) (h2:newM b c=false):newM a c=false:=by
 rcases h3:newM a c with _ | _
 ·rfl
 ·exfalso
  have g1:¬ newM a b=true:=by rw [h1];simp
  have g2:¬ newM b c=true:=by rw [h2];simp
  rw [newM_lt] at h3 g1 g2
  by_cases l1:b.life < a.life
  ·exact g1 (.inl l1)
  by_cases l2:c.life < b.life
  ·exact g2 (.inl l2)
  rcases h3 with h | ⟨e1,h⟩
  ·omega
  have e2:b.life=a.life:=by omega
  have e3:c.life=b.life:=by omega
  by_cases s1:b.state < a.state
  ·exact g1 (.inr ⟨e2,.inl s1⟩)
  by_cases s2:c.state < b.state
  ·exact g2 (.inr ⟨e3,.inl s2⟩)
  rcases h with h | ⟨f1,h⟩
  ·omega
  have f2:b.state=a.state:=by omega
  have f3:c.state=b.state:=by omega
  by_cases a1:b.addr < a.addr
  ·exact g1 (.inr ⟨e2,.inr ⟨f2,.inl a1⟩⟩)
  by_cases a2:c.addr < b.addr
  ·exact g2 (.inr ⟨e3,.inr ⟨f3,.inl a2⟩⟩)
  rcases h with h | ⟨k1,k4,k5⟩
  ·omega
  have k2:b.addr=a.addr:=by omega
  have k3:c.addr=b.addr:=by omega
  rcases hb:b.server with _ | _
  ·exact g1 (.inr ⟨e2,.inr ⟨f2,.inr ⟨k2,hb,k5⟩⟩⟩)
  ·exact g2 (.inr ⟨e3,.inr ⟨f3,.inr ⟨k3,k4,hb⟩⟩⟩)
def Le (ms ms':List Mem):Prop:=∀ t k,fstM ms t=some k→∃ k',fstM ms' t=some k'∧newM k k'=false
theorem Le.refl (ms:List Mem):Le ms ms:=fun _ k h=>⟨k,h,newM_self k⟩
theorem Le.trans {a b c:List Mem} (h:Le a b) (k:Le b c):Le a c:=fun t x hx=>by
 obtain ⟨y,hy,h1⟩:=h t x hx
 obtain ⟨z,hz,h2⟩:=k t y hy
 exact ⟨z,hz,newM_le h1 h2⟩
theorem le_hear {ms:List Mem} (hr:Rise ms) (m:Mem):Le ms (hearL ms m):=fun t k hk=>by
 by_cases ht:m.name=t
 ·subst ht
  by_cases hh:hearL ms m=ms
  ·rw [hh];exact ⟨k,hk,newM_self k⟩
  ·refine ⟨m,fst_hear m ms hh,?_⟩
   have h1:=(chgB_iff hr m).2 hh
   unfold chgB at h1
   rw [hk] at h1
   exact newM_asymm h1
 ·rw [fst_hear_ne m t ht ms];exact ⟨k,hk,newM_self k⟩
theorem fst_set_ne {x:Mem} {t:ByteArray} (hx:x.name≠t):∀ (ms:List Mem) (p:Nat),(ms.getD p dm).name≠t→fstM (ms.set p x) t=fstM ms t
 | [],_,_=>rfl
 | y :: r,0,h=>by
   have h:y.name≠t:=by simpa using h
   show fstM (x :: r) t=fstM (y :: r) t
   rw [fst_cons,fst_cons,if_neg hx,if_neg h]
 | y :: r,p+1,h=>by
   have h:(r.getD p dm).name≠t:=by simpa using h
   show fstM (y :: r.set p x) t=fstM (y :: r) t
   rw [fst_cons,fst_cons,fst_set_ne hx r p h]
theorem newM_again (k:Mem):newM k (liveAgain k)=false:=by
 rcases h:newM k (liveAgain k) with _ | _
 ·rfl
 ·rw [newM_lt] at h
  have e:(liveAgain k).life=k.life+1:=rfl
  rw [e] at h
  rcases h with h | ⟨h,_⟩<;>omega
theorem ahead_le {ms ms':List Mem} {r:Rum} (h:Le ms ms') (ha:aheadB ms r=false):aheadB ms' r=false:=by
 unfold aheadB at ha ⊢
 rcases hf:fstM ms r.m.name with _ | k
 ·rw [hf] at ha;cases ha
 ·rw [hf] at ha
  obtain ⟨k',h1,h2⟩:=h _ _ hf
  rw [h1]
  exact newM_le ha h2
theorem ahead_self {ms:List Mem} {m:Mem} {i:Int} (h:fstM ms m.name=some m):aheadB ms ⟨m,i⟩=false:=by
 unfold aheadB
 show (match fstM ms m.name with | none=>true | some k=>newM m k)=false
 rw [h];exact newM_self m
theorem le_sp1 {n:Nd} (h:chk n.ms=0) (m:Mem):Le n.ms (sp1 n m).ms:=by
 have hl:=le_hear (chk_zero h).2.1 m
 unfold sp1
 split<;>exact hl
theorem le_rf {n:Nd} (h:chk n.ms=0):Le n.ms (rfN n).ms:=by
 unfold rfN
 by_cases hR:refR n.ms (rfP n) (rfF n)=true
 ·rw [if_pos hR]
  obtain ⟨_,hat,hL,hM,_,hn,hp⟩:=rf_facts h hR
  intro t k hk
  show ∃ k',fstM (rfL n) t=some k'∧newM k k'=false
  rw [hL]
  by_cases ht:n.name=t
  ·subst ht
   have h1:=fst_some_of hat
   rw [h1] at hk
   injection hk with hk
   refine ⟨liveAgain k,?_,newM_again k⟩
   rw [fst_some_of (at_set hat (x:=liveAgain (n.ms.getD (rfP n) dm)) hn),← hk]
   simp [List.getD,hp]
  ·rw [fst_set_ne (x:=liveAgain (n.ms.getD (rfP n) dm)) (fun e=>ht (hn.symm.trans e)) n.ms (rfP n) (fun e=>ht (hn.symm.trans e))]
   exact ⟨k,hk,newM_self k⟩
 ·rw [if_neg hR]
  have:rfL n=n.ms:=by unfold rfL refL;rw [if_neg hR]
  show Le n.ms (rfL n)
  rw [this];exact Le.refl _
theorem le_sp {n:Nd} {m:Mem} (h:Sp n) (hm:m.e=0) (h0:sp1E n m=0):Le n.ms (spN n m).ms:=by
 unfold spN
 have h1:=le_sp1 h.ms m
 split
 ·exact h1.trans (le_rf (sp1_ok h.ms h.rs hm h0).1)
 ·exact h1
theorem Nd.Parts.pe {n:Nd} (h:n.Parts):n.pE=0:=by
 unfold Nd.pE
 rw [h.name,h.centre,if_pos (by rfl),if_pos h.ms,if_pos h.rs,if_pos h.sv,if_pos h.gw,if_pos h.p,h.wh]
theorem sp_parts {n n':Nd} (h:n.Parts) (hs:Sp n') (hr:Rest n n'):n'.Parts:=
 ⟨hs.name,by rw [hr.centre];exact h.centre,hs.ms,hs.rs,by rw [hr.sv];exact h.sv,by rw [hr.gw];exact h.gw,by rw [hr.p];exact h.p,by rw [hr.wh];exact h.wh⟩
theorem sp_e0 {n:Nd} {m:Mem} (he:n.e=0) (hm:m.e=0) (h0:spE n m=0):(spN n m).e=0:=by
 have hp:=Nd.parts (Nd.e_zero he).1
 have hsp:Sp n:=⟨hp.ms,hp.rs,hp.name⟩
 obtain ⟨me,hme,s2,s3,hah⟩:=Nd.wE_zero (Nd.e_zero he).2
 have hS:=sp_sp hsp hm h0
 refine Nd.e_of (sp_parts hp hS (rest_sp n m)).pe ?_
 have hr:=(chk_zero hp.ms).2.1
 have h1:sp1E n m=0:=by
  unfold spE at h0
  split at h0
  ·rename_i h;exact h
  ·rename_i h;exact absurd h0 h
 have hms:(sp1 n m).ms=hearL n.ms m:=by unfold sp1;split<;>rfl
 have hle:=le_sp1 hp.ms m
 have hah1:∀ r∈(sp1 n m).rs,aheadB (sp1 n m).ms r=false:=by
  intro r hr1
  rw [hms]
  rw [hms] at hle
  by_cases hc:chgB n.ms m=true
  ·have hrs:(sp1 n m).rs=putL n.rs m:=by unfold sp1;rw [if_pos hc]
   rw [hrs] at hr1
   rcases putL_mem hr1 with h | rfl
   ·exact ahead_le hle (hah r h)
   ·exact ahead_self (fst_hear m n.ms ((chgB_iff hr m).1 hc))
  ·have hrs:(sp1 n m).rs=n.rs:=by unfold sp1;rw [if_neg hc]
   rw [hrs] at hr1
   exact ahead_le hle (hah r hr1)
 by_cases hn:m.name=n.name
 ·have hN:spN n m=rfN (sp1 n m):=by unfold spN;rw [if_pos hn]
  have h2:rfE (sp1 n m)=0:=by
   unfold spE at h0
   rw [if_pos h1,if_pos hn] at h0
   exact h0
  have hok1:=sp1_ok hp.ms hp.rs hm h1
  have hnm:(sp1 n m).name=n.name:=sp1_name n m
  rw [hN]
  obtain ⟨k1,hk1,_⟩:=hle _ _ hme
  rw [← hnm] at hk1
  generalize sp1 n m=n1 at *
  have hl2:=le_rf hok1.1
  have hat:=at_pos (chk_zero hok1.1).2.1 n1.name
  by_cases hR:refR n1.ms (rfP n1) (rfF n1)=true
  ·obtain ⟨_,hat2,hL,hM,_,hn2,hp2⟩:=rf_facts hok1.1 hR
   have hN2:rfN n1={ n1 with ms:=rfL n1,rs:=putL n1.rs (rfM n1) }:=by unfold rfN;rw [if_pos hR]
   rw [hN2] at hl2 ⊢
   have hf:fstM (rfL n1) n1.name=some (rfM n1):=by
    rw [hL,fst_some_of (at_set hat2 (x:=liveAgain (n1.ms.getD (rfP n1) dm)) hn2),hM]
    simp [List.getD,hp2]
   have hmn:(rfM n1).name=n1.name:=by rw [hM];exact hn2
   have hst:(rfM n1).state=1:=by rw [hM];rfl
   refine Nd.wE_of (m:=rfM n1) hf (by rw [hst];decide) (by rw [hst];decide) (fun r hr1=>?_)
   rcases putL_mem hr1 with h | rfl
   ·exact ahead_le hl2 (hah1 r h)
   ·exact ahead_self (by rw [hmn];exact hf)
  ·have hN2:rfN n1={ n1 with ms:=rfL n1 }:=by unfold rfN;rw [if_neg hR]
   have hL:rfL n1=n1.ms:=by unfold rfL refL;rw [if_neg hR]
   rw [hN2,hL]
   have hF:rfF n1=true:=by
    rcases hF:rfF n1 with _ | _
    ·have hF2:isM n1.ms n1.name=false:=hF
     rw [hF2] at hat
     have:=fst_none_of (chk_zero hok1.1).2.1 hat
     rw [hk1] at this;cases this
    ·rfl
   have hF2:isM n1.ms n1.name=true:=hF
   rw [hF2] at hat
   have h5:=fst_some_of hat
   rw [hk1] at h5
   injection h5 with h5
   have hE:refE n1.ms (rfP n1) (rfF n1)=0:=by
    unfold rfE at h2
    split at h2
    ·rename_i h;exact h
    ·rename_i h;exact absurd h2 h
   have hbad:¬ (k1.state=2∨k1.state=3):=by
    intro hb
    have hb2:(decide ((n1.ms.getD (rfP n1) dm).state=2) || decide ((n1.ms.getD (rfP n1) dm).state=3))=true:=by
     have e:n1.ms.getD (rfP n1) dm=k1:=h5.symm
     rw [e]
     rcases hb with hb | hb<;>simp [hb]
    unfold refR at hR
    unfold refE at hE
    rw [hF,hb2] at hR hE
    rcases hl:((n1.ms.getD (rfP n1) dm).life == 1000000) with _ | _
    ·rw [hl] at hR;exact hR rfl
    ·rw [hl] at hE;cases hE
   exact Nd.wE_of (m:=k1) hk1 (fun e=>hbad (.inl e)) (fun e=>hbad (.inr e)) hah1
 ·have hN:spN n m=sp1 n m:=by unfold spN;rw [if_neg hn]
  rw [hN]
  refine Nd.wE_of (m:=me) ?_ s2 s3 hah1
  rw [hms,sp1_name,fst_hear_ne m n.name hn n.ms]
  exact hme
theorem hs_e0:∀ (l:List Mem) (n:Nd),n.e=0→(∀ m∈l,m.e=0)→hsE n l=0→(hsN n l).e=0
 | [],_,h,_,_=>h
 | x :: r,n,h,hl,h0=>by
   rw [hsE] at h0
   split at h0
   ·rename_i h1
    exact hs_e0 r (spN n x) (sp_e0 h (hl x (by simp)) h1) (fun m hm=>hl m (by simp [hm])) h0
   ·rename_i h1;exact absurd h0 h1
theorem spE_sp1 {n:Nd} {m:Mem} (h:spE n m=0):sp1E n m=0:=by
 unfold spE at h
 split at h
 ·rename_i h1;exact h1
 ·rename_i h1;exact absurd h h1
theorem le_hs:∀ (l:List Mem) (n:Nd),Sp n→(∀ m∈l,m.e=0)→hsE n l=0→Le n.ms (hsN n l).ms
 | [],n,_,_,_=>Le.refl _
 | x :: r,n,h,hl,h0=>by
   rw [hsE] at h0
   split at h0
   ·rename_i h1
    exact (le_sp h (hl x (by simp)) (spE_sp1 h1)).trans (le_hs r (spN n x) (sp_sp h (hl x (by simp)) h1) (fun m hm=>hl m (by simp [hm])) h0)
   ·rename_i h1;exact absurd h0 h1
theorem rf_none {n:Nd} (he:n.e=0):rfE n=0∧rfN n=n:=by
 have hp:=Nd.parts (Nd.e_zero he).1
 obtain ⟨me,hme,h2,h3,_⟩:=Nd.wE_zero (Nd.e_zero he).2
 have hat:=at_pos (chk_zero hp.ms).2.1 n.name
 have hR:refR n.ms (rfP n) (rfF n)=false∧refE n.ms (rfP n) (rfF n)=0:=by
  rcases hf:rfF n with _ | _
  ·simp [refR,refE]
  ·have hat2:At n.ms n.name (rfP n) true:=by rw [← hf];exact hat
   have h4:fstM n.ms n.name=some (n.ms.getD (rfP n) dm):=fst_some_of hat2
   rw [hme] at h4
   injection h4 with h4
   unfold refR refE
   rw [← h4]
   simp [h2,h3]
 refine ⟨?_,?_⟩
 ·unfold rfE
  rw [hR.2,hR.1];simp
 ·unfold rfN rfL refL
  rw [hR.1];simp
section
variable {α:Type} (o:α→α→Int) (nw:α→α→Bool) (d:α)
theorem getSelf (hk:RL.Keyed o):∀ {ms:List α},RL.Rise o ms→∀ s∈ms,RL.get o ms s=some s
 | [],_,s,h=>by cases h
 | x :: r,hr,s,h=>by
   rcases List.mem_cons.1 h with rfl | h
   ·exact RL.get_cons_eq o s r (hk.refl s)
   ·have h1:=RL.rise_head o hk hr s h
    rw [RL.get_cons_ne o x r (fun e=>h1 (hk.symm e))]
    exact getSelf hk (List.pairwise_cons.1 hr).2 s h
theorem atGet (hk:RL.Keyed o) {ms:List α} (hr:RL.Rise o ms) {s r:α} (h:RL.get o ms s=some r):∃ p,RL.At o d ms s p true∧ms.getD p d=r:=by
 obtain ⟨p,hp,he⟩:=List.getElem_of_mem (RL.get_mem o h)
 have hg:ms.getD p d=r:=by rw [RL.getD_el d hp,he]
 exact ⟨p,RL.at_of o d hk hr hp (by rw [hg];exact RL.get_key o h),hg⟩
def LeX (a b:List α):Prop:=∀ s∈a,∃ p,RL.At o d b s p true∧nw s (b.getD p d)=false
theorem leX_right (hk:RL.Keyed o) (hn:RL.Newest o nw) {a b:List α} (ha:RL.Rise o a) (hb:RL.Rise o b):LeX o nw d b (RL.join o nw a b):=fun s hs=>by
 have hg:=RL.get_join o nw hk b a ha hb s
 rw [getSelf o hk hb s hs] at hg
 have hr:=RL.join_rise o nw hk b a ha
 rcases hy:RL.get o a s with _ | y
 ·rw [hy] at hg
  obtain ⟨p,h1,h2⟩:=atGet o d hk hr (hg.trans (show RL.comb nw none (some s)=some s from rfl))
  exact ⟨p,h1,by rw [h2];exact hn.irrefl s⟩
 ·rw [hy] at hg
  obtain ⟨p,h1,h2⟩:=atGet o d hk hr (hg.trans (show RL.comb nw (some y) (some s)=some (RL.mx nw y s) from rfl))
  refine ⟨p,h1,?_⟩
  rw [h2]
  unfold RL.mx
  split
  ·exact hn.irrefl s
  ·rename_i h;simpa using h
theorem joinAgain (hk:RL.Keyed o) (hn:RL.Newest o nw) {a b:List α} (ha:RL.Rise o a) (hb:RL.Rise o b):RL.join o nw (RL.join o nw b a) a=RL.join o nw b a:=by
 rw [RL.join_comm o nw hk hn hb ha]
 exact RL.join_absorb o nw hk hn ha hb
end
theorem gw_le {a b:Gw.Gwy} (h:Gw.newE a b=false):a.version≤b.version:=by
 have h1:¬ 0 < Gw.newC a b:=by
  intro h2
  unfold Gw.newE at h
  rw [decide_eq_true h2] at h;cases h
 apply Classical.byContradiction
 intro hv
 apply h1
 have h2:Gw.newC a b=if a.version - b.version=0 then a.addr - b.addr else a.version - b.version:=rfl
 rw [h2,if_neg (show ¬ a.version - b.version=0 by omega)]
 omega
structure NotOlder (a b:Nd):Prop where
 ms:∀ m∈a.ms,∃ k,fstM b.ms m.name=some k∧newM m k=false
 sv:LeX Sv.ord Sv.newE Sv.dm a.sv b.sv
 gw:LeX Gw.ord Gw.newE Gw.dm a.gw b.gw
theorem hr_parts {n:Nd} {p:Pk} (h0:hrE n p=0):p.e=0∧hsE n p.ms=0∧Sv.joinE n.sv p.sv=0∧Gw.joinE n.gw p.gw=0:=by
 unfold hrE at h0
 split at h0
 ·rename_i h1
  split at h0
  ·rename_i h2
   split at h0
   ·rename_i h3;exact ⟨h1,h2,h3,h0⟩
   ·rename_i h3;exact absurd h0 h3
  ·rename_i h2;exact absurd h0 h2
 ·rename_i h1;exact absurd h0 h1
theorem lrn1_mem {wh:List Wh.Whe} {x y:Wh.Whe} (h:y∈lrn1 wh x):y∈wh∨y=x:=by
 unfold lrn1 at h
 split at h
 ·exact .inl h
 ·rcases Wh.hearL_mem wh x y h with h | h
  ·exact .inr h
  ·exact .inl h
theorem lrn_mem:∀ (l wh:List Wh.Whe) (y:Wh.Whe),y∈lrn wh l→y∈wh∨y∈l
 | [],_,y,h=>.inl h
 | x :: r,wh,y,h=>by
   rcases lrn_mem r (lrn1 wh x) y h with h | h
   ·rcases lrn1_mem h with h | rfl
    ·exact .inl h
    ·exact .inr (by simp)
   ·exact .inr (by simp [h])
theorem hr_e0 {n:Nd} {p:Pk} (he:n.e=0) (hk:∀ m∈n.wh,m.ok) (hk2:∀ m∈p.wh,m.ok) (h0:hrE n p=0):(hrN n p).e=0:=by
 obtain ⟨h1,h2,h3,h4⟩:=hr_parts h0
 have hp:=Nd.parts (Nd.e_zero he).1
 obtain ⟨pm,_,pw,psv,pgw⟩:=pk_ms h1
 have hN:=hs_e0 p.ms n he pm h2
 have hq:=Nd.parts (Nd.e_zero hN).1
 rw [Sv.joinE_good hp.sv psv] at h3
 rw [Gw.joinE_good hp.gw pgw] at h4
 have l3:(Sv.joinL n.sv p.sv).length≤40:=by
  split at h3
  ·cases h3
  ·omega
 have l4:(Gw.joinL n.gw p.gw).length≤6:=by
  split at h4
  ·cases h4
  ·omega
 have hf:=fine_lrn (Wh.fine_chk hp.wh hk) hk2
 refine Nd.e_of (Nd.Parts.pe ⟨hq.name,hq.centre,hq.ms,hq.rs,?_,?_,hq.p,?_⟩) (Nd.e_zero hN).2
 ·refine Sv.chk_of l3 (Sv.joinL_rise p.sv n.sv (Sv.chk_zero hp.sv).2.1) (fun m hm=>?_)
  rcases Sv.joinL_mem p.sv n.sv m hm with h | h
  ·exact Sv.firstE_mem _ (Sv.chk_zero hp.sv).2.2 m h
  ·exact Sv.firstE_mem _ (Sv.chk_zero psv).2.2 m h
 ·refine Gw.chk_of l4 (Gw.joinL_rise p.gw n.gw (Gw.chk_zero hp.gw).2.1) (fun m hm=>?_)
  rcases Gw.joinL_mem p.gw n.gw m hm with h | h
  ·exact Gw.firstE_mem _ (Gw.chk_zero hp.gw).2.2 m h
  ·exact Gw.firstE_mem _ (Gw.chk_zero pgw).2.2 m h
 ·refine Wh.chk_of hf.len hf.rise (fun m hm=>?_)
  rcases lrn_mem p.wh n.wh m hm with h | h
  ·exact Wh.firstE_mem _ (Wh.chk_zero hp.wh).2.2 m h
  ·exact Wh.firstE_mem _ (Wh.chk_zero pw).2.2 m h
theorem sp_knows {n:Nd} {m:Mem} (h:Sp n) (hm:m.e=0) (h0:sp1E n m=0):∃ k,fstM (spN n m).ms m.name=some k∧newM m k=false:=by
 have hr:=(chk_zero h.ms).2.1
 have h1:∃ k,fstM (sp1 n m).ms m.name=some k∧newM m k=false:=by
  have hms:(sp1 n m).ms=hearL n.ms m:=by unfold sp1;split<;>rfl
  rw [hms]
  by_cases hh:hearL n.ms m=n.ms
  ·rw [hh]
   rcases hc:chgB n.ms m with _ | _
   ·unfold chgB at hc
    rcases hf:fstM n.ms m.name with _ | k
    ·rw [hf] at hc;cases hc
    ·rw [hf] at hc;exact ⟨k,rfl,hc⟩
   ·exact absurd hh ((chgB_iff hr m).1 hc)
  ·exact ⟨m,fst_hear m n.ms hh,newM_self m⟩
 unfold spN
 split
 ·obtain ⟨k,h2,h3⟩:=h1
  obtain ⟨k2,h4,h5⟩:=le_rf (sp1_ok h.ms h.rs hm h0).1 _ _ h2
  exact ⟨k2,h4,newM_le h3 h5⟩
 ·exact h1
theorem hs_knows:∀ (l:List Mem) (n:Nd),Sp n→(∀ m∈l,m.e=0)→hsE n l=0→∀ m∈l,∃ k,fstM (hsN n l).ms m.name=some k∧newM m k=false
 | [],_,_,_,_,m,hm=>by cases hm
 | x :: r,n,h,hl,h0,m,hm=>by
   rw [hsE] at h0
   split at h0
   ·rename_i h1
    have hx:=hl x (by simp)
    have hs:=sp_sp h hx h1
    have hr:∀ m∈r,m.e=0:=fun m hm=>hl m (by simp [hm])
    rcases List.mem_cons.1 hm with rfl | hm
    ·obtain ⟨k,h2,h3⟩:=sp_knows h hx (spE_sp1 h1)
     obtain ⟨k2,h4,h5⟩:=le_hs r (spN n m) hs hr h0 _ _ h2
     exact ⟨k2,h4,newM_le h3 h5⟩
    ·exact hs_knows r (spN n x) hs hr h0 m hm
   ·rename_i h1;exact absurd h0 h1
theorem sp_again {x:Nd} {m:Mem} (he:x.e=0) (hm:m.e=0) (hk:∃ k,fstM x.ms m.name=some k∧newM m k=false):spE x m=0∧spN x m=x:=by
 have hp:=Nd.parts (Nd.e_zero he).1
 obtain ⟨k,h1,h2⟩:=hk
 have hc:chgB x.ms m=false:=by unfold chgB;rw [h1];exact h2
 have hh:=chg_no (chk_zero hp.ms).2.1 hc
 have h3:sp1 x m=x:=by unfold sp1;rw [hc,hh];rfl
 have h4:sp1E x m=0:=by
  unfold sp1E
  rw [joinE_one hp.ms hm,hh,if_neg (show ¬ 20 < x.ms.length by have:=(chk_zero hp.ms).1;omega),if_pos rfl,hc];rfl
 unfold spE spN
 rw [h4,h3]
 by_cases h5:m.name=x.name
 ·rw [if_pos rfl,if_pos h5,if_pos h5];exact rf_none he
 ·rw [if_pos rfl,if_neg h5,if_neg h5];exact ⟨rfl,rfl⟩
theorem hs_again:∀ (l:List Mem) (x:Nd),x.e=0→(∀ m∈l,m.e=0∧∃ k,fstM x.ms m.name=some k∧newM m k=false)→hsE x l=0∧hsN x l=x
 | [],_,_,_=>⟨rfl,rfl⟩
 | m :: r,x,he,h=>by
   obtain ⟨h1,h2⟩:=h m (by simp)
   obtain ⟨h3,h4⟩:=sp_again he h1 h2
   rw [hsE,hsN,h3,h4,if_pos rfl]
   exact hs_again r x he (fun m hm=>h m (by simp [hm]))
def knowsW (wh:List Wh.Whe) (t:ByteArray):Prop:=(wh.any fun y=>decide (y.node=t))=true∨20≤wh.length
theorem knows_hear {wh:List Wh.Whe} {x:Wh.Whe} (hr:Wh.Rise wh) (hn:(wh.any fun y=>decide (y.node=x.node))=false):(∀ y,y∈wh→y∈Wh.hearL wh x)∧x∈Wh.hearL wh x:=by
 obtain ⟨p,f,hat⟩:=Wh.at_any wh hr x
 have hf:=any_at hr hat
 rw [hn] at hf
 subst hf
 rw [Wh.hearL_at wh x p false hat,if_neg (by simp)]
 refine ⟨fun y hy=>?_,by simp⟩
 rw [← List.take_append_drop p wh] at hy
 rcases List.mem_append.1 hy with h | h
 ·exact List.mem_append.2 (.inl h)
 ·exact List.mem_append.2 (.inr (by simp [h]))
theorem knows_lrn1 {wh:List Wh.Whe} {x:Wh.Whe} (h:Wh.Fine wh):knowsW (lrn1 wh x) x.node∧∀ t,knowsW wh t→knowsW (lrn1 wh x) t:=by
 unfold lrn1
 by_cases hc:(wh.any fun y=>decide (y.node=x.node))=true∨20≤wh.length
 ·rw [if_pos hc];exact ⟨hc,fun _ h=>h⟩
 ·rw [if_neg hc]
  have hn:(wh.any fun y=>decide (y.node=x.node))=false:=by
   rcases hh:(wh.any fun y=>decide (y.node=x.node)) with _ | _
   ·rfl
   ·exact absurd (.inl hh) hc
  obtain ⟨h1,h2⟩:=knows_hear h.rise hn
  refine ⟨.inl (List.any_eq_true.2 ⟨x,h2,by simp⟩),fun t ht=>?_⟩
  rcases ht with ht | ht
  ·obtain ⟨y,hy,he⟩:=List.any_eq_true.1 ht
   exact .inl (List.any_eq_true.2 ⟨y,h1 y hy,he⟩)
  ·exact .inr (Nat.le_trans ht (Wh.hearL_len wh x).1)
theorem knows_lrn:∀ (l wh:List Wh.Whe),Wh.Fine wh→(∀ m∈l,m.ok)→(∀ y∈l,knowsW (lrn wh l) y.node)∧∀ t,knowsW wh t→knowsW (lrn wh l) t
 | [],wh,_,_=>⟨(fun y hy=>by cases hy),fun _ h=>h⟩
 | x :: r,wh,h,hl=>by
   obtain ⟨h1,h2⟩:=knows_lrn1 (x:=x) h
   obtain ⟨h3,h4⟩:=knows_lrn r (lrn1 wh x) (fine_lrn1 h (hl x (by simp))) (fun m hm=>hl m (by simp [hm]))
   refine ⟨fun y hy=>?_,fun t ht=>h4 t (h2 t ht)⟩
   rcases List.mem_cons.1 hy with rfl | hy
   ·exact h4 _ h1
   ·exact h3 y hy
theorem lrn_again:∀ (l wh:List Wh.Whe),(∀ y∈l,knowsW wh y.node)→lrn wh l=wh
 | [],_,_=>rfl
 | x :: r,wh,h=>by
   have h1:lrn1 wh x=wh:=by unfold lrn1;exact if_pos (h x (by simp))
   show lrn (lrn1 wh x) r=wh
   rw [h1]
   exact lrn_again r wh (fun y hy=>h y (by simp [hy]))
theorem whole_not_older {b:Nd} {p:Pk} {a:Nd} (hb:b.e=0) (ha:a.ms=p.ms∧a.sv=p.sv∧a.gw=p.gw) (h0:hrE b p=0):NotOlder a (hrN b p):=by
 obtain ⟨h1,h2,h3,h4⟩:=hr_parts h0
 have hp:=Nd.parts (Nd.e_zero hb).1
 obtain ⟨pm,_,pw,psv,pgw⟩:=pk_ms h1
 refine ⟨fun m hm=>?_,?_,?_⟩
 ·exact hs_knows p.ms b ⟨hp.ms,hp.rs,hp.name⟩ pm h2 m (by rw [← ha.1];exact hm)
 ·rw [ha.2.1];exact leX_right _ _ _ Sv.keyed Sv.newest (Sv.chk_zero hp.sv).2.1 (Sv.chk_zero psv).2.1
 ·rw [ha.2.2];exact leX_right _ _ _ Gw.keyed Gw.newest (Gw.chk_zero hp.gw).2.1 (Gw.chk_zero pgw).2.1
theorem hr_again {b:Nd} {p:Pk} (hb:b.e=0) (hk:∀ m∈b.wh,m.ok) (hk2:∀ m∈p.wh,m.ok) (h0:hrE b p=0):hrE (hrN b p) p=0∧hrN (hrN b p) p=hrN b p:=by
 have hx:=hr_e0 hb hk hk2 h0
 obtain ⟨h1,h2,h3,h4⟩:=hr_parts h0
 have hp:=Nd.parts (Nd.e_zero hb).1
 have hq:=Nd.parts (Nd.e_zero hx).1
 obtain ⟨pm,_,pw,psv,pgw⟩:=pk_ms h1
 obtain ⟨g1,g2⟩:=hs_again p.ms (hrN b p) hx (fun m hm=>⟨pm m hm,hs_knows p.ms b ⟨hp.ms,hp.rs,hp.name⟩ pm h2 m hm⟩)
 have g3:Sv.joinL (hrN b p).sv p.sv=(hrN b p).sv:=joinAgain _ _ Sv.keyed Sv.newest (Sv.chk_zero psv).2.1 (Sv.chk_zero hp.sv).2.1
 have g4:Gw.joinL (hrN b p).gw p.gw=(hrN b p).gw:=joinAgain _ _ Gw.keyed Gw.newest (Gw.chk_zero pgw).2.1 (Gw.chk_zero hp.gw).2.1
 have g5:lrn (hrN b p).wh p.wh=(hrN b p).wh:=lrn_again p.wh _ (knows_lrn p.wh b.wh (Wh.fine_chk hp.wh hk) hk2).1
 refine ⟨?_,?_⟩
 ·unfold hrE
  rw [if_pos h1,g1,if_pos rfl,Sv.joinE_good hq.sv psv,g3,if_neg (show ¬ 40 < (hrN b p).sv.length by have:=(Sv.chk_zero hq.sv).1;omega),if_pos rfl,Gw.joinE_good hq.gw pgw,g4,if_neg (show ¬ 6 < (hrN b p).gw.length by have:=(Gw.chk_zero hq.gw).1;omega)]
 ·show ({ hsN (hrN b p) p.ms with sv:=Sv.joinL (hrN b p).sv p.sv,gw:=Gw.joinL (hrN b p).gw p.gw,wh:=lrn (hrN b p).wh p.wh }:Nd)=hrN b p
  rw [g2,g3,g4,g5]
theorem rise_inj2 {ms:List Mem} (hr:Rise ms) {i j:Nat} (hi:i < ms.length) (hj:j < ms.length) (h:(ms.getD i dm).name=(ms.getD j dm).name):i=j:=by
 have e:∀ k (hk:k < ms.length),ms.getD k dm=ms[k]:=fun k hk=>by simp [List.getD,List.getElem?_eq_getElem hk]
 rw [e i hi,e j hj] at h
 rcases Nat.lt_trichotomy i j with h1 | h1 | h1
 ·have h2:=List.pairwise_iff_getElem.1 hr i j hi hj h1
  rw [h,less_irrefl] at h2;cases h2
 ·exact h1
 ·have h2:=List.pairwise_iff_getElem.1 hr j i hj hi h1
  rw [h,less_irrefl] at h2;cases h2
theorem IsNd.three {W:World} {N:Nd} {t0 t1:ByteArray} {p2 p3 p4 p5 p11:Option Addr} {k2 c2 k3 c3 k4 c4 k5 c5 k11 c11:Nat} {i6 i7 i8 i9 i10:Int} (h:IsNd W N #[.string t0,.string t1,.slice p2 k2 c2,.slice p3 k3 c3,.slice p4 k4 c4,.slice p5 k5 c5,.int .i64 i6,.int .i64 i7,.int .i64 i8,.int .i64 i9,.int .i64 i10,.slice p11 k11 c11]):Sl W (.slice p2 k2 c2) N.ms∧Sv.Sl W (.slice p4 k4 c4) N.sv∧Gw.Sl W (.slice p5 k5 c5) N.gw:=by
 obtain ⟨vm,vr,vs,vg,vw,hA,hi⟩:=h
 simp only [ndA,Array.mk.injEq,List.cons.injEq,and_true] at hA
 obtain ⟨e0,e1,e2,e3,e4,e5,e6,e7,e8,e9,e10,e11⟩:=hA
 exact ⟨by rw [e2];exact hi.ms,by rw [e4];exact hi.sv,by rw [e5];exact hi.gw⟩
set_option maxHeartbeats 51200000 in
set_option maxRecDepth 100000 in
theorem older_any (a b:Nd) (A B:Array Value) (w:World) (ha:IsNd w a A) (hb:IsNd w b B) (hno:NotOlder a b) (hsa:a.Small) (hsb:b.Small) (hpb:b.Parts) :
 Calls Tryz.prog 39 #[.agg A,.agg B] w fun e w'=>e=.returned (.bool false)∧Below w.heap.size w w':=by
 obtain ⟨t0a,t1a,p2a,k2a,c2a,p3a,k3a,c3a,p4a,k4a,c4a,p5a,k5a,c5a,i6a,i7a,i8a,i9a,i10a,p11a,k11a,c11a,rfl⟩:=ha.letters
 obtain ⟨t0b,t1b,p2b,k2b,c2b,p3b,k3b,c3b,p4b,k4b,c4b,p5b,k5b,c5b,i6b,i7b,i8b,i9b,i10b,p11b,k11b,c11b,rfl⟩:=hb.letters
 simp only [ndV] at ha hb ⊢
 obtain ⟨hs1M,hs1S,hs1G⟩:=ha.three
 obtain ⟨hs2M,hs2S,hs2G⟩:=hb.three
 have hrb:=(chk_zero hpb.ms).2.1
 have hrs:=(Sv.chk_zero hpb.sv).2.1
 have hrg:=(Gw.chk_zero hpb.gw).2.1
 have hl1M:k2a=a.ms.length:=by obtain ⟨_,_,hv,_⟩:=hs1M;injection hv
 have HR1M:0 < k2a→∃ g o,p2a=some ⟨g,o,none⟩∧g < w.heap.size∧∀ j,j < k2a→w.cell? ⟨g,o+j * 5,none⟩=some (.string (a.ms.getD j dm).name)∧w.cell? ⟨g,o+j * 5+1,none⟩=some (.int .i64 (a.ms.getD j dm).state)∧w.cell? ⟨g,o+j * 5+2,none⟩=some (.int .i64 (a.ms.getD j dm).life)∧w.cell? ⟨g,o+j * 5+3,none⟩=some (.int .i64 (a.ms.getD j dm).addr)∧w.cell? ⟨g,o+j * 5+4,none⟩=some (.bool (a.ms.getD j dm).server):=fun h0=>by
  obtain ⟨_,_,hv,_,hr⟩:=hs1M
  injection hv with hv1 _ _
  rcases hr with hr | ⟨g,o,h1,h2,h3⟩
  ·rw [hr] at hl1M;simp at hl1M;omega
  ·exact ⟨g,o,hv1.trans h1,h2,fun j hj=>h3 j (by rw [← hl1M];exact hj)⟩
 have hl2M:k2b=b.ms.length:=by obtain ⟨_,_,hv,_⟩:=hs2M;injection hv
 have HR2M:0 < k2b→∃ g o,p2b=some ⟨g,o,none⟩∧g < w.heap.size∧∀ j,j < k2b→w.cell? ⟨g,o+j * 5,none⟩=some (.string (b.ms.getD j dm).name)∧w.cell? ⟨g,o+j * 5+1,none⟩=some (.int .i64 (b.ms.getD j dm).state)∧w.cell? ⟨g,o+j * 5+2,none⟩=some (.int .i64 (b.ms.getD j dm).life)∧w.cell? ⟨g,o+j * 5+3,none⟩=some (.int .i64 (b.ms.getD j dm).addr)∧w.cell? ⟨g,o+j * 5+4,none⟩=some (.bool (b.ms.getD j dm).server):=fun h0=>by
  obtain ⟨_,_,hv,_,hr⟩:=hs2M
  injection hv with hv1 _ _
  rcases hr with hr | ⟨g,o,h1,h2,h3⟩
  ·rw [hr] at hl2M;simp at hl2M;omega
  ·exact ⟨g,o,hv1.trans h1,h2,fun j hj=>h3 j (by rw [← hl2M];exact hj)⟩
 have HQQM:∀ k,k < k2a→∃ q,q < k2b∧Hid (∀ W,Below w.heap.size w W→Calls Tryz.prog 52 #[.slice p2b k2b c2b,.string (a.ms.getD k dm).name] W fun e w'=>e=.returned (.int .i64 (q:Int))∧Below W.heap.size W w')∧Hid (∀ W,Calls Tryz.prog 53 #[.agg #[.string (a.ms.getD k dm).name,.int .i64 (a.ms.getD k dm).state,.int .i64 (a.ms.getD k dm).life,.int .i64 (a.ms.getD k dm).addr,.bool (a.ms.getD k dm).server],.agg #[.string (b.ms.getD q dm).name,.int .i64 (b.ms.getD q dm).state,.int .i64 (b.ms.getD q dm).life,.int .i64 (b.ms.getD q dm).addr,.bool (b.ms.getD q dm).server]] W fun e w'=>e=.returned (.bool false)∧Below W.heap.size W w'):=fun k hk=>by
  have hmem:a.ms.getD k dm∈a.ms:=by rw [show a.ms.getD k dm=a.ms[k]'(by omega) by simp [List.getD,List.getElem?_eq_getElem (show k < a.ms.length by omega)]];exact List.getElem_mem _
  obtain ⟨y,hy,hn⟩:=hno.ms _ hmem
  obtain ⟨q,hq,hqe⟩:=List.getElem_of_mem (fstM_mem hy).1
  have hqg:b.ms.getD q dm=y:=by rw [← hqe];simp [List.getD,List.getElem?_eq_getElem hq]
  refine ⟨q,by omega,fun W hW=>?_,fun W=>?_⟩
  ·refine (memAt_any b.ms _ _ W (hs2M.below hW) (by have:=hsb.ms;omega)).mono ?_
   rintro e w' ⟨r,rfl,hat,rfl⟩
   rcases hat.out with ⟨k0,hk0,rfl,hf⟩ | ⟨_,hf⟩
   ·rw [hy] at hf
    injection hf with hf
    have h2:k0=q:=rise_inj2 hrb hk0 hq (by rw [← hf,hqg])
    exact ⟨by rw [h2],Below.refl _ _⟩
   ·rw [hy] at hf;cases hf
  ·rw [hqg]
   refine (newerMember_any _ _ _ _ _ _ _ _ _ _ W).mono ?_
   rintro e w' ⟨rfl,rfl⟩
   exact ⟨by rw [← hn];rfl,((Below.refl _ _).alloc (Nat.le_refl _) _).alloc (by simp) _⟩
 have hl1S:k4a=a.sv.length:=by obtain ⟨_,_,hv,_⟩:=hs1S;injection hv
 have HR1S:0 < k4a→∃ g o,p4a=some ⟨g,o,none⟩∧g < w.heap.size∧∀ j,j < k4a→w.cell? ⟨g,o+j * 9,none⟩=some (.string (a.sv.getD j Sv.dm).node)∧w.cell? ⟨g,o+j * 9+1,none⟩=some (.string (a.sv.getD j Sv.dm).idn)∧w.cell? ⟨g,o+j * 9+2,none⟩=some (.string (a.sv.getD j Sv.dm).name)∧w.cell? ⟨g,o+j * 9+3,none⟩=some (.string (a.sv.getD j Sv.dm).tag)∧w.cell? ⟨g,o+j * 9+4,none⟩=some (.int .i64 (a.sv.getD j Sv.dm).addr)∧w.cell? ⟨g,o+j * 9+5,none⟩=some (.int .i64 (a.sv.getD j Sv.dm).port)∧w.cell? ⟨g,o+j * 9+6,none⟩=some (.bool (a.sv.getD j Sv.dm).passing)∧w.cell? ⟨g,o+j * 9+7,none⟩=some (.int .i64 (a.sv.getD j Sv.dm).version)∧w.cell? ⟨g,o+j * 9+8,none⟩=some (.bool (a.sv.getD j Sv.dm).gone):=fun h0=>by
  obtain ⟨_,_,hv,_,hr⟩:=hs1S
  injection hv with hv1 _ _
  rcases hr with hr | ⟨g,o,h1,h2,h3⟩
  ·rw [hr] at hl1S;simp at hl1S;omega
  ·exact ⟨g,o,hv1.trans h1,h2,fun j hj=>h3 j (by rw [← hl1S];exact hj)⟩
 have hl2S:k4b=b.sv.length:=by obtain ⟨_,_,hv,_⟩:=hs2S;injection hv
 have HR2S:0 < k4b→∃ g o,p4b=some ⟨g,o,none⟩∧g < w.heap.size∧∀ j,j < k4b→w.cell? ⟨g,o+j * 9,none⟩=some (.string (b.sv.getD j Sv.dm).node)∧w.cell? ⟨g,o+j * 9+1,none⟩=some (.string (b.sv.getD j Sv.dm).idn)∧w.cell? ⟨g,o+j * 9+2,none⟩=some (.string (b.sv.getD j Sv.dm).name)∧w.cell? ⟨g,o+j * 9+3,none⟩=some (.string (b.sv.getD j Sv.dm).tag)∧w.cell? ⟨g,o+j * 9+4,none⟩=some (.int .i64 (b.sv.getD j Sv.dm).addr)∧w.cell? ⟨g,o+j * 9+5,none⟩=some (.int .i64 (b.sv.getD j Sv.dm).port)∧w.cell? ⟨g,o+j * 9+6,none⟩=some (.bool (b.sv.getD j Sv.dm).passing)∧w.cell? ⟨g,o+j * 9+7,none⟩=some (.int .i64 (b.sv.getD j Sv.dm).version)∧w.cell? ⟨g,o+j * 9+8,none⟩=some (.bool (b.sv.getD j Sv.dm).gone):=fun h0=>by
  obtain ⟨_,_,hv,_,hr⟩:=hs2S
  injection hv with hv1 _ _
  rcases hr with hr | ⟨g,o,h1,h2,h3⟩
  ·rw [hr] at hl2S;simp at hl2S;omega
  ·exact ⟨g,o,hv1.trans h1,h2,fun j hj=>h3 j (by rw [← hl2S];exact hj)⟩
 have HQQS:∀ k,k < k4a→∃ q,q < k4b∧Hid (∀ W,Below w.heap.size w W→Calls Tryz.prog 92 #[.slice p4b k4b c4b,.string (a.sv.getD k Sv.dm).node,.string (a.sv.getD k Sv.dm).idn] W fun e w'=>e=.returned (.int .i64 (q:Int))∧Below W.heap.size W w')∧Hid (∀ W,Calls Tryz.prog 93 #[.agg #[.string (a.sv.getD k Sv.dm).node,.string (a.sv.getD k Sv.dm).idn,.string (a.sv.getD k Sv.dm).name,.string (a.sv.getD k Sv.dm).tag,.int .i64 (a.sv.getD k Sv.dm).addr,.int .i64 (a.sv.getD k Sv.dm).port,.bool (a.sv.getD k Sv.dm).passing,.int .i64 (a.sv.getD k Sv.dm).version,.bool (a.sv.getD k Sv.dm).gone],.agg #[.string (b.sv.getD q Sv.dm).node,.string (b.sv.getD q Sv.dm).idn,.string (b.sv.getD q Sv.dm).name,.string (b.sv.getD q Sv.dm).tag,.int .i64 (b.sv.getD q Sv.dm).addr,.int .i64 (b.sv.getD q Sv.dm).port,.bool (b.sv.getD q Sv.dm).passing,.int .i64 (b.sv.getD q Sv.dm).version,.bool (b.sv.getD q Sv.dm).gone]] W fun e w'=>e=.returned (.bool false)∧Below W.heap.size W w'):=fun k hk=>by
  have hmem:a.sv.getD k Sv.dm∈a.sv:=by rw [show a.sv.getD k Sv.dm=a.sv[k]'(by omega) by simp [List.getD,List.getElem?_eq_getElem (show k < a.sv.length by omega)]];exact List.getElem_mem _
  obtain ⟨q,hat,hn⟩:=hno.sv _ hmem
  have hq:=(hat.is.1 rfl).1
  refine ⟨q,by omega,fun W hW=>?_,fun W=>?_⟩
  ·exact Sv.refAtV b.sv _ _ W (hs2S.below hW) (by have:=hsb.sv;omega) hrs q true hat
  ·refine (Sv.newerR_any _ _ W).mono ?_
   rintro e w' ⟨rfl,hb⟩
   exact ⟨by rw [← hn],hb⟩
 have hl1G:k5a=a.gw.length:=by obtain ⟨_,_,hv,_⟩:=hs1G;injection hv
 have HR1G:0 < k5a→∃ g o,p5a=some ⟨g,o,none⟩∧g < w.heap.size∧∀ j,j < k5a→w.cell? ⟨g,o+j * 3,none⟩=some (.string (a.gw.getD j Gw.dm).centre)∧w.cell? ⟨g,o+j * 3+1,none⟩=some (.int .i64 (a.gw.getD j Gw.dm).addr)∧w.cell? ⟨g,o+j * 3+2,none⟩=some (.int .i64 (a.gw.getD j Gw.dm).version):=fun h0=>by
  obtain ⟨_,_,hv,_,hr⟩:=hs1G
  injection hv with hv1 _ _
  rcases hr with hr | ⟨g,o,h1,h2,h3⟩
  ·rw [hr] at hl1G;simp at hl1G;omega
  ·exact ⟨g,o,hv1.trans h1,h2,fun j hj=>h3 j (by rw [← hl1G];exact hj)⟩
 have hl2G:k5b=b.gw.length:=by obtain ⟨_,_,hv,_⟩:=hs2G;injection hv
 have HR2G:0 < k5b→∃ g o,p5b=some ⟨g,o,none⟩∧g < w.heap.size∧∀ j,j < k5b→w.cell? ⟨g,o+j * 3,none⟩=some (.string (b.gw.getD j Gw.dm).centre)∧w.cell? ⟨g,o+j * 3+1,none⟩=some (.int .i64 (b.gw.getD j Gw.dm).addr)∧w.cell? ⟨g,o+j * 3+2,none⟩=some (.int .i64 (b.gw.getD j Gw.dm).version):=fun h0=>by
  obtain ⟨_,_,hv,_,hr⟩:=hs2G
  injection hv with hv1 _ _
  rcases hr with hr | ⟨g,o,h1,h2,h3⟩
  ·rw [hr] at hl2G;simp at hl2G;omega
  ·exact ⟨g,o,hv1.trans h1,h2,fun j hj=>h3 j (by rw [← hl2G];exact hj)⟩
 have HQQG:∀ k,k < k5a→∃ q,q < k5b∧Hid (∀ W,Below w.heap.size w W→Calls Tryz.prog 94 #[.slice p5b k5b c5b,.string (a.gw.getD k Gw.dm).centre] W fun e w'=>e=.returned (.int .i64 (q:Int))∧Below W.heap.size W w')∧Hid ((a.gw.getD k Gw.dm).version≤(b.gw.getD q Gw.dm).version):=fun k hk=>by
  have hmem:a.gw.getD k Gw.dm∈a.gw:=by rw [show a.gw.getD k Gw.dm=a.gw[k]'(by omega) by simp [List.getD,List.getElem?_eq_getElem (show k < a.gw.length by omega)]];exact List.getElem_mem _
  obtain ⟨q,hat,hn⟩:=hno.gw _ hmem
  have hq:=(hat.is.1 rfl).1
  refine ⟨q,by omega,fun W hW=>?_,gw_le hn⟩
  refine (Gw.refAt_any b.gw _ _ W (hs2G.below hW) (by have:=hsb.gw;omega)).mono ?_
  rintro e w' ⟨r,rfl,hI,rfl⟩
  exact ⟨by rw [(Gw.atI_at hI.out hat hrg).1 rfl],Below.refl _ _⟩
 have HRAM:Hid (0 < k2a→∃ g o,p2a=some ⟨g,o,none⟩∧g < w.heap.size∧∀ j,j < k2a→w.cell? ⟨g,o+j * 5,none⟩=some (.string (a.ms.getD j dm).name)∧w.cell? ⟨g,o+j * 5+1,none⟩=some (.int .i64 (a.ms.getD j dm).state)∧w.cell? ⟨g,o+j * 5+2,none⟩=some (.int .i64 (a.ms.getD j dm).life)∧w.cell? ⟨g,o+j * 5+3,none⟩=some (.int .i64 (a.ms.getD j dm).addr)∧w.cell? ⟨g,o+j * 5+4,none⟩=some (.bool (a.ms.getD j dm).server)):=HR1M
 have HRBM:Hid (0 < k2b→∃ g o,p2b=some ⟨g,o,none⟩∧g < w.heap.size∧∀ j,j < k2b→w.cell? ⟨g,o+j * 5,none⟩=some (.string (b.ms.getD j dm).name)∧w.cell? ⟨g,o+j * 5+1,none⟩=some (.int .i64 (b.ms.getD j dm).state)∧w.cell? ⟨g,o+j * 5+2,none⟩=some (.int .i64 (b.ms.getD j dm).life)∧w.cell? ⟨g,o+j * 5+3,none⟩=some (.int .i64 (b.ms.getD j dm).addr)∧w.cell? ⟨g,o+j * 5+4,none⟩=some (.bool (b.ms.getD j dm).server)):=HR2M
 have HQM:Hid (∀ k,k < k2a→∃ q,q < k2b∧Hid (∀ W,Below w.heap.size w W→Calls Tryz.prog 52 #[.slice p2b k2b c2b,.string (a.ms.getD k dm).name] W fun e w'=>e=.returned (.int .i64 (q:Int))∧Below W.heap.size W w')∧Hid (∀ W,Calls Tryz.prog 53 #[.agg #[.string (a.ms.getD k dm).name,.int .i64 (a.ms.getD k dm).state,.int .i64 (a.ms.getD k dm).life,.int .i64 (a.ms.getD k dm).addr,.bool (a.ms.getD k dm).server],.agg #[.string (b.ms.getD q dm).name,.int .i64 (b.ms.getD q dm).state,.int .i64 (b.ms.getD q dm).life,.int .i64 (b.ms.getD q dm).addr,.bool (b.ms.getD q dm).server]] W fun e w'=>e=.returned (.bool false)∧Below W.heap.size W w')):=HQQM
 have HRAS:Hid (0 < k4a→∃ g o,p4a=some ⟨g,o,none⟩∧g < w.heap.size∧∀ j,j < k4a→w.cell? ⟨g,o+j * 9,none⟩=some (.string (a.sv.getD j Sv.dm).node)∧w.cell? ⟨g,o+j * 9+1,none⟩=some (.string (a.sv.getD j Sv.dm).idn)∧w.cell? ⟨g,o+j * 9+2,none⟩=some (.string (a.sv.getD j Sv.dm).name)∧w.cell? ⟨g,o+j * 9+3,none⟩=some (.string (a.sv.getD j Sv.dm).tag)∧w.cell? ⟨g,o+j * 9+4,none⟩=some (.int .i64 (a.sv.getD j Sv.dm).addr)∧w.cell? ⟨g,o+j * 9+5,none⟩=some (.int .i64 (a.sv.getD j Sv.dm).port)∧w.cell? ⟨g,o+j * 9+6,none⟩=some (.bool (a.sv.getD j Sv.dm).passing)∧w.cell? ⟨g,o+j * 9+7,none⟩=some (.int .i64 (a.sv.getD j Sv.dm).version)∧w.cell? ⟨g,o+j * 9+8,none⟩=some (.bool (a.sv.getD j Sv.dm).gone)):=HR1S
 have HRBS:Hid (0 < k4b→∃ g o,p4b=some ⟨g,o,none⟩∧g < w.heap.size∧∀ j,j < k4b→w.cell? ⟨g,o+j * 9,none⟩=some (.string (b.sv.getD j Sv.dm).node)∧w.cell? ⟨g,o+j * 9+1,none⟩=some (.string (b.sv.getD j Sv.dm).idn)∧w.cell? ⟨g,o+j * 9+2,none⟩=some (.string (b.sv.getD j Sv.dm).name)∧w.cell? ⟨g,o+j * 9+3,none⟩=some (.string (b.sv.getD j Sv.dm).tag)∧w.cell? ⟨g,o+j * 9+4,none⟩=some (.int .i64 (b.sv.getD j Sv.dm).addr)∧w.cell? ⟨g,o+j * 9+5,none⟩=some (.int .i64 (b.sv.getD j Sv.dm).port)∧w.cell? ⟨g,o+j * 9+6,none⟩=some (.bool (b.sv.getD j Sv.dm).passing)∧w.cell? ⟨g,o+j * 9+7,none⟩=some (.int .i64 (b.sv.getD j Sv.dm).version)∧w.cell? ⟨g,o+j * 9+8,none⟩=some (.bool (b.sv.getD j Sv.dm).gone)):=HR2S
 have HQS:Hid (∀ k,k < k4a→∃ q,q < k4b∧Hid (∀ W,Below w.heap.size w W→Calls Tryz.prog 92 #[.slice p4b k4b c4b,.string (a.sv.getD k Sv.dm).node,.string (a.sv.getD k Sv.dm).idn] W fun e w'=>e=.returned (.int .i64 (q:Int))∧Below W.heap.size W w')∧Hid (∀ W,Calls Tryz.prog 93 #[.agg #[.string (a.sv.getD k Sv.dm).node,.string (a.sv.getD k Sv.dm).idn,.string (a.sv.getD k Sv.dm).name,.string (a.sv.getD k Sv.dm).tag,.int .i64 (a.sv.getD k Sv.dm).addr,.int .i64 (a.sv.getD k Sv.dm).port,.bool (a.sv.getD k Sv.dm).passing,.int .i64 (a.sv.getD k Sv.dm).version,.bool (a.sv.getD k Sv.dm).gone],.agg #[.string (b.sv.getD q Sv.dm).node,.string (b.sv.getD q Sv.dm).idn,.string (b.sv.getD q Sv.dm).name,.string (b.sv.getD q Sv.dm).tag,.int .i64 (b.sv.getD q Sv.dm).addr,.int .i64 (b.sv.getD q Sv.dm).port,.bool (b.sv.getD q Sv.dm).passing,.int .i64 (b.sv.getD q Sv.dm).version,.bool (b.sv.getD q Sv.dm).gone]] W fun e w'=>e=.returned (.bool false)∧Below W.heap.size W w')):=HQQS
 have HRAG:Hid (0 < k5a→∃ g o,p5a=some ⟨g,o,none⟩∧g < w.heap.size∧∀ j,j < k5a→w.cell? ⟨g,o+j * 3,none⟩=some (.string (a.gw.getD j Gw.dm).centre)∧w.cell? ⟨g,o+j * 3+1,none⟩=some (.int .i64 (a.gw.getD j Gw.dm).addr)∧w.cell? ⟨g,o+j * 3+2,none⟩=some (.int .i64 (a.gw.getD j Gw.dm).version)):=HR1G
 have HRBG:Hid (0 < k5b→∃ g o,p5b=some ⟨g,o,none⟩∧g < w.heap.size∧∀ j,j < k5b→w.cell? ⟨g,o+j * 3,none⟩=some (.string (b.gw.getD j Gw.dm).centre)∧w.cell? ⟨g,o+j * 3+1,none⟩=some (.int .i64 (b.gw.getD j Gw.dm).addr)∧w.cell? ⟨g,o+j * 3+2,none⟩=some (.int .i64 (b.gw.getD j Gw.dm).version)):=HR2G
 have HQG:Hid (∀ k,k < k5a→∃ q,q < k5b∧Hid (∀ W,Below w.heap.size w W→Calls Tryz.prog 94 #[.slice p5b k5b c5b,.string (a.gw.getD k Gw.dm).centre] W fun e w'=>e=.returned (.int .i64 (q:Int))∧Below W.heap.size W w')∧Hid ((a.gw.getD k Gw.dm).version≤(b.gw.getD q Gw.dm).version)):=HQQG
 have hk2:k2a≤1000:=by have:=hsa.ms;omega
 have hk4:k4a≤1000:=by have:=hsa.sv;omega
 have hk5:k5a≤1000:=by have:=hsa.gw;omega
 have hj2:k2b≤1000:=by have:=hsb.ms;omega
 have hj4:k4b≤1000:=by have:=hsb.sv;omega
 have hj5:k5b≤1000:=by have:=hsb.gw;omega
 clear HR1M HR2M HR1S HR2S HR1G HR2G HQQM HQQS HQQG hs1M hs1S hs1G hs2M hs2S hs2G hl1M hl2M hl1S hl2S hl1G hl2G hrb hrs hrg hno hsa hsb hpb ha hb
 obtain ⟨W0,hW0⟩:∃ W0,W0=(w.alloc (.cells #[.string t0a,.string t1a,.slice p2a k2a c2a,.slice p3a k3a c3a,.slice p4a k4a c4a,.slice p5a k5a c5a,.int .i64 i6a,.int .i64 i7a,.int .i64 i8a,.int .i64 i9a,.int .i64 i10a,.slice p11a k11a c11a] 30)).alloc (.cells #[.string t0b,.string t1b,.slice p2b k2b c2b,.slice p3b k3b c3b,.slice p4b k4b c4b,.slice p5b k5b c5b,.int .i64 i6b,.int .i64 i7b,.int .i64 i8b,.int .i64 i9b,.int .i64 i10b,.slice p11b k11b c11b] 30):=⟨_,rfl⟩
 have HBX:Hid (∀ W,Below W0.heap.size W0 W→W.heap[w.heap.size]?=some (.cells #[.string t0a,.string t1a,.slice p2a k2a c2a,.slice p3a k3a c3a,.slice p4a k4a c4a,.slice p5a k5a c5a,.int .i64 i6a,.int .i64 i7a,.int .i64 i8a,.int .i64 i9a,.int .i64 i10a,.slice p11a k11a c11a] 30 (0,0))∧W.heap[w.heap.size+1]?=some (.cells #[.string t0b,.string t1b,.slice p2b k2b c2b,.slice p3b k3b c3b,.slice p4b k4b c4b,.slice p5b k5b c5b,.int .i64 i6b,.int .i64 i7b,.int .i64 i8b,.int .i64 i9b,.int .i64 i10b,.slice p11b k11b c11b] 30 (0,0))):=fun W hW=>by
  have hs:W0.heap.size=w.heap.size+2:=by rw [hW0];simp
  refine ⟨(hW.block _ (by omega)).trans ?_,(hW.block _ (by omega)).trans ?_⟩
  ·rw [hW0,Below.heap_alloc _ _ _ (by simp)];exact heap_alloc_new w _
  ·have h:=heap_alloc_new (w.alloc (.cells #[.string t0a,.string t1a,.slice p2a k2a c2a,.slice p3a k3a c3a,.slice p4a k4a c4a,.slice p5a k5a c5a,.int .i64 i6a,.int .i64 i7a,.int .i64 i8a,.int .i64 i9a,.int .i64 i10a,.slice p11a k11a c11a] 30)) (.cells #[.string t0b,.string t1b,.slice p2b k2b c2b,.slice p3b k3b c3b,.slice p4b k4b c4b,.slice p5b k5b c5b,.int .i64 i6b,.int .i64 i7b,.int .i64 i8b,.int .i64 i9b,.int .i64 i10b,.slice p11b k11b c11b] 30)
   rw [hW0];simpa using h
 have HBW:Hid (∀ W,Below W0.heap.size W0 W→Below w.heap.size w W):=fun W hW=>by
  have hb0:Below w.heap.size w W0:=by rw [hW0];exact ((Below.refl _ _).alloc (Nat.le_refl _) _).alloc (by simp) _
  exact hb0.trans (hW.mono hb0.size)
 go_enter Tryz.func39,Tryz.ntmps39
 go_upto_region 1 with fail
 rw [← hW0]
 clear hW0
 go_wp2_with fail
 go_loopw [5] (fun i w'=>∃ k:Nat,k≤k2a∧i=.int .i64 k∧Hid (Below W0.heap.size W0 w')) (fun i _=>k2a - (intOf i).toNat)
 case atStart=>exact ⟨0,Nat.zero_le _,rfl,Below.refl _ _⟩
 case round=>
  obtain ⟨k,hk,rfl,HBL⟩:=hrel
  obtain ⟨hga,hgb⟩:=HBX.out wr HBL.out
  have a2:wr.cell? ⟨w.heap.size,2,none⟩=some (.slice p2a k2a c2a):=cellsAt hga 2
  have b2:wr.cell? ⟨w.heap.size+1,2,none⟩=some (.slice p2b k2b c2b):=cellsAt hgb 2
  clear hga hgb
  by_cases hlt:k < k2a
  ·obtain ⟨ga,oa,hpa,hla,hra⟩:=HRAM.out (by omega)
   obtain ⟨q,hq,HAT,HNW⟩:=HQM.out k hlt
   obtain ⟨gb,ob,hpb,hlb,hrb⟩:=HRBM.out (by omega)
   subst hpa hpb
   obtain ⟨c0,c1,c2,c3,c4⟩:=hra k hlt
   obtain ⟨e0,e1,e2,e3,e4⟩:=hrb q hq
   clear hra hrb
   generalize a.ms.getD k dm=x at *
   generalize b.ms.getD q dm=y at *
   obtain ⟨x0,x1,x2,x3,x4⟩:=x
   obtain ⟨y0,y1,y2,y3,y4⟩:=y
   simp only at HAT HNW c0 e0 c1 e1 c2 e2 c3 e3 c4 e4
   have hba:∀ o,wr.cell? ⟨ga,o,none⟩=w.cell? ⟨ga,o,none⟩:=fun o=>(HBW.out wr HBL.out).cell (p:=⟨ga,o,none⟩) hla
   have hbb:∀ o,wr.cell? ⟨gb,o,none⟩=w.cell? ⟨gb,o,none⟩:=fun o=>(HBW.out wr HBL.out).cell (p:=⟨gb,o,none⟩) hlb
   have c0':=(hba _).trans c0
   have e0':=(hbb _).trans e0
   have c1':=(hba _).trans c1
   have e1':=(hbb _).trans e1
   have c2':=(hba _).trans c2
   have e2':=(hbb _).trans e2
   have c3':=(hba _).trans c3
   have e3':=(hbb _).trans e3
   have c4':=(hba _).trans c4
   have e4':=(hbb _).trans e4
   clear hba hbb c0 e0 c1 e1 c2 e2 c3 e3 c4 e4
   have hki:(k:Int) < (k2a:Int):=by omega
   have hqi:(q:Int) < (k2b:Int):=by omega
   have hMA:∀ d os,Calls Tryz.prog 52 #[.slice (some ⟨gb,ob,none⟩) k2b c2b,.string x0] (Go.Sort.grow (redrawn wr d) os) fun e w''=>e=.returned (.int .i64 (q:Int))∧∃ p:Regrown,w''=Go.Sort.grow (redrawn wr p.d) p.os:=fun d os=>Calls.regrown_of (HAT.out _ ((HBW.out wr HBL.out).trans ((below_regrown wr d os).mono (HBW.out wr HBL.out).size)))
   have A2:∀ d os,(Go.Sort.grow (redrawn wr d) os).cell? ⟨w.heap.size,2,none⟩=some (.slice (some ⟨ga,oa,none⟩) k2a c2a):=cell_regrown a2
   have B2:∀ d os,(Go.Sort.grow (redrawn wr d) os).cell? ⟨w.heap.size+1,2,none⟩=some (.slice (some ⟨gb,ob,none⟩) k2b c2b):=cell_regrown b2
   have F0:∀ d os,(Go.Sort.grow (redrawn wr d) os).cell? ⟨ga,oa+k * 5,none⟩=some (.string x0):=cell_regrown c0'
   have F1:∀ d os,(Go.Sort.grow (redrawn wr d) os).cell? ⟨ga,oa+k * 5+1,none⟩=some (.int .i64 x1):=cell_regrown c1'
   have F2:∀ d os,(Go.Sort.grow (redrawn wr d) os).cell? ⟨ga,oa+k * 5+2,none⟩=some (.int .i64 x2):=cell_regrown c2'
   have F3:∀ d os,(Go.Sort.grow (redrawn wr d) os).cell? ⟨ga,oa+k * 5+3,none⟩=some (.int .i64 x3):=cell_regrown c3'
   have F4:∀ d os,(Go.Sort.grow (redrawn wr d) os).cell? ⟨ga,oa+k * 5+4,none⟩=some (.bool x4):=cell_regrown c4'
   go_upto_region 4 with fail
   refine wp_region_quiet_below (by kernel_rfl) (by kernel_rfl) ?_
   repeat (quiet_step (exact hMA _ _))
   refine wpQuiet_nil ?_
   intro _ hw'
   obtain ⟨⟨dq,osq⟩,hw''⟩:=hw'
   subst hw''
   have HBQ:Hid (Below wr.heap.size wr (Go.Sort.grow (redrawn wr dq) osq)):=below_regrown wr dq osq
   have HBL2:Hid (Below W0.heap.size W0 (Go.Sort.grow (redrawn wr dq) osq)):=HBL.out.trans (HBQ.out.mono HBL.out.size)
   clear hMA A2 B2 F0 F1 F2 F3 F4
   generalize Go.Sort.grow (redrawn wr dq) osq=W2 at *
   have hq2:∀ g o v,g < w.heap.size→wr.cell? ⟨g,o,none⟩=some v→W2.cell? ⟨g,o,none⟩=some v:=fun g o v hg h=>(HBQ.out.cell (p:=⟨g,o,none⟩) (Nat.lt_of_lt_of_le hg (HBW.out wr HBL.out).size)).trans h
   obtain ⟨hga,hgb⟩:=HBX.out W2 HBL2.out
   have a22:W2.cell? ⟨w.heap.size,2,none⟩=some (.slice (some ⟨ga,oa,none⟩) k2a c2a):=cellsAt hga 2
   have b22:W2.cell? ⟨w.heap.size+1,2,none⟩=some (.slice (some ⟨gb,ob,none⟩) k2b c2b):=cellsAt hgb 2
   clear hga hgb a2 b2
   have A2:∀ d os,(Go.Sort.grow (redrawn W2 d) os).cell? ⟨w.heap.size,2,none⟩=some (.slice (some ⟨ga,oa,none⟩) k2a c2a):=cell_regrown a22
   have B2:∀ d os,(Go.Sort.grow (redrawn W2 d) os).cell? ⟨w.heap.size+1,2,none⟩=some (.slice (some ⟨gb,ob,none⟩) k2b c2b):=cell_regrown b22
   have F0:∀ d os,(Go.Sort.grow (redrawn W2 d) os).cell? ⟨ga,oa+k * 5,none⟩=some (.string x0):=cell_regrown (hq2 _ _ _ hla c0')
   have F1:∀ d os,(Go.Sort.grow (redrawn W2 d) os).cell? ⟨ga,oa+k * 5+1,none⟩=some (.int .i64 x1):=cell_regrown (hq2 _ _ _ hla c1')
   have F2:∀ d os,(Go.Sort.grow (redrawn W2 d) os).cell? ⟨ga,oa+k * 5+2,none⟩=some (.int .i64 x2):=cell_regrown (hq2 _ _ _ hla c2')
   have F3:∀ d os,(Go.Sort.grow (redrawn W2 d) os).cell? ⟨ga,oa+k * 5+3,none⟩=some (.int .i64 x3):=cell_regrown (hq2 _ _ _ hla c3')
   have F4:∀ d os,(Go.Sort.grow (redrawn W2 d) os).cell? ⟨ga,oa+k * 5+4,none⟩=some (.bool x4):=cell_regrown (hq2 _ _ _ hla c4')
   have G0:∀ d os,(Go.Sort.grow (redrawn W2 d) os).cell? ⟨gb,ob+q * 5,none⟩=some (.string y0):=cell_regrown (hq2 _ _ _ hlb e0')
   have G1:∀ d os,(Go.Sort.grow (redrawn W2 d) os).cell? ⟨gb,ob+q * 5+1,none⟩=some (.int .i64 y1):=cell_regrown (hq2 _ _ _ hlb e1')
   have G2:∀ d os,(Go.Sort.grow (redrawn W2 d) os).cell? ⟨gb,ob+q * 5+2,none⟩=some (.int .i64 y2):=cell_regrown (hq2 _ _ _ hlb e2')
   have G3:∀ d os,(Go.Sort.grow (redrawn W2 d) os).cell? ⟨gb,ob+q * 5+3,none⟩=some (.int .i64 y3):=cell_regrown (hq2 _ _ _ hlb e3')
   have G4:∀ d os,(Go.Sort.grow (redrawn W2 d) os).cell? ⟨gb,ob+q * 5+4,none⟩=some (.bool y4):=cell_regrown (hq2 _ _ _ hlb e4')
   clear hq2 a22 b22 c0' e0' c1' e1' c2' e2' c3' e3' c4' e4'
   have hd:decide ((q:Int) < 0)=false:=decide_eq_false (by omega)
   have hNW:∀ d os,Calls Tryz.prog 53 #[.agg #[.string x0,.int .i64 x1,.int .i64 x2,.int .i64 x3,.bool x4],.agg #[.string y0,.int .i64 y1,.int .i64 y2,.int .i64 y3,.bool y4]] (Go.Sort.grow (redrawn W2 d) os) fun e w''=>e=.returned (.bool false)∧∃ p:Regrown,w''=Go.Sort.grow (redrawn W2 p.d) p.os:=fun d os=>Calls.regrown_of (HNW.out _)
   go_upto_region 5 with fail
   refine wp_region_quiet_below (by kernel_rfl) (by kernel_rfl) ?_
   repeat (quiet_step (exact hNW _ _))
   refine wpQuiet_nil ?_
   intro _ hw'
   obtain ⟨⟨dq,osq⟩,hw''⟩:=hw'
   subst hw''
   have HBL3:Hid (Below W0.heap.size W0 (Go.Sort.grow (redrawn W2 dq) osq)):=HBL2.out.trans ((below_regrown W2 dq osq).mono HBL2.out.size)
   clear hNW A2 B2 F0 G0 F1 G1 F2 G2 F3 G3 F4 G4 HBQ HBL2
   generalize Go.Sort.grow (redrawn W2 dq) osq=W3 at *
   go_wp2_with fail
   go_roundw
   case rel=>exact ⟨k+1,by omega,by go_num,HBL3⟩
   case measure=>simp [intOf];omega
  ·have hki:¬ (k:Int) < (k2a:Int):=by omega
   clear hlt hk
   go_wp2_with fail
   clear a2 b2 hki
   go_loopw [7] (fun i w'=>∃ k:Nat,k≤k4a∧i=.int .i64 k∧Hid (Below W0.heap.size W0 w')) (fun i _=>k4a - (intOf i).toNat)
   case atStart=>exact ⟨0,Nat.zero_le _,rfl,HBL.out⟩
   case round=>
    clear HBL
    obtain ⟨k,hk,rfl,HBL⟩:=hrel
    obtain ⟨hga,hgb⟩:=HBX.out wr HBL.out
    have a4:wr.cell? ⟨w.heap.size,4,none⟩=some (.slice p4a k4a c4a):=cellsAt hga 4
    have b4:wr.cell? ⟨w.heap.size+1,4,none⟩=some (.slice p4b k4b c4b):=cellsAt hgb 4
    clear hga hgb
    by_cases hlt:k < k4a
    ·obtain ⟨ga,oa,hpa,hla,hra⟩:=HRAS.out (by omega)
     obtain ⟨q,hq,HAT,HNW⟩:=HQS.out k hlt
     obtain ⟨gb,ob,hpb,hlb,hrb⟩:=HRBS.out (by omega)
     subst hpa hpb
     obtain ⟨c0,c1,c2,c3,c4,c5,c6,c7,c8⟩:=hra k hlt
     obtain ⟨e0,e1,e2,e3,e4,e5,e6,e7,e8⟩:=hrb q hq
     clear hra hrb
     generalize a.sv.getD k Sv.dm=x at *
     generalize b.sv.getD q Sv.dm=y at *
     obtain ⟨x0,x1,x2,x3,x4,x5,x6,x7,x8⟩:=x
     obtain ⟨y0,y1,y2,y3,y4,y5,y6,y7,y8⟩:=y
     simp only at HAT HNW c0 e0 c1 e1 c2 e2 c3 e3 c4 e4 c5 e5 c6 e6 c7 e7 c8 e8
     have hba:∀ o,wr.cell? ⟨ga,o,none⟩=w.cell? ⟨ga,o,none⟩:=fun o=>(HBW.out wr HBL.out).cell (p:=⟨ga,o,none⟩) hla
     have hbb:∀ o,wr.cell? ⟨gb,o,none⟩=w.cell? ⟨gb,o,none⟩:=fun o=>(HBW.out wr HBL.out).cell (p:=⟨gb,o,none⟩) hlb
     have c0':=(hba _).trans c0
     have e0':=(hbb _).trans e0
     have c1':=(hba _).trans c1
     have e1':=(hbb _).trans e1
     have c2':=(hba _).trans c2
     have e2':=(hbb _).trans e2
     have c3':=(hba _).trans c3
     have e3':=(hbb _).trans e3
     have c4':=(hba _).trans c4
     have e4':=(hbb _).trans e4
     have c5':=(hba _).trans c5
     have e5':=(hbb _).trans e5
     have c6':=(hba _).trans c6
     have e6':=(hbb _).trans e6
     have c7':=(hba _).trans c7
     have e7':=(hbb _).trans e7
     have c8':=(hba _).trans c8
     have e8':=(hbb _).trans e8
     clear hba hbb c0 e0 c1 e1 c2 e2 c3 e3 c4 e4 c5 e5 c6 e6 c7 e7 c8 e8
     have hki:(k:Int) < (k4a:Int):=by omega
     have hqi:(q:Int) < (k4b:Int):=by omega
     have hMA:∀ d os,Calls Tryz.prog 92 #[.slice (some ⟨gb,ob,none⟩) k4b c4b,.string x0,.string x1] (Go.Sort.grow (redrawn wr d) os) fun e w''=>e=.returned (.int .i64 (q:Int))∧∃ p:Regrown,w''=Go.Sort.grow (redrawn wr p.d) p.os:=fun d os=>Calls.regrown_of (HAT.out _ ((HBW.out wr HBL.out).trans ((below_regrown wr d os).mono (HBW.out wr HBL.out).size)))
     have A4:∀ d os,(Go.Sort.grow (redrawn wr d) os).cell? ⟨w.heap.size,4,none⟩=some (.slice (some ⟨ga,oa,none⟩) k4a c4a):=cell_regrown a4
     have B4:∀ d os,(Go.Sort.grow (redrawn wr d) os).cell? ⟨w.heap.size+1,4,none⟩=some (.slice (some ⟨gb,ob,none⟩) k4b c4b):=cell_regrown b4
     have F0:∀ d os,(Go.Sort.grow (redrawn wr d) os).cell? ⟨ga,oa+k * 9,none⟩=some (.string x0):=cell_regrown c0'
     have F1:∀ d os,(Go.Sort.grow (redrawn wr d) os).cell? ⟨ga,oa+k * 9+1,none⟩=some (.string x1):=cell_regrown c1'
     have F2:∀ d os,(Go.Sort.grow (redrawn wr d) os).cell? ⟨ga,oa+k * 9+2,none⟩=some (.string x2):=cell_regrown c2'
     have F3:∀ d os,(Go.Sort.grow (redrawn wr d) os).cell? ⟨ga,oa+k * 9+3,none⟩=some (.string x3):=cell_regrown c3'
     have F4:∀ d os,(Go.Sort.grow (redrawn wr d) os).cell? ⟨ga,oa+k * 9+4,none⟩=some (.int .i64 x4):=cell_regrown c4'
     have F5:∀ d os,(Go.Sort.grow (redrawn wr d) os).cell? ⟨ga,oa+k * 9+5,none⟩=some (.int .i64 x5):=cell_regrown c5'
     have F6:∀ d os,(Go.Sort.grow (redrawn wr d) os).cell? ⟨ga,oa+k * 9+6,none⟩=some (.bool x6):=cell_regrown c6'
     have F7:∀ d os,(Go.Sort.grow (redrawn wr d) os).cell? ⟨ga,oa+k * 9+7,none⟩=some (.int .i64 x7):=cell_regrown c7'
     have F8:∀ d os,(Go.Sort.grow (redrawn wr d) os).cell? ⟨ga,oa+k * 9+8,none⟩=some (.bool x8):=cell_regrown c8'
     go_upto_region 10 with fail
     refine wp_region_quiet_below (by kernel_rfl) (by kernel_rfl) ?_
     repeat (quiet_step (exact hMA _ _))
     refine wpQuiet_nil ?_
     intro _ hw'
     obtain ⟨⟨dq,osq⟩,hw''⟩:=hw'
     subst hw''
     have HBQ:Hid (Below wr.heap.size wr (Go.Sort.grow (redrawn wr dq) osq)):=below_regrown wr dq osq
     have HBL2:Hid (Below W0.heap.size W0 (Go.Sort.grow (redrawn wr dq) osq)):=HBL.out.trans (HBQ.out.mono HBL.out.size)
     clear hMA A4 B4 F0 F1 F2 F3 F4 F5 F6 F7 F8
     generalize Go.Sort.grow (redrawn wr dq) osq=W2 at *
     have hq2:∀ g o v,g < w.heap.size→wr.cell? ⟨g,o,none⟩=some v→W2.cell? ⟨g,o,none⟩=some v:=fun g o v hg h=>(HBQ.out.cell (p:=⟨g,o,none⟩) (Nat.lt_of_lt_of_le hg (HBW.out wr HBL.out).size)).trans h
     obtain ⟨hga,hgb⟩:=HBX.out W2 HBL2.out
     have a42:W2.cell? ⟨w.heap.size,4,none⟩=some (.slice (some ⟨ga,oa,none⟩) k4a c4a):=cellsAt hga 4
     have b42:W2.cell? ⟨w.heap.size+1,4,none⟩=some (.slice (some ⟨gb,ob,none⟩) k4b c4b):=cellsAt hgb 4
     clear hga hgb a4 b4
     have A4:∀ d os,(Go.Sort.grow (redrawn W2 d) os).cell? ⟨w.heap.size,4,none⟩=some (.slice (some ⟨ga,oa,none⟩) k4a c4a):=cell_regrown a42
     have B4:∀ d os,(Go.Sort.grow (redrawn W2 d) os).cell? ⟨w.heap.size+1,4,none⟩=some (.slice (some ⟨gb,ob,none⟩) k4b c4b):=cell_regrown b42
     have F0:∀ d os,(Go.Sort.grow (redrawn W2 d) os).cell? ⟨ga,oa+k * 9,none⟩=some (.string x0):=cell_regrown (hq2 _ _ _ hla c0')
     have F1:∀ d os,(Go.Sort.grow (redrawn W2 d) os).cell? ⟨ga,oa+k * 9+1,none⟩=some (.string x1):=cell_regrown (hq2 _ _ _ hla c1')
     have F2:∀ d os,(Go.Sort.grow (redrawn W2 d) os).cell? ⟨ga,oa+k * 9+2,none⟩=some (.string x2):=cell_regrown (hq2 _ _ _ hla c2')
     have F3:∀ d os,(Go.Sort.grow (redrawn W2 d) os).cell? ⟨ga,oa+k * 9+3,none⟩=some (.string x3):=cell_regrown (hq2 _ _ _ hla c3')
     have F4:∀ d os,(Go.Sort.grow (redrawn W2 d) os).cell? ⟨ga,oa+k * 9+4,none⟩=some (.int .i64 x4):=cell_regrown (hq2 _ _ _ hla c4')
     have F5:∀ d os,(Go.Sort.grow (redrawn W2 d) os).cell? ⟨ga,oa+k * 9+5,none⟩=some (.int .i64 x5):=cell_regrown (hq2 _ _ _ hla c5')
     have F6:∀ d os,(Go.Sort.grow (redrawn W2 d) os).cell? ⟨ga,oa+k * 9+6,none⟩=some (.bool x6):=cell_regrown (hq2 _ _ _ hla c6')
     have F7:∀ d os,(Go.Sort.grow (redrawn W2 d) os).cell? ⟨ga,oa+k * 9+7,none⟩=some (.int .i64 x7):=cell_regrown (hq2 _ _ _ hla c7')
     have F8:∀ d os,(Go.Sort.grow (redrawn W2 d) os).cell? ⟨ga,oa+k * 9+8,none⟩=some (.bool x8):=cell_regrown (hq2 _ _ _ hla c8')
     have G0:∀ d os,(Go.Sort.grow (redrawn W2 d) os).cell? ⟨gb,ob+q * 9,none⟩=some (.string y0):=cell_regrown (hq2 _ _ _ hlb e0')
     have G1:∀ d os,(Go.Sort.grow (redrawn W2 d) os).cell? ⟨gb,ob+q * 9+1,none⟩=some (.string y1):=cell_regrown (hq2 _ _ _ hlb e1')
     have G2:∀ d os,(Go.Sort.grow (redrawn W2 d) os).cell? ⟨gb,ob+q * 9+2,none⟩=some (.string y2):=cell_regrown (hq2 _ _ _ hlb e2')
     have G3:∀ d os,(Go.Sort.grow (redrawn W2 d) os).cell? ⟨gb,ob+q * 9+3,none⟩=some (.string y3):=cell_regrown (hq2 _ _ _ hlb e3')
     have G4:∀ d os,(Go.Sort.grow (redrawn W2 d) os).cell? ⟨gb,ob+q * 9+4,none⟩=some (.int .i64 y4):=cell_regrown (hq2 _ _ _ hlb e4')
     have G5:∀ d os,(Go.Sort.grow (redrawn W2 d) os).cell? ⟨gb,ob+q * 9+5,none⟩=some (.int .i64 y5):=cell_regrown (hq2 _ _ _ hlb e5')
     have G6:∀ d os,(Go.Sort.grow (redrawn W2 d) os).cell? ⟨gb,ob+q * 9+6,none⟩=some (.bool y6):=cell_regrown (hq2 _ _ _ hlb e6')
     have G7:∀ d os,(Go.Sort.grow (redrawn W2 d) os).cell? ⟨gb,ob+q * 9+7,none⟩=some (.int .i64 y7):=cell_regrown (hq2 _ _ _ hlb e7')
     have G8:∀ d os,(Go.Sort.grow (redrawn W2 d) os).cell? ⟨gb,ob+q * 9+8,none⟩=some (.bool y8):=cell_regrown (hq2 _ _ _ hlb e8')
     clear hq2 a42 b42 c0' e0' c1' e1' c2' e2' c3' e3' c4' e4' c5' e5' c6' e6' c7' e7' c8' e8'
     have hd:decide ((q:Int) < 0)=false:=decide_eq_false (by omega)
     have hNW:∀ d os,Calls Tryz.prog 93 #[.agg #[.string x0,.string x1,.string x2,.string x3,.int .i64 x4,.int .i64 x5,.bool x6,.int .i64 x7,.bool x8],.agg #[.string y0,.string y1,.string y2,.string y3,.int .i64 y4,.int .i64 y5,.bool y6,.int .i64 y7,.bool y8]] (Go.Sort.grow (redrawn W2 d) os) fun e w''=>e=.returned (.bool false)∧∃ p:Regrown,w''=Go.Sort.grow (redrawn W2 p.d) p.os:=fun d os=>Calls.regrown_of (HNW.out _)
     go_upto_region 11 with fail
     refine wp_region_quiet_below (by kernel_rfl) (by kernel_rfl) ?_
     repeat (quiet_step (exact hNW _ _))
     refine wpQuiet_nil ?_
     intro _ hw'
     obtain ⟨⟨dq,osq⟩,hw''⟩:=hw'
     subst hw''
     have HBL3:Hid (Below W0.heap.size W0 (Go.Sort.grow (redrawn W2 dq) osq)):=HBL2.out.trans ((below_regrown W2 dq osq).mono HBL2.out.size)
     clear hNW A4 B4 F0 G0 F1 G1 F2 G2 F3 G3 F4 G4 F5 G5 F6 G6 F7 G7 F8 G8 HBQ HBL2
     generalize Go.Sort.grow (redrawn W2 dq) osq=W3 at *
     go_wp2_with fail
     go_roundw
     case rel=>exact ⟨k+1,by omega,by go_num,HBL3⟩
     case measure=>simp [intOf];omega
    ·have hki:¬ (k:Int) < (k4a:Int):=by omega
     clear hlt hk
     go_wp2_with fail
     clear a4 b4 hki
     go_loopw [9] (fun i w'=>∃ k:Nat,k≤k5a∧i=.int .i64 k∧Hid (Below W0.heap.size W0 w')) (fun i _=>k5a - (intOf i).toNat)
     case atStart=>exact ⟨0,Nat.zero_le _,rfl,HBL.out⟩
     case round=>
      clear HBL
      obtain ⟨k,hk,rfl,HBL⟩:=hrel
      obtain ⟨hga,hgb⟩:=HBX.out wr HBL.out
      have a5:wr.cell? ⟨w.heap.size,5,none⟩=some (.slice p5a k5a c5a):=cellsAt hga 5
      have b5:wr.cell? ⟨w.heap.size+1,5,none⟩=some (.slice p5b k5b c5b):=cellsAt hgb 5
      clear hga hgb
      by_cases hlt:k < k5a
      ·obtain ⟨ga,oa,hpa,hla,hra⟩:=HRAG.out (by omega)
       obtain ⟨q,hq,HAT,HNW⟩:=HQG.out k hlt
       obtain ⟨gb,ob,hpb,hlb,hrb⟩:=HRBG.out (by omega)
       subst hpa hpb
       obtain ⟨c0,c1,c2⟩:=hra k hlt
       obtain ⟨e0,e1,e2⟩:=hrb q hq
       clear hra hrb
       generalize a.gw.getD k Gw.dm=x at *
       generalize b.gw.getD q Gw.dm=y at *
       obtain ⟨x0,x1,x2⟩:=x
       obtain ⟨y0,y1,y2⟩:=y
       simp only at HAT HNW c0 e0 c1 e1 c2 e2
       have hba:∀ o,wr.cell? ⟨ga,o,none⟩=w.cell? ⟨ga,o,none⟩:=fun o=>(HBW.out wr HBL.out).cell (p:=⟨ga,o,none⟩) hla
       have hbb:∀ o,wr.cell? ⟨gb,o,none⟩=w.cell? ⟨gb,o,none⟩:=fun o=>(HBW.out wr HBL.out).cell (p:=⟨gb,o,none⟩) hlb
       have c0':=(hba _).trans c0
       have e0':=(hbb _).trans e0
       have c1':=(hba _).trans c1
       have e1':=(hbb _).trans e1
       have c2':=(hba _).trans c2
       have e2':=(hbb _).trans e2
       clear hba hbb c0 e0 c1 e1 c2 e2
       have hki:(k:Int) < (k5a:Int):=by omega
       have hqi:(q:Int) < (k5b:Int):=by omega
       have hMA:∀ d os,Calls Tryz.prog 94 #[.slice (some ⟨gb,ob,none⟩) k5b c5b,.string x0] (Go.Sort.grow (redrawn wr d) os) fun e w''=>e=.returned (.int .i64 (q:Int))∧∃ p:Regrown,w''=Go.Sort.grow (redrawn wr p.d) p.os:=fun d os=>Calls.regrown_of (HAT.out _ ((HBW.out wr HBL.out).trans ((below_regrown wr d os).mono (HBW.out wr HBL.out).size)))
       have A5:∀ d os,(Go.Sort.grow (redrawn wr d) os).cell? ⟨w.heap.size,5,none⟩=some (.slice (some ⟨ga,oa,none⟩) k5a c5a):=cell_regrown a5
       have B5:∀ d os,(Go.Sort.grow (redrawn wr d) os).cell? ⟨w.heap.size+1,5,none⟩=some (.slice (some ⟨gb,ob,none⟩) k5b c5b):=cell_regrown b5
       have F0:∀ d os,(Go.Sort.grow (redrawn wr d) os).cell? ⟨ga,oa+k * 3,none⟩=some (.string x0):=cell_regrown c0'
       have F1:∀ d os,(Go.Sort.grow (redrawn wr d) os).cell? ⟨ga,oa+k * 3+1,none⟩=some (.int .i64 x1):=cell_regrown c1'
       have F2:∀ d os,(Go.Sort.grow (redrawn wr d) os).cell? ⟨ga,oa+k * 3+2,none⟩=some (.int .i64 x2):=cell_regrown c2'
       go_upto_region 16 with fail
       refine wp_region_quiet_below (by kernel_rfl) (by kernel_rfl) ?_
       repeat (quiet_step (exact hMA _ _))
       refine wpQuiet_nil ?_
       intro _ hw'
       obtain ⟨⟨dq,osq⟩,hw''⟩:=hw'
       subst hw''
       have HBQ:Hid (Below wr.heap.size wr (Go.Sort.grow (redrawn wr dq) osq)):=below_regrown wr dq osq
       have HBL2:Hid (Below W0.heap.size W0 (Go.Sort.grow (redrawn wr dq) osq)):=HBL.out.trans (HBQ.out.mono HBL.out.size)
       clear hMA A5 B5 F0 F1 F2
       generalize Go.Sort.grow (redrawn wr dq) osq=W2 at *
       have hq2:∀ g o v,g < w.heap.size→wr.cell? ⟨g,o,none⟩=some v→W2.cell? ⟨g,o,none⟩=some v:=fun g o v hg h=>(HBQ.out.cell (p:=⟨g,o,none⟩) (Nat.lt_of_lt_of_le hg (HBW.out wr HBL.out).size)).trans h
       obtain ⟨hga,hgb⟩:=HBX.out W2 HBL2.out
       have a52:W2.cell? ⟨w.heap.size,5,none⟩=some (.slice (some ⟨ga,oa,none⟩) k5a c5a):=cellsAt hga 5
       have b52:W2.cell? ⟨w.heap.size+1,5,none⟩=some (.slice (some ⟨gb,ob,none⟩) k5b c5b):=cellsAt hgb 5
       clear hga hgb a5 b5
       have A5:∀ d os,(Go.Sort.grow (redrawn W2 d) os).cell? ⟨w.heap.size,5,none⟩=some (.slice (some ⟨ga,oa,none⟩) k5a c5a):=cell_regrown a52
       have B5:∀ d os,(Go.Sort.grow (redrawn W2 d) os).cell? ⟨w.heap.size+1,5,none⟩=some (.slice (some ⟨gb,ob,none⟩) k5b c5b):=cell_regrown b52
       have F0:∀ d os,(Go.Sort.grow (redrawn W2 d) os).cell? ⟨ga,oa+k * 3,none⟩=some (.string x0):=cell_regrown (hq2 _ _ _ hla c0')
       have F1:∀ d os,(Go.Sort.grow (redrawn W2 d) os).cell? ⟨ga,oa+k * 3+1,none⟩=some (.int .i64 x1):=cell_regrown (hq2 _ _ _ hla c1')
       have F2:∀ d os,(Go.Sort.grow (redrawn W2 d) os).cell? ⟨ga,oa+k * 3+2,none⟩=some (.int .i64 x2):=cell_regrown (hq2 _ _ _ hla c2')
       have G0:∀ d os,(Go.Sort.grow (redrawn W2 d) os).cell? ⟨gb,ob+q * 3,none⟩=some (.string y0):=cell_regrown (hq2 _ _ _ hlb e0')
       have G1:∀ d os,(Go.Sort.grow (redrawn W2 d) os).cell? ⟨gb,ob+q * 3+1,none⟩=some (.int .i64 y1):=cell_regrown (hq2 _ _ _ hlb e1')
       have G2:∀ d os,(Go.Sort.grow (redrawn W2 d) os).cell? ⟨gb,ob+q * 3+2,none⟩=some (.int .i64 y2):=cell_regrown (hq2 _ _ _ hlb e2')
       clear hq2 a52 b52 c0' e0' c1' e1' c2' e2'
       have hd:decide ((q:Int) < 0)=false:=decide_eq_false (by omega)
       have hv:decide (y2 < x2)=false:=decide_eq_false (by have:=HNW.out;omega)
       go_upto_region 17 with fail
       refine wp_region_quiet_below (by kernel_rfl) (by kernel_rfl) ?_
       repeat (quiet_step (fail))
       refine wpQuiet_nil ?_
       intro _ hw'
       obtain ⟨⟨dq,osq⟩,hw''⟩:=hw'
       subst hw''
       have HBL3:Hid (Below W0.heap.size W0 (Go.Sort.grow (redrawn W2 dq) osq)):=HBL2.out.trans ((below_regrown W2 dq osq).mono HBL2.out.size)
       clear hv A5 B5 F0 G0 F1 G1 F2 G2 HBQ HBL2
       generalize Go.Sort.grow (redrawn W2 dq) osq=W3 at *
       go_wp2_with fail
       go_roundw
       case rel=>exact ⟨k+1,by omega,by go_num,HBL3⟩
       case measure=>simp [intOf];omega
      ·have hki:¬ (k:Int) < (k5a:Int):=by omega
       clear hlt hk
       go_wp2_with fail
       go_ret
       exact ⟨rfl,HBW.out wr HBL.out⟩
end Go.Proofs.YtikgjgmgbfjcgaaGreat
