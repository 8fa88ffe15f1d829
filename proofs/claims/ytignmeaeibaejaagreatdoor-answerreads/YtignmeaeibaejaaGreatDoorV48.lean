import Derived.Test.YtignmeaeibaejaaGreatDoorV46
import Derived.Deep.DeepCutAuto
import Derived.Deep.CutBlock
import Derived.Test.YtignmeaeibaejaaGreatDoorV33
import Derived.Test.YtignmeaeibaejaaGreatDoorV39
import Derived.Test.YtignmeaeibaejaaGreatDoorV47
import Derived.Test.YtignmeaeibaejaaGreatDoorV45
namespace Go.Proofs.YtignmeaeibaejaaGreatDoor
open Go.RowKit
def MsV (w:World) (m:Option Ms) (x:Array Value):Prop:=match m with
 | none=>x=zmsg
 | some M=>∃ v,Rc.Sl w v M.rs∧M.rs.length≤1000∧x=#[.int .i64 M.id,.bool M.ans,.bool M.cut,.int .i64 M.code,.string M.R,.int .i64 M.typ,v]
theorem MsV.below {w w':World} {m:Option Ms} {x:Array Value} (h:MsV w m x) (hb:Below w.heap.size w w'):MsV w' m x:=by
 cases m with
 | none=>exact h
 | some M=>
   obtain ⟨v,h1,h2,h3⟩:=h
   exact ⟨v,h1.below hb,h2,h3⟩
def rdM (t:ByteArray):Option Ms:=if t.size≤512∧rdE t=0 then msgF t else none
def rdX (t:ByteArray):Int:=if t.size≤512 then (if rdE t=0 then 0 else 1) else 2
theorem rdP_is {t:ByteArray} {w:World} {e:Ending} {w':World} (h:RdP t w e w'):∃ i a c o r y p l k,e=.returned (.tuple #[.agg #[.int .i64 i,.bool a,.bool c,.int .i64 o,.string r,.int .i64 y,.slice p l k],.int .i64 (rdX t)])∧Hid (MsV w' (rdM t) #[.int .i64 i,.bool a,.bool c,.int .i64 o,.string r,.int .i64 y,.slice p l k])∧Below w.heap.size w w':=by
 obtain ⟨hb,⟨M,v,hM,hl,hc,he,ho⟩ | ⟨E,hE,hE2,he⟩⟩:=h
 ·have h0:rdE t=0:=by unfold rdE;rw [hM];exact hc
  have hx:rdX t=0:=by unfold rdX;rw [if_pos hl,if_pos h0]
  have hm:rdM t=some M:=by unfold rdM;rw [if_pos ⟨hl,h0⟩,hM]
  have hcf:=chkMsg_facts hc
  obtain ⟨p,l,k,rfl⟩:∃ a l c,v=.slice a l c:=by
   rcases ho.out.2 with ⟨hv,_⟩ | ⟨gq,cq,_,hv,_⟩
   ·exact ⟨_,_,_,hv⟩
   ·exact ⟨_,_,_,hv⟩
  refine ⟨M.id,M.ans,M.cut,M.code,M.R,M.typ,p,l,k,by rw [hx];exact he,?_,hb⟩
  rw [hm]
  exact ⟨_,ho.out.sl (recs_ok hcf.2.2),by have:=hcf.1;omega,rfl⟩
 ·have hm:rdM t=none:=by
   unfold rdM
   rw [if_neg (fun h=>hE2 h.1 h.2)]
  have hx:rdX t=E:=by
   unfold rdX
   rw [hE]
   by_cases hl:t.size≤512
   ·rw [if_pos hl,if_pos hl,if_neg (hE2 hl)]
   ·rw [if_neg hl,if_neg hl]
  refine ⟨0,false,false,0,⟨#[]⟩,0,none,0,0,by rw [hx];exact he,?_,hb⟩
  rw [hm]
  exact (rfl:_=zmsg)
def quietB (s:ByteArray):Bool:=decide (s.size < 12) || decide (128≤(s.data.toList.getD 2 0).toNat)
def repId (s:ByteArray):Int:=256 * ((s.data.toList.getD 0 0).toNat:Int)+((s.data.toList.getD 1 0).toNat:Int)
theorem repId_in (s:ByteArray):0≤repId s∧repId s≤65535:=by
 unfold repId
 have h0:=(s.data.toList.getD 0 0).toNat_lt
 have h1:=(s.data.toList.getD 1 0).toNat_lt
 omega
def ansL (name:ByteArray) (typ:Int) (here:ByteArray) (sv:List Sv.Svc) (ms:List Mem) (p:Pl) (wh:List Wh.Whe):List Rc.Rec:=
 if prsE name=0 then (if (anS (prsQ name) typ here sv ms p wh).e=0 then (anS (prsQ name) typ here sv ms p wh).rs else []) else []
def ansC (name:ByteArray) (typ:Int) (here:ByteArray) (sv:List Sv.Svc) (ms:List Mem) (p:Pl) (wh:List Wh.Whe):Int:=
 if prsE name=0 then (if (anS (prsQ name) typ here sv ms p wh).e=0 then (anS (prsQ name) typ here sv ms p wh).code else 2) else if prsE name=8 then 4 else 3
structure Rp where
 code:Int
 typ:Int
 R:ByteArray
 rs:List Rc.Rec
def repM (s here:ByteArray) (sv:List Sv.Svc) (ms:List Mem) (p:Pl) (wh:List Wh.Whe):Rp:=match rdM s with
 | some M=>if M.rs.length=0 then ⟨ansC M.R M.typ here sv ms p wh,M.typ,M.R,ansL M.R M.typ here sv ms p wh⟩ else ⟨1,1,⟨#[]⟩,[]⟩
 | none=>⟨1,1,⟨#[]⟩,[]⟩
theorem rdM_some {s:ByteArray} {M:Ms} (h:rdM s=some M):chkMsg M.id M.code M.typ M.R M.rs=0:=by
 unfold rdM at h
 by_cases hc:s.size≤512∧rdE s=0
 ·rw [if_pos hc] at h
  have h2:=hc.2
  unfold rdE at h2
  rw [h] at h2
  exact h2
 ·rw [if_neg hc] at h;cases h
theorem chkMsg_typ {id code typ:Int} {name:ByteArray} {rs:List Rc.Rec} (h:chkMsg id code typ name rs=0):typB typ=true:=by
 unfold chkMsg at h
 split at h
 ·omega
 ·split at h
  ·omega
  ·split at h
   ·rename_i h1;exact absurd h h1
   ·split at h
    ·omega
    ·rename_i h1;simpa using h1
theorem prE_chk {q:Qu} (h:prE q=0):chkQ q=0∧chkN (prS q)=0:=by
 unfold prE at h
 by_cases h2:chkQ q=0
 ·rw [if_pos h2] at h
  refine ⟨h2,?_⟩
  have h3:prE q=0:=by unfold prE;rw [if_pos h2];exact h
  unfold prS
  rw [if_pos h3]
  exact h
 ·rw [if_neg h2] at h;exact absurd h h2
theorem chkN_empty:chkN ⟨#[]⟩=0:=by kernel_rfl
theorem svc_facts {s:Sv.Svc} (h:s.e=0):within s.addr 0 4294967295=true∧within s.port 0 65535=true∧s.idn.size≤30:=by
 unfold Sv.Svc.e at h
 split at h
 ·rename_i h1
  split at h
  ·rename_i h2
   simp only [Bool.and_eq_true] at h1 h2
   refine ⟨h2.1,h2.2.1,?_⟩
   have h3:=h1.2.1
   unfold labB at h3
   simp only [Bool.and_eq_true,decide_eq_true_eq] at h3
   exact h3.1.2
  ·omega
 ·omega
theorem w0:within 0 0 2147483647=true:=by decide
theorem rec1_chk {name here:ByteArray} {t:Int} {s:Sv.Svc} (hn:chkN name=0) (ht:typB t=true) (hs:s.e=0) (he:recE here t s=0):chkRec (rec1 name here t s)=0:=by
 obtain ⟨h1,h2,h3⟩:=svc_facts hs
 have ht2:t=1∨t=16∨t=33:=by unfold typB at ht;simpa [or_assoc] using ht
 have e0:(⟨#[]⟩:ByteArray).size=0:=rfl
 rcases ht2 with rfl | rfl | rfl
 ·have e:rec1 name here 1 s=⟨name,1,0,s.addr,⟨#[]⟩,0,⟨#[]⟩⟩:=rfl
  rw [e]
  unfold chkRec
  simp only [hn,ownB,h1,w0,chkN_empty,e0]
  simp [typB,within]
 ·have e:rec1 name here 16 s=⟨name,16,0,0,s.idn,0,⟨#[]⟩⟩:=rfl
  rw [e]
  have h4:¬ 200 < s.idn.size:=by omega
  unfold chkRec
  simp only [hn,ownB,w0,chkN_empty,e0,h4]
  simp [typB,within]
 ·have e:rec1 name here 33 s=⟨name,33,0,0,⟨#[]⟩,s.port,prS (qN s.node here)⟩:=rfl
  have he2:prE (qN s.node here)=0:=he
  have h5:=(prE_chk he2).2
  rw [e]
  unfold chkRec
  simp only [hn,ownB,w0,h2,h5,e0]
  simp [typB,within]
theorem mem_addr {ms:List Mem} {t:ByteArray} (hc:chk ms=0):within (mOf ms t).addr 0 4294967295=true:=by
 cases h:fstM ms t with
 | none=>rw [mOf_none h];decide
 | some m=>
   rw [mOf_some h]
   have h2:m.e=0:=firstE_mem0 (chk_zero hc).2.2 m (fstM_mem h).1
   unfold Mem.e oneE at h2
   split at h2
   ·split at h2
    ·split at h2
     ·split at h2
      ·rename_i h5;exact h5
      ·omega
     ·omega
    ·omega
   ·omega
theorem nd_chk {name:ByteArray} {ad:Int} (hn:chkN name=0) (ha:within ad 0 4294967295=true):chkRec ⟨name,1,0,ad,⟨#[]⟩,0,⟨#[]⟩⟩=0:=by
 have e0:(⟨#[]⟩:ByteArray).size=0:=rfl
 unfold chkRec
 simp only [hn,ownB,ha,w0,chkN_empty,e0]
 simp [typB,within]
theorem recsE_none {here:ByteArray} {t:Int}:∀ {L:List Sv.Svc},recsE here t L=0→∀ s∈L,recE here t s=0
 | [],_,s,hs=>by simp at hs
 | x :: r,h,s,hs=>by
   rw [recsE] at h
   by_cases h2:recE here t x=0
   ·rw [if_pos h2] at h
    rcases List.mem_cons.1 hs with rfl | hs
    ·exact h2
    ·exact recsE_none h s hs
   ·rw [if_neg h2] at h;exact absurd h h2
theorem anS_chk {q:Qu} {t:Int} {here:ByteArray} {sv:List Sv.Svc} {ms:List Mem} {p:Pl} {wh:List Wh.Whe} (hk:KnOk here sv ms p wh) (ht:typB t=true) (he:(anS q t here sv ms p wh).e=0):∀ r∈(anS q t here sv ms p wh).rs,chkRec r=0:=by
 unfold anS at he ⊢
 by_cases h1:prE q=0
 ·rw [if_pos h1] at he ⊢
  have hn:=(prE_chk h1).2
  by_cases h2:q.centre.size≠0∧q.centre≠here
  ·rw [if_pos h2];simp
  ·rw [if_neg h2] at he ⊢
   by_cases h3:q.node.size≠0
   ·rw [if_pos h3] at he ⊢
    unfold ofNd
    split
    ·split
     ·intro r hr
      simp at hr
      subst hr
      exact nd_chk hn (mem_addr hk.ms)
     ·simp
    ·simp
   ·rw [if_neg h3] at he ⊢
    unfold ofSv at he ⊢
    by_cases h4:Sv.findL sv q.service ⟨#[]⟩=[]
    ·rw [if_pos h4];simp
    ·rw [if_neg h4] at he ⊢
     by_cases h5:recsE here t (nearL p wh ms (Sv.findL sv q.service q.tag))=0
     ·rw [if_pos h5]
      intro r hr
      obtain ⟨s,hs,rfl⟩:=List.mem_map.1 hr
      have h6:=(List.mem_filter.1 (near_mem hs).1).1
      exact rec1_chk hn ht (Sv.firstE_mem sv (Sv.chk_zero hk.sv).2.2 s h6) (recsE_none h5 s hs)
     ·rw [if_neg h5] at he;exact absurd he h5
 ·rw [if_neg h1] at he;exact absurd he h1
theorem anS_few (q:Qu) (t:Int) (here:ByteArray) (sv:List Sv.Svc) (ms:List Mem) (p:Pl) (wh:List Wh.Whe):(anS q t here sv ms p wh).rs.length≤20:=by
 unfold anS
 split
 ·split
  ·simp
  ·split
   ·unfold ofNd;(repeat' split)<;>simp
   ·unfold ofSv
    split
    ·simp
    ·split
     ·rw [List.length_map];exact near_len _ _ _ _
     ·simp
 ·simp
theorem anS_code (q:Qu) (t:Int) (here:ByteArray) (sv:List Sv.Svc) (ms:List Mem) (p:Pl) (wh:List Wh.Whe):0≤(anS q t here sv ms p wh).code∧(anS q t here sv ms p wh).code≤15:=by
 unfold anS
 split
 ·split
  ·simp
  ·split
   ·unfold ofNd;(repeat' split)<;>simp
   ·unfold ofSv;(repeat' split)<;>simp
 ·simp
structure RpOk (r:Rp):Prop where
 code:within r.code 0 15=true
 few:r.rs.length≤20
 name:chkN r.R=0
 typ:typB r.typ=true
 rs:∀ x∈r.rs,chkRec x=0
theorem chkRs_zero:∀ {rs:List Rc.Rec},(∀ r∈rs,chkRec r=0)→chkRs rs=0
 | [],_=>rfl
 | x :: r,h=>by rw [chkRs,if_pos (h x (by simp))];exact chkRs_zero fun y hy=>h y (by simp [hy])
theorem ansC_in (name:ByteArray) (typ:Int) (here:ByteArray) (sv:List Sv.Svc) (ms:List Mem) (p:Pl) (wh:List Wh.Whe):within (ansC name typ here sv ms p wh) 0 15=true:=by
 have h:=anS_code (prsQ name) typ here sv ms p wh
 unfold ansC
 split
 ·split
  ·unfold within;simp;omega
  ·decide
 ·split<;>decide
theorem repM_ok {s here:ByteArray} {sv:List Sv.Svc} {ms:List Mem} {p:Pl} {wh:List Wh.Whe} (hk:KnOk here sv ms p wh):RpOk (repM s here sv ms p wh):=by
 have hform:RpOk ⟨1,1,⟨#[]⟩,[]⟩:=⟨by decide,by simp,chkN_empty,by decide,by simp⟩
 unfold repM
 cases h:rdM s with
 | none=>exact hform
 | some M=>
   simp only
   by_cases h0:M.rs.length=0
   ·rw [if_pos h0]
    have hc:=rdM_some h
    have ht:=chkMsg_typ hc
    refine ⟨ansC_in _ _ _ _ _ _ _,?_,(chkMsg_facts hc).2.1,ht,?_⟩
    ·show (ansL M.R M.typ here sv ms p wh).length≤20
     unfold ansL
     split
     ·split
      ·exact anS_few _ _ _ _ _ _ _
      ·simp
     ·simp
    ·show ∀ x∈ansL M.R M.typ here sv ms p wh,chkRec x=0
     unfold ansL
     split
     ·split
      ·rename_i h1 h2
       exact anS_chk hk ht h2
      ·simp
     ·simp
   ·rw [if_neg h0];exact hform
theorem rp_chk {id:Int} {r:Rp} (h:RpOk r) (hi:0≤id∧id≤65535):chkMsg id r.code r.typ r.R r.rs=0:=by
 have h1:within id 0 65535=true:=by unfold within;simp;omega
 unfold chkMsg
 rw [h1,h.code]
 simp only [Bool.and_self,Bool.true_eq_false,if_false]
 rw [if_neg (by have:=h.few;omega),if_neg (by simpa using h.name),if_neg (by rw [h.typ];simp)]
 exact chkRs_zero h.rs
theorem head_len (id code typ:Int) (ans cut:Bool) {name:ByteArray} (h:chkN name=0) (n:Nat):(wheadL id code typ ans cut name n).length≤300:=by
 have h1:=wname_len h
 rw [wname_cells,Lib.byteCells_length] at h1
 unfold wheadL
 simp only [List.length_append,nbl_len]
 omega
theorem fitN_zero {f:Nat→List UInt8} {size:Int} (h:((f 0).length:Int)≤size):∀ n,(fitN f size n).isSome=true
 | 0=>by rw [fitN,if_pos h];rfl
 | k+1=>by
   rw [fitN]
   split
   ·rfl
   ·exact fitN_zero h k
theorem rp_fits {id:Int} {r:Rp} (h:RpOk r) (hi:0≤id∧id≤65535):fitE id r.code r.typ true false r.R r.rs 512=0:=by
 unfold fitE
 rw [if_neg (by decide),if_pos (rp_chk h hi),if_pos]
 refine fitN_zero ?_ _
 have h1:=head_len id r.code r.typ true (false || decide (0 < r.rs.length)) h.name 0
 unfold fitB wallL
 simp only [List.take_zero,List.length_nil,List.flatMap_nil,List.append_nil]
 omega
def repT (s here:ByteArray) (sv:List Sv.Svc) (ms:List Mem) (p:Pl) (wh:List Wh.Whe):ByteArray:=fitT (repId s) (repM s here sv ms p wh).code (repM s here sv ms p wh).typ true false (repM s here sv ms p wh).R (repM s here sv ms p wh).rs 512
end Go.Proofs.YtignmeaeibaejaaGreatDoor
