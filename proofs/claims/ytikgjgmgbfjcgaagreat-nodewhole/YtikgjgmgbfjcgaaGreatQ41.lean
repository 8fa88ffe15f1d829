import Derived.Test.YtikgjgmgbfjcgaaGreatQ13
import Derived.Test.YtikgjgmgbfjcgaaGreatQ40
namespace Go.Proofs.YtikgjgmgbfjcgaaGreat
namespace Sv
open Go.RowKit
end Sv
namespace Sv
open Go.RowKit
set_option maxHeartbeats 1600000 in
theorem newerR_vars (f:Nat) (hf:f=93) (a_node:ByteArray) (a_idn:ByteArray) (a_name:ByteArray) (a_tag:ByteArray) (a_addr:Int) (a_port:Int) (a_passing:Bool) (a_version:Int) (a_gone:Bool) (b_node:ByteArray) (b_idn:ByteArray) (b_name:ByteArray) (b_tag:ByteArray) (b_addr:Int) (b_port:Int) (b_passing:Bool) (b_version:Int) (b_gone:Bool) (w:World) :
 Calls Tryz.prog f #[.agg #[.string a_node,.string a_idn,.string a_name,.string a_tag,.int .i64 a_addr,.int .i64 a_port,.bool a_passing,.int .i64 a_version,.bool a_gone],.agg #[.string b_node,.string b_idn,.string b_name,.string b_tag,.int .i64 b_addr,.int .i64 b_port,.bool b_passing,.int .i64 b_version,.bool b_gone]] w fun e w'=>e=.returned (.bool (newE ⟨a_node,a_idn,a_name,a_tag,a_addr,a_port,a_passing,a_version,a_gone⟩ ⟨b_node,b_idn,b_name,b_tag,b_addr,b_port,b_passing,b_version,b_gone⟩))∧Below w.heap.size w w':=by
 subst hf
 have hB:Hid (Below w.heap.size w ((w.alloc (.cells #[.string a_node,.string a_idn,.string a_name,.string a_tag,.int .i64 a_addr,.int .i64 a_port,.bool a_passing,.int .i64 a_version,.bool a_gone] 62)).alloc (.cells #[.string b_node,.string b_idn,.string b_name,.string b_tag,.int .i64 b_addr,.int .i64 b_port,.bool b_passing,.int .i64 b_version,.bool b_gone] 62))):=((Below.refl _ _).alloc (Nat.le_refl _) _).alloc (by simp) _
 by_cases h1:a_version=b_version
 ·subst h1
  by_cases h2:a_gone=b_gone
  ·subst h2
   by_cases h3:a_name=b_name
   ·subst h3
    by_cases h4:a_tag=b_tag
    ·subst h4
     by_cases h5:a_addr=b_addr
     ·subst h5
      by_cases h6:a_port=b_port
      ·subst h6
       cases a_passing
       all_goals
        go_enter Tryz.func93,Tryz.ntmps93
        go_wp2
        go_ret
        exact ⟨ret_bool (by rw [newE_def];simp),hB.out⟩
      ·have h6':(a_port != b_port)=true:=by simpa using h6
       go_enter Tryz.func93,Tryz.ntmps93
       go_wp2
       go_ret
       exact ⟨ret_bool (by rw [newE_def];simp [h6]),hB.out⟩
     ·have h5':(a_addr != b_addr)=true:=by simpa using h5
      go_enter Tryz.func93,Tryz.ntmps93
      go_wp2
      go_ret
      exact ⟨ret_bool (by rw [newE_def];simp [h5]),hB.out⟩
    ·obtain ⟨g1,g2⟩:=beq_name h4
     have H4:Hid (¬ a_tag=b_tag):=h4
     clear h4
     go_enter Tryz.func93,Tryz.ntmps93
     go_wp2
     go_ret
     exact ⟨ret_bool (by rw [newE_def];simp [H4.out,less];exact less_not H4.out),hB.out⟩
   ·obtain ⟨g1,g2⟩:=beq_name h3
    have H3:Hid (¬ a_name=b_name):=h3
    clear h3
    go_enter Tryz.func93,Tryz.ntmps93
    go_wp2
    go_ret
    exact ⟨ret_bool (by rw [newE_def];simp [H3.out,less];exact less_not H3.out),hB.out⟩
  ·have hg:b_gone = !a_gone:=by cases a_gone<;>cases b_gone<;>simp at h2 ⊢
   subst hg
   clear h2
   cases a_gone
   all_goals
    go_enter Tryz.func93,Tryz.ntmps93
    go_wp2
    go_ret
    exact ⟨ret_bool (by rw [newE_def];simp),hB.out⟩
 ·have h1':(a_version != b_version)=true:=by simpa using h1
  go_enter Tryz.func93,Tryz.ntmps93
  go_wp2
  go_ret
  exact ⟨ret_bool (by rw [newE_def];simp [h1]),hB.out⟩
theorem newerR_any (a b:Svc) (w:World) :
 Calls Tryz.prog 93 #[.agg #[.string a.node,.string a.idn,.string a.name,.string a.tag,.int .i64 a.addr,.int .i64 a.port,.bool a.passing,.int .i64 a.version,.bool a.gone],.agg #[.string b.node,.string b.idn,.string b.name,.string b.tag,.int .i64 b.addr,.int .i64 b.port,.bool b.passing,.int .i64 b.version,.bool b.gone]] w fun e w'=>e=.returned (.bool (newE a b))∧Below w.heap.size w w':=
 newerR_vars _ rfl a.node a.idn a.name a.tag a.addr a.port a.passing a.version a.gone b.node b.idn b.name b.tag b.addr b.port b.passing b.version b.gone w
def AtI (ms:List Svc) (node idn:ByteArray) (r:Int):Prop:=
 (∃ k:Nat,k < ms.length∧r=k∧(ms.getD k dm).node=node∧(ms.getD k dm).idn=idn)∨(r = -1∧∀ j,j < ms.length→¬ ((ms.getD j dm).node=node∧(ms.getD j dm).idn=idn))
set_option maxHeartbeats 800000 in
theorem refAt_any (ms:List Svc) (v:Value) (node idn:ByteArray) (w:World) (hv:Sl w v ms) (hn:ms.length≤1000000) :
 Calls Tryz.prog 92 #[v,.string node,.string idn] w fun e w'=>∃ r:Int,e=.returned (.int .i64 r)∧Hid (AtI ms node idn r)∧w'=w:=by
 obtain ⟨pa,ca,rfl,_,ha⟩:=hv
 have HA:Hid (ms=[]∨∃ b off,pa=some ⟨b,off,none⟩∧b < w.heap.size∧Row w b off ms):=ha
 clear ha
 generalize hna:ms.length=n at *
 have HN:Hid (ms.length=n):=hna
 clear hna
 go_enter Tryz.func92,Tryz.ntmps92
 go_wp2_with fail
 go_loop [7] (fun i=>∃ k:Nat,k≤n∧i=.int .i64 k∧Hid (∀ j,j < k→¬ ((ms.getD j dm).node=node∧(ms.getD j dm).idn=idn))) (fun i=>n - (intOf i).toNat)
 case atStart=>exact ⟨0,Nat.zero_le _,rfl,fun j h=>absurd h (Nat.not_lt_zero _)⟩
 case round=>
  obtain ⟨k,hk,rfl,hz⟩:=hrel
  by_cases hlt:k < n
  ·obtain ⟨b1,o1,hp1,hl1,hr1⟩:∃ b off,pa=some ⟨b,off,none⟩∧b < w.heap.size∧Row w b off ms:=by
    rcases HA.out with h | h
    ·have:=HN.out;rw [h] at this;simp at this;omega
    ·exact h
   subst hp1
   obtain ⟨c0,c1,c2,c3,c4,c5,c6,c7,c8⟩:=hr1 k (by rw [HN.out];exact hlt)
   clear hr1
   have HF:Hid ((ms.getD k dm).node=node→(ms.getD k dm).idn=idn→AtI ms node idn (k:Int)):=fun h h2=>.inl ⟨k,by rw [HN.out];exact hlt,rfl,h,h2⟩
   have HZ:Hid (¬ ((ms.getD k dm).node=node∧(ms.getD k dm).idn=idn)→∀ j,j < k+1→¬ ((ms.getD j dm).node=node∧(ms.getD j dm).idn=idn)):=fun h j hj=>by
    rcases Nat.lt_succ_iff_lt_or_eq.1 hj with h2 | rfl
    ·exact hz.out j h2
    ·exact h
   generalize ms.getD k dm=m at *
   obtain ⟨mn,mi,m2,m3,m4,m5,m6,m7,m8⟩:=m
   simp only at c0 c1
   by_cases he:mn=node
   ·subst he
    by_cases he2:mi=idn
    ·subst he2
     have HF2:Hid (AtI ms mn mi (k:Int)):=HF.out rfl rfl
     clear HF HZ
     go_wp2_with fail
     go_ret
     exact ⟨k,rfl,HF2,rfl⟩
    ·obtain ⟨h1,h2⟩:=beq_name he2
     have HE:Hid (¬ mi=idn):=he2
     clear he2
     go_wp2_with fail
     go_round
     case rel=>exact ⟨k+1,by omega,by go_num,HZ.out (fun h=>HE.out h.2)⟩
     case measure=>simp [intOf];omega
   ·obtain ⟨h1,h2⟩:=beq_name he
    have HE:Hid (¬ mn=node):=he
    clear he
    go_wp2_with fail
    go_round
    case rel=>exact ⟨k+1,by omega,by go_num,HZ.out (fun h=>HE.out h.1)⟩
    case measure=>simp [intOf];omega
  ·go_wp2_with fail
   go_ret
   exact ⟨-1,rfl,.inr ⟨rfl,fun j hj=>hz.out j (by have:=HN.out;omega)⟩,rfl⟩
theorem ord_zero {a b:Svc}:ord a b=0↔a.node=b.node∧a.idn=b.idn:=by
 constructor
 ·intro h
  obtain ⟨h1,h2⟩:=RL.lex_zero h
  exact ⟨(cmpI_eq _ _).1 h1,(cmpI_eq _ _).1 h2⟩
 ·rintro ⟨h1,h2⟩
  show (if cmpI a.node b.node=0 then cmpI a.idn b.idn else cmpI a.node b.node)=0
  rw [if_pos ((cmpI_eq _ _).2 h1)];exact (cmpI_eq _ _).2 h2
theorem atI_at {ms:List Svc} {t:Svc} {r:Int} {p:Nat} {f:Bool} (hi:AtI ms t.node t.idn r) (ha:At ms t p f) (hr:Rise ms):(f=true→r=p)∧(f=false→r = -1):=by
 rcases hi with ⟨k,hk,rfl,hn⟩ | ⟨rfl,hn⟩
 ·obtain ⟨rfl,rfl⟩:=at_uniq ha (RL.at_of ord dm keyed hr hk (ord_zero.2 hn))
  exact ⟨fun _=>rfl,fun h=>by cases h⟩
 ·refine ⟨fun h=>?_,fun _=>rfl⟩
  have:=ha.is.1 h
  exact absurd (ord_zero.1 this.2) (hn p this.1)
def atV (p:Nat) (f:Bool):Int:=if f=true then (p:Int) else -1
theorem refAtV (ms:List Svc) (v:Value) (t:Svc) (w:World) (hv:Sl w v ms) (hn:ms.length≤1000000) (hr:Rise ms) (p:Nat) (f:Bool) (ha:At ms t p f) :
 Calls Tryz.prog 92 #[v,.string t.node,.string t.idn] w fun e w'=>e=.returned (.int .i64 (atV p f))∧Below w.heap.size w w':=by
 refine (refAt_any ms v t.node t.idn w hv hn).mono ?_
 rintro e w' ⟨r,rfl,hI,rfl⟩
 have h:=atI_at hI.out ha hr
 refine ⟨?_,Below.refl _ _⟩
 cases f
 ·rw [h.2 rfl];rfl
 ·rw [h.1 rfl];rfl
end Sv
end Go.Proofs.YtikgjgmgbfjcgaaGreat
