import Derived.Test.YtffdoiokmiklgaaGreatDoorW18
import Derived.Laws.StructEq
import Derived.Deep.Slices
import Derived.Lib.SmallJoins
import Derived.ProofKit
import Derived.Test.YtffdoiokmiklgaaGreatDoorW31
import Derived.Test.YtffdoiokmiklgaaGreatDoorW17
namespace Go.Proofs.YtffdoiokmiklgaaGreatDoor
namespace Sv
open Go.RowKit
theorem join_any (a b:List Svc) (va vb:Value) (pb cap:Nat) (w:World) (ha:Sl w va a) (hb:Sl w vb b) (hpb:pb < w.heap.size) (hc0:w.cell? ⟨pb,0,none⟩=some va) (hc1:w.cell? ⟨pb,1,none⟩=some vb) :
 Calls Tryz.prog 137 #[.slice (some ⟨pb,0,none⟩) 2 cap] w fun e w'=>∃ v',e=.returned (.tuple #[v',.int .i64 (joinE a b)])∧Below w.heap.size w w' ∧
  (joinE a b≠0→v'=.slice none 0 0)∧(joinE a b=0→Own w.heap.size w' v' (joinL a b)):=by
 by_cases h0:chkTwo a b=0
 ·refine (join_good a b va vb pb cap w ha hb hpb hc0 hc1 h0).mono ?_
  rintro e w' ⟨v',rfl,h1,h2,h3⟩
  have hE:joinE a b=if 40 < (joinL a b).length then 2 else 0:=if_pos h0
  refine ⟨v',rfl,h1,fun hne=>h2 ?_,fun hz=>h3 ?_⟩
  ·rw [hE] at hne;split at hne
   ·assumption
   ·exact absurd rfl hne
  ·rw [hE] at hz;split at hz
   ·cases hz
   ·omega
 ·refine (join_bad a b va vb pb cap w ha hb hpb hc0 hc1 h0).mono ?_
  rintro e w' ⟨rfl,h1⟩
  have hE:joinE a b=chkTwo a b:=if_neg h0
  exact ⟨_,rfl,h1,fun _=>rfl,fun hz=>absurd (hE▸hz) h0⟩
set_option maxHeartbeats 800000 in
theorem join2_any (a b:List Svc) (va vb:Value) (w:World) (ha:Sl w va a) (hb:Sl w vb b) :
 Calls Tryz.prog 90 #[va,vb] w fun e w'=>∃ v',e=.returned (.tuple #[v',.int .i64 (joinE a b)])∧Below w.heap.size w w' ∧
  (joinE a b≠0→v'=.slice none 0 0)∧(joinE a b=0→Own w.heap.size w' v' (joinL a b)):=by
 have HA:=ha
 have HB:=hb
 obtain ⟨pa,ca,rfl,_,_⟩:=ha
 obtain ⟨pv,cb,rfl,_,_⟩:=hb
 have hb0:Below w.heap.size w (w.alloc (.cells #[.slice pa a.length ca,.slice pv b.length cb] 47)):=(Below.refl _ _).alloc (Nat.le_refl _) _
 have HA':Hid (Sl (w.alloc (.cells #[.slice pa a.length ca,.slice pv b.length cb] 47)) (.slice pa a.length ca) a):=HA.below hb0
 have HB':Hid (Sl (w.alloc (.cells #[.slice pa a.length ca,.slice pv b.length cb] 47)) (.slice pv b.length cb) b):=HB.below hb0
 clear HA HB
 generalize a.length=na at *
 generalize b.length=nb at *
 go_enter Tryz.func90,Tryz.ntmps90
 go_wp2_with fail
 refine (join_any a b (.slice pa na ca) (.slice pv nb cb) w.heap.size 2 _ HA'.out HB'.out (by simp) (cellsAt (heap_alloc_new w _) 0) (cellsAt (heap_alloc_new w _) 1)).mono ?_
 rintro e w2 ⟨v',rfl,h1,h2,h3⟩
 have H2:Hid (joinE a b≠0→v'=.slice none 0 0):=h2
 have H3:Hid (joinE a b=0→Own (w.alloc (.cells #[.slice pa na ca,.slice pv nb cb] 47)).heap.size w2 v' (joinL a b)):=h3
 clear h2 h3
 go_wp2_with fail
 go_ret2
 exact ⟨v',rfl,hb0.trans (h1.mono (by simp)),H2.out,fun h=>(H3.out h).mono (by simp)⟩
def sameM (x y:Svc):Bool:=x.node.toList == y.node.toList && (x.idn.toList == y.idn.toList && (x.name.toList == y.name.toList && (x.tag.toList == y.tag.toList && (x.addr == y.addr && (x.port == y.port && (x.passing == y.passing && (x.version == y.version && (x.gone == y.gone))))))))
theorem sameM_iff (x y:Svc):sameM x y=true↔x=y:=by
 obtain ⟨x_node,x_idn,x_name,x_tag,x_addr,x_port,x_passing,x_version,x_gone⟩:=x
 obtain ⟨y_node,y_idn,y_name,y_tag,y_addr,y_port,y_passing,y_version,y_gone⟩:=y
 simp only [sameM,Bool.and_eq_true,beq_iff_eq,Svc.mk.injEq,Lib.toList_data]
 constructor
 ·rintro ⟨h0,h1,h2,h3,h4,h5,h6,h7,h8⟩;exact ⟨ba_ext h0,ba_ext h1,ba_ext h2,ba_ext h3,h4,h5,h6,h7,h8⟩
 ·rintro ⟨h0,h1,h2,h3,h4,h5,h6,h7,h8⟩;exact ⟨by rw [h0],by rw [h1],by rw [h2],by rw [h3],h4,h5,h6,h7,h8⟩
theorem eqInE (m1 m2:Svc) (w:World):(Op.equalIn 10000 42 (.agg #[.string m1.node,.string m1.idn,.string m1.name,.string m1.tag,.int .i64 m1.addr,.int .i64 m1.port,.bool m1.passing,.int .i64 m1.version,.bool m1.gone]) (.agg #[.string m2.node,.string m2.idn,.string m2.name,.string m2.tag,.int .i64 m2.addr,.int .i64 m2.port,.bool m2.passing,.int .i64 m2.version,.bool m2.gone])).run Tryz.prog w=.ok (sameM m1 m2) w:=by
 have u3:=Tryz.underlying3
 have u9:=Tryz.underlying9
 have a3:=Tryz.isAgg3
 have z3:=Tryz.sizeOf3
 have a9:=Tryz.isAgg9
 have z9:=Tryz.sizeOf9
 have u4:=Tryz.underlying4
 have a4:=Tryz.isAgg4
 have z4:=Tryz.sizeOf4
 have hS:Tryz.prog.underlying 42=some (.struct (Tryz.prog.fieldsOf 42)):=by kernel_rfl
 have hp:Tryz.prog.stoodInHeld 42=false:=by kernel_rfl
 rw [show (10000:Nat)=9999+1 from rfl,run_equalIn_agg w 9999 42 _ _ hS hp]
 simp only [Program.fieldsOf,Tryz.underlying42]
 go_simp
 unfold sameM
 by_cases h0:m1.node.toList=m2.node.toList
 case neg=>simp [h0]
 by_cases h1:m1.idn.toList=m2.idn.toList
 case neg=>simp [h0,h1]
 by_cases h2:m1.name.toList=m2.name.toList
 case neg=>simp [h0,h1,h2]
 by_cases h3:m1.tag.toList=m2.tag.toList
 case neg=>simp [h0,h1,h2,h3]
 by_cases h4:m1.addr=m2.addr
 case neg=>simp [h0,h1,h2,h3,h4]
 by_cases h5:m1.port=m2.port
 case neg=>simp [h0,h1,h2,h3,h4,h5]
 by_cases h6:m1.passing=m2.passing
 case neg=>simp [h0,h1,h2,h3,h4,h5,h6]
 by_cases h7:m1.version=m2.version
 case neg=>simp [h0,h1,h2,h3,h4,h5,h6,h7]
 by_cases h8:m1.gone=m2.gone
 case neg=>simp [h0,h1,h2,h3,h4,h5,h6,h7,h8]
 simp [h0,h1,h2,h3,h4,h5,h6,h7,h8]
theorem neqE (m1 m2:Svc) (w:World):Sem.run Tryz.prog (binOp .neq 42 (.agg #[.string m1.node,.string m1.idn,.string m1.name,.string m1.tag,.int .i64 m1.addr,.int .i64 m1.port,.bool m1.passing,.int .i64 m1.version,.bool m1.gone]) (.agg #[.string m2.node,.string m2.idn,.string m2.name,.string m2.tag,.int .i64 m2.addr,.int .i64 m2.port,.bool m2.passing,.int .i64 m2.version,.bool m2.gone])) w=.ok (.bool (!sameM m1 m2)) w:=by
 rw [run_neq_struct,eqInE]
 rfl
set_option maxHeartbeats 800000 in
theorem same_any (a b:List Svc) (va vb:Value) (w:World) (ha:Sl w va a) (hb:Sl w vb b) (hsm:a.length≤1000) :
 Calls Tryz.prog 29 #[va,vb] w fun e w'=>∃ r:Bool,e=.returned (.bool r)∧(r=true↔a=b)∧Below w.heap.size w w':=by
 obtain ⟨pa,ca,rfl,_,ha⟩:=ha
 obtain ⟨pv,cb,rfl,_,hb⟩:=hb
 by_cases hl:a.length=b.length
 ·have HA:Hid (a=[]∨∃ b off,pa=some ⟨b,off,none⟩∧b < w.heap.size∧Row w b off a):=ha
  have HB:Hid (b=[]∨∃ b_1 off,pv=some ⟨b_1,off,none⟩∧b_1 < w.heap.size∧Row w b_1 off b):=hb
  have HL:Hid (a.length=b.length):=hl
  clear ha hb
  rw [← hl]
  clear hl
  generalize hna:a.length=n at *
  have HN:Hid (a.length=n):=hna
  clear hna
  have hg28:Tryz.prog.eqGuardType Tryz.prog.depth 42=false:=by kernel_rfl
  go_enter Tryz.func29,Tryz.ntmps29
  go_wp2_with fail
  go_loopw [5] (fun i w'=>∃ k:Nat,k≤n∧i=.int .i64 k∧Below w.heap.size w w'∧Hid (∀ j,j < k→a.getD j dm=b.getD j dm)) (fun i _=>n - (intOf i).toNat)
  case atStart=>exact ⟨0,Nat.zero_le _,rfl,Below.refl _ _,fun j h=>absurd h (Nat.not_lt_zero _)⟩
  case round=>
   obtain ⟨k,hk,rfl,hbl,hz⟩:=hrel
   obtain ⟨hbc,hbf⟩:=bcell hbl
   have hsz:=hbl.size
   by_cases hlt:k < n
   ·obtain ⟨b1,o1,hp1,hl1,hr1⟩:∃ b off,pa=some ⟨b,off,none⟩∧b < w.heap.size∧Row w b off a:=by
     rcases HA.out with h | h
     ·have:=HN.out;rw [h] at this;simp at this;omega
     ·exact h
    obtain ⟨b2,o2,hp2,hl2,hr2⟩:∃ b_1 off,pv=some ⟨b_1,off,none⟩∧b_1 < w.heap.size∧Row w b_1 off b:=by
     rcases HB.out with h | h
     ·have h2:=HN.out;have h3:=HL.out;rw [h] at h3;simp at h3;omega
     ·exact h
    subst hp1
    subst hp2
    obtain ⟨c0,c1,c2,c3,c4,c5,c6,c7,c8⟩:=hr1 k (by rw [HN.out];exact hlt)
    obtain ⟨d0,d1,d2,d3,d4,d5,d6,d7,d8⟩:=hr2 k (by have h2:=HN.out;have h3:=HL.out;omega)
    clear hr1 hr2
    have HF:Hid (a.getD k dm≠b.getD k dm→a≠b):=fun h e=>h (by rw [e])
    have HZ:Hid (a.getD k dm=b.getD k dm→∀ j,j < k+1→a.getD j dm=b.getD j dm):=fun h j hj=>by
     rcases Nat.lt_succ_iff_lt_or_eq.1 hj with h2 | rfl
     ·exact hz.out j h2
     ·exact h
    have hneq:=neqE (a.getD k dm) (b.getD k dm)
    generalize a.getD k dm=m1 at *
    generalize b.getD k dm=m2 at *
    rcases hs:sameM m1 m2 with _ | _
    ·rw [hs] at hneq
     have hne:Hid (a≠b):=HF.out (fun e=>by rw [← sameM_iff,hs] at e;cases e)
     go_wp2_with fail
     go_quiet (fail)
     go_wp2_with fail
     go_ret
     exact ⟨false,rfl,⟨fun h=>(by cases h),fun h=>absurd h hne.out⟩,below_drewN hbl _⟩
    ·rw [hs] at hneq
     have heq:Hid (m1=m2):=(sameM_iff m1 m2).1 hs
     go_wp2_with fail
     go_quiet (fail)
     go_wp2_with fail
     go_roundw
     case rel=>exact ⟨k+1,by omega,by go_num,below_drewN hbl _,HZ.out heq.out⟩
     case measure=>simp [intOf];omega
   ·have hfin:Hid (a=b):=by
     apply List.ext_getElem (HN.out.trans HL.out)
     intro j h1 h2
     have:=hz.out j (by have:=HN.out;omega)
     simpa [List.getD,List.getElem?_eq_getElem h1,List.getElem?_eq_getElem h2] using this
    go_wp2_with fail
    go_ret
    exact ⟨true,rfl,⟨fun _=>hfin.out,fun _=>rfl⟩,hbl⟩
 ·have hne:((a.length:Int) != (b.length:Int))=true:=by rw [bne_iff_ne];omega
  have HF:Hid (a≠b):=fun e=>hl (by rw [e])
  clear ha hb
  go_enter Tryz.func29,Tryz.ntmps29
  go_wp2_with fail
  go_ret
  exact ⟨false,rfl,⟨fun h=>(by cases h),fun h=>absurd h HF.out⟩,Below.refl _ _⟩
section
open Go.ChangeShapes Go.WideShapes Go.ChangeAt
variable {H:Type} {enc:TypeId × Value→H} {w:World} {base:Nat} {spare:Nat→Bool} {held:Bool}
end
end Sv
end Go.Proofs.YtffdoiokmiklgaaGreatDoor
namespace Go.Proofs.YtffdoiokmiklgaaGreatDoor
open Go.RowKit
theorem rise_set {ms:List Mem} {p:Nat} {x:Mem} (hr:Rise ms) (hx:x.name=(ms.getD p dm).name):Rise (ms.set p x):=by
 have hn:∀ j (h:j < ms.length),((ms.set p x)[j]'(by rw [List.length_set];exact h)).name=ms[j].name:=fun j h=>by
  rw [List.getElem_set]
  split
  ·rename_i e;subst e;rw [hx];simp [List.getD,List.getElem?_eq_getElem h]
  ·rfl
 refine List.pairwise_iff_getElem.2 fun i j hi hj hij=>?_
 rw [List.length_set] at hi hj
 rw [hn i hi,hn j hj]
 exact List.pairwise_iff_getElem.1 hr i j hi hj hij
structure Sp (n:Nd):Prop where
 ms:chk n.ms=0
 rs:chkR n.rs=0
 name:labB n.name=true
theorem rf_sp {n:Nd} (h:Sp n) (h0:rfE n=0):Sp (rfN n):=by
 unfold rfE at h0
 unfold rfN
 by_cases hR:refR n.ms (rfP n) (rfF n)=true
 ·obtain ⟨f1,f2,f3,f4,f5,f6,f7⟩:=rf_facts h.ms hR
  rw [if_pos (refE_of hR),if_pos hR] at h0
  rw [if_pos hR]
  obtain ⟨l1,l2,_⟩:=chk_zero h.ms
  refine ⟨chk_of ?_ ?_ ?_,chkR_put h.rs f5 h0,h.name⟩
  ·show (rfL n).length≤20;rw [f3,List.length_set];exact l1
  ·show Rise (rfL n);rw [f3];exact rise_set l2 rfl
  ·intro m hm
   have hm:m∈rfL n:=hm
   rw [f3] at hm
   rcases List.mem_or_eq_of_mem_set hm with hm | rfl
   ·exact chk_e0 h.ms m hm
   ·rw [← f4];exact f5
 ·rw [if_neg hR]
  have:rfL n=n.ms:=by unfold rfL refL;rw [if_neg hR]
  rw [this]
  exact h
theorem sp_sp {n:Nd} {m:Mem} (h:Sp n) (hm:m.e=0) (h0:spE n m=0):Sp (spN n m):=by
 unfold spE at h0
 split at h0
 ·rename_i h1
  have h2:Sp (sp1 n m):=⟨(sp1_ok h.ms h.rs hm h1).1,(sp1_ok h.ms h.rs hm h1).2,by rw [sp1_name];exact h.name⟩
  unfold spN
  by_cases hn:m.name=n.name
  ·rw [if_pos hn] at h0 ⊢;exact rf_sp h2 h0
  ·rw [if_neg hn];exact h2
 ·rename_i h1;exact absurd h0 h1
structure Rest (n n':Nd):Prop where
 name:n'.name=n.name
 centre:n'.centre=n.centre
 sv:n'.sv=n.sv
 gw:n'.gw=n.gw
 p:n'.p=n.p
 wh:n'.wh=n.wh
theorem Rest.refl (n:Nd):Rest n n:=⟨rfl,rfl,rfl,rfl,rfl,rfl⟩
theorem Rest.trans {a b c:Nd} (h:Rest a b) (k:Rest b c):Rest a c:=⟨k.name.trans h.name,k.centre.trans h.centre,k.sv.trans h.sv,k.gw.trans h.gw,k.p.trans h.p,k.wh.trans h.wh⟩
theorem rest_rf (n:Nd):Rest n (rfN n):=by unfold rfN;split<;>exact ⟨rfl,rfl,rfl,rfl,rfl,rfl⟩
theorem rest_sp1 (n:Nd) (m:Mem):Rest n (sp1 n m):=by unfold sp1;split<;>exact ⟨rfl,rfl,rfl,rfl,rfl,rfl⟩
theorem rest_sp (n:Nd) (m:Mem):Rest n (spN n m):=by
 unfold spN
 split
 ·exact (rest_sp1 n m).trans (rest_rf _)
 ·exact rest_sp1 n m
def hsE:Nd→List Mem→Int
 | _,[]=>0
 | n,m :: r=>if spE n m=0 then hsE (spN n m) r else spE n m
def hsN:Nd→List Mem→Nd
 | n,[]=>n
 | n,m :: r=>hsN (spN n m) r
theorem hs_snoc:∀ (l:List Mem) (n:Nd) (m:Mem),hsN n (l++[m])=spN (hsN n l) m∧(hsE n l=0→hsE n (l++[m])=spE (hsN n l) m)
 | [],n,m=>⟨rfl,fun _=>by
    show hsE n [m]=spE n m
    rw [hsE]
    split
    ·rename_i h;rw [h];rfl
    ·rfl⟩
 | x :: r,n,m=>by
   obtain ⟨h1,h2⟩:=hs_snoc r (spN n x) m
   refine ⟨h1,fun h=>?_⟩
   rw [hsE] at h
   split at h
   ·rename_i h0
    show hsE n (x :: (r++[m]))=_
    rw [hsE,if_pos h0]
    exact h2 h
   ·rename_i h0;exact absurd h h0
theorem hs_bad:∀ (l r:List Mem) (n:Nd),hsE n l≠0→hsE n (l++r)=hsE n l
 | [],r,n,h=>absurd rfl h
 | x :: l,r,n,h=>by
   show hsE n (x :: (l++r))=_
   rw [hsE] at h ⊢
   rw [hsE]
   split
   ·rename_i h0;rw [if_pos h0] at h;exact hs_bad l r _ h
   ·rfl
theorem hs_sp:∀ (l:List Mem) (n:Nd),Sp n→(∀ m∈l,m.e=0)→hsE n l=0→Sp (hsN n l)
 | [],n,h,_,_=>h
 | x :: r,n,h,hl,h0=>by
   rw [hsE] at h0
   split at h0
   ·rename_i h1
    exact hs_sp r (spN n x) (sp_sp h (hl x (by simp)) h1) (fun m hm=>hl m (by simp [hm])) h0
   ·rename_i h1;exact absurd h0 h1
theorem rest_hs:∀ (l:List Mem) (n:Nd),Rest n (hsN n l)
 | [],n=>Rest.refl n
 | x :: r,n=>(rest_sp n x).trans (rest_hs r _)
def hrE (n:Nd) (p:Pk):Int:=
 if p.e=0 then (if hsE n p.ms=0 then (if Sv.joinE n.sv p.sv=0 then Gw.joinE n.gw p.gw else Sv.joinE n.sv p.sv) else hsE n p.ms) else p.e
def hrN (n:Nd) (p:Pk):Nd:={ hsN n p.ms with sv:=Sv.joinL n.sv p.sv,gw:=Gw.joinL n.gw p.gw,wh:=lrn n.wh p.wh }
theorem pk_ms {p:Pk} (h:p.e=0):(∀ m∈p.ms,m.e=0)∧p.ms.length≤20∧Wh.chk p.wh=0∧Sv.chk p.sv=0∧Gw.chk p.gw=0:=by
 unfold Pk.e at h
 split at h
 ·rename_i h0
  split at h
  ·rename_i h1
   have hm:(∀ m∈p.ms,m.e=0)∧p.ms.length≤20:=by
    unfold Pk.mE at h1
    split at h1
    ·exact ⟨chk_e0 h1,(chk_zero h1).1⟩
    ·obtain ⟨a,b,_⟩:=chkT_zero h1
     exact ⟨firstE_mem _ b,by omega⟩
   split at h
   ·rename_i h2
    split at h
    ·rename_i h3;exact ⟨hm.1,hm.2,h,h2,h3⟩
    ·rename_i h3;exact absurd h h3
   ·rename_i h2;exact absurd h h2
  ·rename_i h1;exact absurd h h1
 ·cases h
end Go.Proofs.YtffdoiokmiklgaaGreatDoor
namespace Go.Proofs.YtffdoiokmiklgaaGreatDoor
namespace Sv
open Go.RowKit
end Sv
namespace Sv
open Go.RowKit
theorem e_zero {m:Svc} (h:m.e=0):labB m.node=true∧labB m.idn=true∧labB m.name=true∧tagB m.tag=true∧1≤m.version∧m.version≤1000000:=by
 unfold Svc.e at h
 split at h
 ·rename_i h1
  split at h
  ·rename_i h2
   simp [within] at h1 h2
   exact ⟨h1.1,h1.2.1,h1.2.2.1,h1.2.2.2,h2.2.2.1,h2.2.2.2⟩
  ·omega
 ·omega
def keyOf (s:Svc):Svc:=⟨s.node,s.idn,⟨#[]⟩,⟨#[]⟩,0,0,false,0,false⟩
def keep (name tag:ByteArray) (m:Svc):Bool:=(m.name.toList == name.toList) && ((tag.toList == []) || (m.tag.toList == tag.toList)) && m.passing && !m.gone
end Sv
namespace Sv
open Go.RowKit
end Sv
namespace Sv
open Go.RowKit
def s0:Svc:=⟨⟨#[110]⟩,⟨#[105]⟩,⟨#[115]⟩,⟨#[]⟩,0,0,true,0,false⟩
def s1:Svc:=⟨⟨#[110]⟩,⟨#[105]⟩,⟨#[115]⟩,⟨#[]⟩,0,0,true,1,false⟩
end Sv
end Go.Proofs.YtffdoiokmiklgaaGreatDoor
