import Derived.Maps.OwnSet
import Derived.WalkKit
import Derived.Test.YtffdoiokmiklgaaGreatDoorX11
import Derived.Laws.StructEq
import Derived.Deep.RegionHeld3
namespace Go.Proofs.YtffdoiokmiklgaaGreatDoor
open Go.RowKit Go.WideMaps Go.Maps
abbrev kS (s:ByteArray):Lit:=.string s.data.toList
theorem kS_key (s:ByteArray):WideAt.IsKeyLit (kS s):=by simp [WideAt.IsKeyLit]
theorem kS_ne {a b:ByteArray} (h:a≠b):kS a≠kS b:=fun e=>h (by
 have h2:a.data.toList=b.data.toList:=by injection e
 obtain ⟨⟨a⟩⟩:=a
 obtain ⟨⟨b⟩⟩:=b
 simp at h2
 rw [h2])
def Dm (ns:List ByteArray):Nat→DataW Unit
 | 0=>.map []
 | k+1=>(Dm ns k).put (kS (ns.getD k ByteArray.empty)) (.lit (.int .i64 k))
theorem Dm_tidy (ns:List ByteArray):∀ k,Tidy (Dm ns k)
 | 0=>tidy_empty
 | k+1=>(Dm_tidy ns k).put (kS_key _) _
theorem Dm_has (ns:List ByteArray) (s:ByteArray):∀ k,Maps.has (Dm ns k) (kS s)=true↔∃ j,j < k∧ns.getD j ByteArray.empty=s
 | 0=>by simp [Dm,Maps.has]
 | k+1=>by
   by_cases h:ns.getD k ByteArray.empty=s
   ·subst h
    rw [Dm,has_put_same (Dm_tidy ns k).isMap (kS_key _)]
    exact ⟨fun _=>⟨k,by omega,rfl⟩,fun _=>rfl⟩
   ·rw [Dm,has_put_other (kS_ne (Ne.symm h)),Dm_has ns s k]
    constructor
    ·rintro ⟨j,hj,e⟩;exact ⟨j,by omega,e⟩
    ·rintro ⟨j,hj,e⟩
     by_cases hjk:j=k
     ·subst hjk;exact absurd e h
     ·exact ⟨j,by omega,e⟩
theorem Dm_step (ns:List ByteArray) (k:Nat):Maps.size (Dm ns (k+1))=if Maps.has (Dm ns k) (kS (ns.getD k ByteArray.empty))=true then Maps.size (Dm ns k) else Maps.size (Dm ns k)+1:=by
 rw [Dm,size_put (Dm_tidy ns k)]
theorem Dm_size_le (ns:List ByteArray):∀ k,Maps.size (Dm ns k)≤k
 | 0=>by simp [Dm,Maps.size]
 | k+1=>by
   have:=Dm_size_le ns k
   rw [Dm_step]
   split<;>omega
theorem Dm_size_eq (ns:List ByteArray):∀ k,(∀ i j,i < j→j < k→ns.getD i ByteArray.empty≠ns.getD j ByteArray.empty)→Maps.size (Dm ns k)=k
 | 0,_=>by simp [Dm,Maps.size]
 | k+1,h=>by
   have h1:=Dm_size_eq ns k (fun i j hi hj=>h i j hi (by omega))
   have h2:¬ Maps.has (Dm ns k) (kS (ns.getD k ByteArray.empty))=true:=by
    rw [Dm_has]
    rintro ⟨j,hj,e⟩
    exact h j k hj (by omega) e
   rw [Dm_step,if_neg h2,h1]
theorem Dm_size_lt (ns:List ByteArray):∀ k,(∃ i j,i < j∧j < k∧ns.getD i ByteArray.empty=ns.getD j ByteArray.empty)→Maps.size (Dm ns k) < k
 | 0,⟨i,j,_,hj,_⟩=>by omega
 | k+1,⟨i,j,hij,hj,e⟩=>by
   rw [Dm_step]
   by_cases hjk:j=k
   ·subst hjk
    rw [if_pos ((Dm_has ns _ j).2 ⟨i,hij,e⟩)]
    have:=Dm_size_le ns j
    omega
   ·have:=Dm_size_lt ns k ⟨i,j,hij,by omega,e⟩
    split<;>omega
theorem Dm_at (ns:List ByteArray) (s:ByteArray) (z:DataW Unit):∀ k j,j < k→ns.getD j ByteArray.empty=s→(∀ i,j < i→i < k→ns.getD i ByteArray.empty≠s)→(Dm ns k).atKey (kS s) z=.lit (.int .i64 j)
 | 0,j,hj,_,_=>by omega
 | k+1,j,hj,e,h=>by
   by_cases hjk:j=k
   ·subst hjk
    subst e
    rw [Dm,atKey_put_same (Dm_tidy ns j).isMap (kS_key _)]
   ·rw [Dm,atKey_put_other (kS_ne (fun x=>h k (by omega) (by omega) x.symm))]
    exact Dm_at ns s z k j (by omega) e (fun i hi hk=>h i hi (by omega))
end Go.Proofs.YtffdoiokmiklgaaGreatDoor
namespace Go.Proofs.YtffdoiokmiklgaaGreatDoor
open Go.RowKit
def sameM (x y:Mem):Bool:=x.name.toList == y.name.toList && (x.state == y.state && (x.life == y.life && (x.addr == y.addr && x.server == y.server)))
theorem sameM_iff (x y:Mem):sameM x y=true↔x=y:=by
 obtain ⟨n1,s1,l1,a1,v1⟩:=x
 obtain ⟨n2,s2,l2,a2,v2⟩:=y
 simp only [sameM,Bool.and_eq_true,beq_iff_eq,Mem.mk.injEq,Lib.toList_data]
 constructor
 ·rintro ⟨h1,h2,h3,h4,h5⟩;exact ⟨ba_ext h1,h2,h3,h4,h5⟩
 ·rintro ⟨rfl,h2,h3,h4,h5⟩;exact ⟨rfl,h2,h3,h4,h5⟩
theorem eqIn56 (m1 m2:Mem) (w:World):(Op.equalIn 10000 56 (.agg #[.string m1.name,.int .i64 m1.state,.int .i64 m1.life,.int .i64 m1.addr,.bool m1.server]) (.agg #[.string m2.name,.int .i64 m2.state,.int .i64 m2.life,.int .i64 m2.addr,.bool m2.server])).run Tryz.prog w=.ok (sameM m1 m2) w:=by
 have u3:=Tryz.underlying3
 have u4:=Tryz.underlying4
 have u9:=Tryz.underlying9
 have a3:=Tryz.isAgg3
 have z3:=Tryz.sizeOf3
 have a4:=Tryz.isAgg4
 have z4:=Tryz.sizeOf4
 have a9:=Tryz.isAgg9
 have z9:=Tryz.sizeOf9
 have hS:Tryz.prog.underlying 56=some (.struct (Tryz.prog.fieldsOf 56)):=by kernel_rfl
 have hp:Tryz.prog.stoodInHeld 56=false:=by kernel_rfl
 rw [show (10000:Nat)=9999+1 from rfl,run_equalIn_agg w 9999 56 _ _ hS hp]
 simp only [Program.fieldsOf,Tryz.underlying56]
 go_simp
 unfold sameM
 by_cases h1:m1.name.toList=m2.name.toList<;>by_cases h2:m1.state=m2.state<;>by_cases h3:m1.life=m2.life<;>by_cases h4:m1.addr=m2.addr<;>by_cases h5:m1.server=m2.server<;>simp [h1,h2,h3,h4,h5]
theorem neq56 (m1 m2:Mem) (w:World):Sem.run Tryz.prog (binOp .neq 56 (.agg #[.string m1.name,.int .i64 m1.state,.int .i64 m1.life,.int .i64 m1.addr,.bool m1.server]) (.agg #[.string m2.name,.int .i64 m2.state,.int .i64 m2.life,.int .i64 m2.addr,.bool m2.server])) w=.ok (.bool (!sameM m1 m2)) w:=by
 rw [run_neq_struct,eqIn56]
 rfl
set_option maxHeartbeats 800000 in
theorem equal_any (a b:List Mem) (va vb:Value) (w:World) (ha:Sl w va a) (hb:Sl w vb b) (hsm:a.length≤1000) :
 Calls Tryz.prog 54 #[va,vb] w fun e w'=>∃ r:Bool,e=.returned (.bool r)∧(r=true↔a=b)∧Below w.heap.size w w':=by
 obtain ⟨pa,ca,rfl,_,ha⟩:=ha
 obtain ⟨pv,cb,rfl,_,hb⟩:=hb
 by_cases hl:a.length=b.length
 ·have HA:Hid (a=[]∨∃ b off,pa=some ⟨b,off,none⟩∧b < w.heap.size∧Row w b off a):=ha
  have HB:Hid (b=[]∨∃ b_1 off,pv=some ⟨b_1,off,none⟩∧b_1 < w.heap.size∧Row w b_1 off b):=hb
  have HL:Hid (a.length=b.length):=hl
  clear ha hb
  rw [← hl]
  clear hl
  generalize hna:a.length=n at *
  have HN:Hid (a.length=n):=hna
  clear hna
  have hg56:Tryz.prog.eqGuardType Tryz.prog.depth 56=false:=by kernel_rfl
  go_enter Tryz.func54,Tryz.ntmps54
  go_wp2_with fail
  go_loopw [13] (fun i w'=>∃ k:Nat,k≤n∧i=.int .i64 k∧Below w.heap.size w w'∧Hid (∀ j,j < k→a.getD j dm=b.getD j dm)) (fun i _=>n - (intOf i).toNat)
  case atStart=>exact ⟨0,Nat.zero_le _,rfl,Below.refl _ _,fun j h=>absurd h (Nat.not_lt_zero _)⟩
  case round=>
   obtain ⟨k,hk,rfl,hbl,hz⟩:=hrel
   obtain ⟨hbc,hbf⟩:=bcell hbl
   have hsz:=hbl.size
   by_cases hlt:k < n
   ·obtain ⟨b1,o1,hp1,hl1,hr1⟩:∃ b off,pa=some ⟨b,off,none⟩∧b < w.heap.size∧Row w b off a:=by
     rcases HA.out with h | h
     ·have:=HN.out;rw [h] at this;simp at this;omega
     ·exact h
    obtain ⟨b2,o2,hp2,hl2,hr2⟩:∃ b_1 off,pv=some ⟨b_1,off,none⟩∧b_1 < w.heap.size∧Row w b_1 off b:=by
     rcases HB.out with h | h
     ·have h2:=HN.out;have h3:=HL.out;rw [h] at h3;simp at h3;omega
     ·exact h
    subst hp1
    subst hp2
    obtain ⟨c0,c1,c2,c3,c4⟩:=hr1 k (by rw [HN.out];exact hlt)
    obtain ⟨d0,d1,d2,d3,d4⟩:=hr2 k (by have h2:=HN.out;have h3:=HL.out;omega)
    clear hr1 hr2
    have HF:Hid (a.getD k dm≠b.getD k dm→a≠b):=fun h e=>h (by rw [e])
    have HZ:Hid (a.getD k dm=b.getD k dm→∀ j,j < k+1→a.getD j dm=b.getD j dm):=fun h j hj=>by
     rcases Nat.lt_succ_iff_lt_or_eq.1 hj with h2 | rfl
     ·exact hz.out j h2
     ·exact h
    have hneq:=neq56 (a.getD k dm) (b.getD k dm)
    generalize a.getD k dm=m1 at *
    generalize b.getD k dm=m2 at *
    rcases hs:sameM m1 m2 with _ | _
    ·rw [hs] at hneq
     have hne:Hid (a≠b):=HF.out (fun e=>by rw [← sameM_iff,hs] at e;cases e)
     go_wp2_with fail
     go_quiet (fail)
     go_wp2_with fail
     go_ret
     exact ⟨false,rfl,⟨fun h=>(by cases h),fun h=>absurd h hne.out⟩,below_drewN hbl _⟩
    ·rw [hs] at hneq
     have heq:Hid (m1=m2):=(sameM_iff m1 m2).1 hs
     go_wp2_with fail
     go_quiet (fail)
     go_wp2_with fail
     go_roundw
     case rel=>exact ⟨k+1,by omega,by go_num,below_drewN hbl _,HZ.out heq.out⟩
     case measure=>simp [intOf];omega
   ·have hfin:Hid (a=b):=by
     apply List.ext_getElem (HN.out.trans HL.out)
     intro j h1 h2
     have:=hz.out j (by have:=HN.out;omega)
     simpa [List.getD,List.getElem?_eq_getElem h1,List.getElem?_eq_getElem h2] using this
    go_wp2_with fail
    go_ret
    exact ⟨true,rfl,⟨fun _=>hfin.out,fun _=>rfl⟩,hbl⟩
 ·have hne:((a.length:Int) != (b.length:Int))=true:=by rw [bne_iff_ne];omega
  have HF:Hid (a≠b):=fun e=>hl (by rw [e])
  clear ha hb
  go_enter Tryz.func54,Tryz.ntmps54
  go_wp2_with fail
  go_ret
  exact ⟨false,rfl,⟨fun h=>(by cases h),fun h=>absurd h HF.out⟩,Below.refl _ _⟩
set_option maxHeartbeats 800000 in
theorem same_any (a b:List Mem) (va vb:Value) (w:World) (ha:Sl w va a) (hb:Sl w vb b) (hsm:a.length≤1000) :
 Calls Tryz.prog 28 #[va,vb] w fun e w'=>∃ r:Bool,e=.returned (.bool r)∧(r=true↔a=b)∧Below w.heap.size w w':=by
 obtain ⟨pa,ca,rfl,_,ha⟩:=ha
 obtain ⟨pv,cb,rfl,_,hb⟩:=hb
 by_cases hl:a.length=b.length
 ·have HA:Hid (a=[]∨∃ b off,pa=some ⟨b,off,none⟩∧b < w.heap.size∧Row w b off a):=ha
  have HB:Hid (b=[]∨∃ b_1 off,pv=some ⟨b_1,off,none⟩∧b_1 < w.heap.size∧Row w b_1 off b):=hb
  have HL:Hid (a.length=b.length):=hl
  clear ha hb
  rw [← hl]
  clear hl
  generalize hna:a.length=n at *
  have HN:Hid (a.length=n):=hna
  clear hna
  have hg56:Tryz.prog.eqGuardType Tryz.prog.depth 56=false:=by kernel_rfl
  go_enter Tryz.func28,Tryz.ntmps28
  go_wp2_with fail
  go_loopw [5] (fun i w'=>∃ k:Nat,k≤n∧i=.int .i64 k∧Below w.heap.size w w'∧Hid (∀ j,j < k→a.getD j dm=b.getD j dm)) (fun i _=>n - (intOf i).toNat)
  case atStart=>exact ⟨0,Nat.zero_le _,rfl,Below.refl _ _,fun j h=>absurd h (Nat.not_lt_zero _)⟩
  case round=>
   obtain ⟨k,hk,rfl,hbl,hz⟩:=hrel
   obtain ⟨hbc,hbf⟩:=bcell hbl
   have hsz:=hbl.size
   by_cases hlt:k < n
   ·obtain ⟨b1,o1,hp1,hl1,hr1⟩:∃ b off,pa=some ⟨b,off,none⟩∧b < w.heap.size∧Row w b off a:=by
     rcases HA.out with h | h
     ·have:=HN.out;rw [h] at this;simp at this;omega
     ·exact h
    obtain ⟨b2,o2,hp2,hl2,hr2⟩:∃ b_1 off,pv=some ⟨b_1,off,none⟩∧b_1 < w.heap.size∧Row w b_1 off b:=by
     rcases HB.out with h | h
     ·have h2:=HN.out;have h3:=HL.out;rw [h] at h3;simp at h3;omega
     ·exact h
    subst hp1
    subst hp2
    obtain ⟨c0,c1,c2,c3,c4⟩:=hr1 k (by rw [HN.out];exact hlt)
    obtain ⟨d0,d1,d2,d3,d4⟩:=hr2 k (by have h2:=HN.out;have h3:=HL.out;omega)
    clear hr1 hr2
    have HF:Hid (a.getD k dm≠b.getD k dm→a≠b):=fun h e=>h (by rw [e])
    have HZ:Hid (a.getD k dm=b.getD k dm→∀ j,j < k+1→a.getD j dm=b.getD j dm):=fun h j hj=>by
     rcases Nat.lt_succ_iff_lt_or_eq.1 hj with h2 | rfl
     ·exact hz.out j h2
     ·exact h
    have hneq:=neq56 (a.getD k dm) (b.getD k dm)
    generalize a.getD k dm=m1 at *
    generalize b.getD k dm=m2 at *
    rcases hs:sameM m1 m2 with _ | _
    ·rw [hs] at hneq
     have hne:Hid (a≠b):=HF.out (fun e=>by rw [← sameM_iff,hs] at e;cases e)
     go_wp2_with fail
     go_quiet (fail)
     go_wp2_with fail
     go_ret
     exact ⟨false,rfl,⟨fun h=>(by cases h),fun h=>absurd h hne.out⟩,below_drewN hbl _⟩
    ·rw [hs] at hneq
     have heq:Hid (m1=m2):=(sameM_iff m1 m2).1 hs
     go_wp2_with fail
     go_quiet (fail)
     go_wp2_with fail
     go_roundw
     case rel=>exact ⟨k+1,by omega,by go_num,below_drewN hbl _,HZ.out heq.out⟩
     case measure=>simp [intOf];omega
   ·have hfin:Hid (a=b):=by
     apply List.ext_getElem (HN.out.trans HL.out)
     intro j h1 h2
     have:=hz.out j (by have:=HN.out;omega)
     simpa [List.getD,List.getElem?_eq_getElem h1,List.getElem?_eq_getElem h2] using this
    go_wp2_with fail
    go_ret
    exact ⟨true,rfl,⟨fun _=>hfin.out,fun _=>rfl⟩,hbl⟩
 ·have hne:((a.length:Int) != (b.length:Int))=true:=by rw [bne_iff_ne];omega
  have HF:Hid (a≠b):=fun e=>hl (by rw [e])
  clear ha hb
  go_enter Tryz.func28,Tryz.ntmps28
  go_wp2_with fail
  go_ret
  exact ⟨false,rfl,⟨fun h=>(by cases h),fun h=>absurd h HF.out⟩,Below.refl _ _⟩
set_option maxHeartbeats 800000 in
theorem clone_any (ms:List Mem) (v:Value) (w:World) (h:Sl w v ms) (hn:ms.length≤1000) :
 Calls Tryz.prog 70 #[v] w fun e w'=>∃ v',e=.returned v'∧Own w.heap.size w' v' ms∧Below w.heap.size w w':=by
 obtain ⟨a,cap,rfl,hs,h⟩:=h
 obtain ⟨i0,hi0,hz0,hzs,hzb⟩:=info_parts Tryz.info56
 cases a with
 | none=>
   have he:ms=[]:=by
    rcases h with h | ⟨b,off,h,_⟩
    ·exact h
    ·cases h
   subst he
   clear h hs
   have hnil:=fun (w:World)=>Lib.run_eql_slice_nil (P:=Tryz.prog) w 45 56 none 0 cap 0 0 Tryz.underlying45
   simp only [List.length_nil,Option.isNone_none] at hnil ⊢
   go_enter Tryz.func70,Tryz.ntmps70
   go_wp2_with fail
   go_ret
   exact ⟨_,rfl,own_nil _ _,Below.refl _ _⟩
 | some a=>
   have hnil:=fun (w:World)=>Lib.run_eql_slice_nil (P:=Tryz.prog) w 45 56 (some a) ms.length cap 0 0 Tryz.underlying45
   simp only [Option.isNone_some] at hnil
   have hnews:Hid (∀ j u,(fl ms)[j]?=some u→(w.alloc (.cells #[] 56)).cell? (a.add j)=some u):=by
    intro j u hj
    rcases h with h | ⟨b,off,h,hb,hr⟩
    ·subst h;simp [fl] at hj
    ·cases h
     have hjl:j < ms.length * 5:=by rw [← fl_len];exact (List.getElem?_eq_some_iff.1 hj).1
     have h1:=fl_get ms (j / 5) (by omega) (j%5) (by omega)
     rw [show j / 5 * 5+j%5=j by omega,hj] at h1
     rw [Addr.add_lit,World.cell?_alloc_past (w:=w) _ b _ hb]
     obtain ⟨c0,c1,c2,c3,c4⟩:=hr (j / 5) (by omega)
     have hcs:j%5=0∨j%5=1∨j%5=2∨j%5=3∨j%5=4:=by omega
     rcases hcs with e | e | e | e | e
     ·rw [show off+j=off+j / 5 * 5 by omega,c0];rw [e] at h1;simpa [Mem.cs] using h1.symm
     ·rw [show off+j=off+j / 5 * 5+1 by omega,c1];rw [e] at h1;simpa [Mem.cs] using h1.symm
     ·rw [show off+j=off+j / 5 * 5+2 by omega,c2];rw [e] at h1;simpa [Mem.cs] using h1.symm
     ·rw [show off+j=off+j / 5 * 5+3 by omega,c3];rw [e] at h1;simpa [Mem.cs] using h1.symm
     ·rw [show off+j=off+j / 5 * 5+4 by omega,c4];rw [e] at h1;simpa [Mem.cs] using h1.symm
   have HO:Hid ((w.alloc (.cells #[] 56)).ownsRow w.heap.size 56 5 (.slice (some ⟨w.heap.size,0,none⟩) 0 0) 0 []):=World.ownsRow_made w #[] 0 (Nat.le_refl _) (by unfold maxLen;omega) rfl
   clear h hs
   go_enter Tryz.func70,Tryz.ntmps70
   go_wp2_with (at_builtin;refine wpList_append_own _ rfl _ _ 45 rfl w.heap.size 56 i0 _ 5 48 Tryz.underlying45 hi0 hz0 hzs hzb rfl (by omega) _ 0 [] rfl HO.out a ms.length cap (fl ms) rfl (fl_len ms) hnews.out (fl_one ms) (by unfold maxLen;omega) (by omega) (by simp) ?_)
   intro v' w' r1 r2 r3
   go_wp2_with fail
   go_ret
   refine ⟨v',rfl,?_,?_⟩
   ·simpa using r1
   ·exact ((Below.refl _ _).alloc (Nat.le_refl _) _).grown r2 (by simp) (fun k hk=>by simp [Value.ownBlock] at hk;omega)
theorem join_any (a b:List Mem) (va vb:Value) (pb cap:Nat) (w:World) (ha:Sl w va a) (hb:Sl w vb b) (hpb:pb < w.heap.size) (hc0:w.cell? ⟨pb,0,none⟩=some va) (hc1:w.cell? ⟨pb,1,none⟩=some vb) :
 Calls Tryz.prog 193 #[.slice (some ⟨pb,0,none⟩) 2 cap] w fun e w'=>∃ v',e=.returned (.tuple #[v',.int .i64 (joinE a b)])∧Below w.heap.size w w' ∧
  (joinE a b≠0→v'=.slice none 0 0)∧(joinE a b=0→Own w.heap.size w' v' (joinL a b)):=by
 by_cases h0:chkTwo a b=0
 ·refine (join_good a b va vb pb cap w ha hb hpb hc0 hc1 h0).mono ?_
  rintro e w' ⟨v',rfl,h1,h2,h3⟩
  have hE:joinE a b=if 20 < (joinL a b).length then 2 else 0:=if_pos h0
  refine ⟨v',rfl,h1,fun hne=>h2 ?_,fun hz=>h3 ?_⟩
  ·rw [hE] at hne;split at hne
   ·assumption
   ·exact absurd rfl hne
  ·rw [hE] at hz;split at hz
   ·cases hz
   ·omega
 ·refine (join_bad a b va vb pb cap w ha hb hpb hc0 hc1 h0).mono ?_
  rintro e w' ⟨rfl,h1⟩
  have hE:joinE a b=chkTwo a b:=if_neg h0
  exact ⟨_,rfl,h1,fun _=>rfl,fun hz=>absurd (hE▸hz) h0⟩
set_option maxHeartbeats 800000 in
theorem hear_any (ms:List Mem) (m:Mem) (v:Value) (w:World) (hv:Sl w v ms) (hm:m.name.size≤maxLen) :
 Calls Tryz.prog 134 #[v,.agg #[.string m.name,.int .i64 m.state,.int .i64 m.life,.int .i64 m.addr,.bool m.server]] w fun e w'=>∃ (v':Value) (r:Bool),e=.returned (.tuple #[v',.bool r,.int .i64 (joinE ms [m])])∧Below w.heap.size w w' ∧
  (joinE ms [m]≠0→v'=.slice none 0 0∧r=false)∧(joinE ms [m]=0→Own w.heap.size w' v' (hearL ms m)∧(r=true↔hearL ms m≠ms)):=by
 have HV:=hv
 obtain ⟨pa,ca,rfl,ns,_⟩:=hv
 obtain ⟨W,hW⟩:∃ W,W=(((w.alloc (.cells #[.string m.name,.int .i64 m.state,.int .i64 m.life,.int .i64 m.addr,.bool m.server] 56)).alloc (.cells #[.string m.name,.int .i64 m.state,.int .i64 m.life,.int .i64 m.addr,.bool m.server] 56)).alloc (.cells #[.string m.name,.int .i64 m.state,.int .i64 m.life,.int .i64 m.addr,.bool m.server] 56)).alloc (.cells #[.slice pa ms.length ca,.slice (some ⟨w.heap.size+1+1,0,none⟩) 1 1] 45):=⟨_,rfl⟩
 go_enter Tryz.func134,Tryz.ntmps134
 go_wp2_with (go_at_call 194;refine (alone_any _ _ _ _ _ _).mono ?_;rintro e w' ⟨rfl,rfl⟩)
 obtain ⟨M,hM⟩:∃ M:Obj,M=.cells #[.string m.name,.int .i64 m.state,.int .i64 m.life,.int .i64 m.addr,.bool m.server] 56:=⟨_,rfl⟩
 have hb0:Below w.heap.size w W:=by rw [hW];exact ((((Below.refl _ _).alloc (Nat.le_refl _) _).alloc (by simp) _).alloc (by simp;omega) _).alloc (by simp;omega) _
 have hsW:W.heap.size=w.heap.size+1+1+1+1:=by rw [hW];simp
 have hg3:W.heap[w.heap.size+1+1+1]?=some (.cells #[.slice pa ms.length ca,.slice (some ⟨w.heap.size+1+1,0,none⟩) 1 1] 45 (0,0)):=by rw [hW];have:=heap_alloc_new (((w.alloc M).alloc M).alloc M) (.cells #[.slice pa ms.length ca,.slice (some ⟨w.heap.size+1+1,0,none⟩) 1 1] 45);rw [hM] at this;simpa using this
 have hg2:W.heap[w.heap.size+1+1]?=some (.cells #[.string m.name,.int .i64 m.state,.int .i64 m.life,.int .i64 m.addr,.bool m.server] 56 (0,0)):=by
  rw [hW,Below.heap_alloc _ _ _ (by simp)]
  have:=heap_alloc_new ((w.alloc M).alloc M) M
  rw [hM] at this
  simpa using this
 rw [← hW]
 refine (join_any ms [m] (.slice pa ms.length ca) (.slice (some ⟨w.heap.size+1+1,0,none⟩) 1 1) (w.heap.size+1+1+1) 2 W (HV.below hb0) (sl_one W _ 1 m hm hg2) (by omega) (cellsAt hg3 0) (cellsAt hg3 1)).mono ?_
 rintro e w2 ⟨v',rfl,h1,h2,h3⟩
 have HB:Hid (Below w.heap.size w w2):=hb0.trans (h1.mono (by omega))
 have HV2:Hid (Sl w2 (.slice pa ms.length ca) ms):=HV.below HB.out
 have H2:Hid (joinE ms [m]≠0→v'=.slice none 0 0):=h2
 have H3:Hid (joinE ms [m]=0→Own w.heap.size w2 v' (hearL ms m)):=fun h=>(h3 h).mono (by omega)
 clear h2 h3 h1 hg2 hg3 hsW hb0 hW hM HV
 rcases he:decide (joinE ms [m]=0) with _ | _
 ·have he':(joinE ms [m] != 0)=true:=by simpa using he
  have hne:Hid (joinE ms [m]≠0):=(show joinE ms [m]≠0 by simpa using he)
  clear he
  go_wp2_with fail
  go_ret3
  exact ⟨_,false,rfl,HB.out,fun _=>⟨rfl,rfl⟩,fun h=>absurd h hne.out⟩
 ·have he':(joinE ms [m] != 0)=false:=by simpa using he
  have hz:Hid (joinE ms [m]=0):=(show joinE ms [m]=0 by simpa using he)
  clear he
  have HO:Hid (Own w.heap.size w2 v' (hearL ms m)):=H3.out hz.out
  have hct:chk ms=0:=by
   have h:=hz.out
   unfold Hid joinE chkTwo at h
   by_cases h1:chk ms=0
   ·exact h1
   ·rw [if_neg h1,if_neg h1] at h;exact absurd h h1
  have HC:Hid (chk ms=0):=hct
  clear hct
  have NS:Hid (∀ x∈hearL ms m,x.name.size≤maxLen):=ns_hear (ns_mem ns) hm
  have hlen:Hid ((hearL ms m).length≤1000):=by have h1:=hearL_len ms m;have h2:=chk_zero HC.out;show (hearL ms m).length≤1000;omega
  go_wp2_with (go_at_call 54;refine (equal_any (hearL ms m) ms _ _ _ (own_names HO.out NS.out) HV2.out hlen.out).mono ?_;rintro e w3 ⟨r,rfl,h5,h6⟩)
  go_ret3
  refine ⟨v',!r,by rw [show joinE ms [m]=0 from hz.out];rfl,HB.out.trans (h6.mono HB.out.size),fun h=>absurd hz.out h,fun _=>⟨HO.out.below h6,?_⟩⟩
  cases r
  ·simp at h5;simpa using h5
  ·simp at h5;simpa using h5
set_option maxHeartbeats 400000 in
theorem isDoubted_any (nm:ByteArray) (st lf ad:Int) (sv:Bool) (w:World) :
 Calls Tryz.prog 238 #[.agg #[.string nm,.int .i64 st,.int .i64 lf,.int .i64 ad,.bool sv]] w fun e w'=>e=.returned (.bool (decide (st=2) || decide (st=3)))∧w'=w.alloc (.cells #[.string nm,.int .i64 st,.int .i64 lf,.int .i64 ad,.bool sv] 56):=by
 by_cases h:st=2
 ·subst h
  go_enter Tryz.func238,Tryz.ntmps238
  go_wp2
  go_ret
  exact ⟨ret_bool (by simp),rfl⟩
 ·have h':(st == 2)=false:=by simpa using h
  go_enter Tryz.func238,Tryz.ntmps238
  go_wp2
  go_ret
  exact ⟨ret_bool (by rw [Bool.eq_iff_iff];simp [h]),rfl⟩
def liveAgain (m:Mem):Mem:=⟨m.name,1,m.life+1,m.addr,m.server⟩
theorem fl_set2 (ms:List Mem) (p:Nat) (hp:p < ms.length):((fl ms).set (p * 5+1) (.int .i64 1)).set (p * 5+2) (.int .i64 ((ms.getD p dm).life+1))=fl (ms.set p (liveAgain (ms.getD p dm))):=by
 induction ms generalizing p with
 | nil=>simp at hp
 | cons x r ih=>
   cases p with
   | zero=>simp [fl,Mem.cs,liveAgain]
   | succ p=>
     have ih':=ih p (by simpa using hp)
     rw [List.set_cons_succ,fl_cons,fl_cons,List.getD_cons_succ,← ih']
     simp only [Nat.add_mul,Nat.one_mul]
     have e:∀ (l:List Value) (k:Nat) (v:Value),(x.cs++l).set (k+5) v=x.cs++l.set k v:=fun l k v=>by
      rw [List.set_append,if_neg (by rw [cs_len];omega),cs_len,Nat.add_sub_cancel]
     rw [show p * 5+5+1=(p * 5+1)+5 by omega,show p * 5+5+2=(p * 5+2)+5 by omega]
     rw [e,e]
theorem own_set2 {base g c p:Nat} {W:World} {ms:List Mem} (h:Own base W (.slice (some ⟨g,0,none⟩) ms.length c) ms) (hp:p < ms.length) :
 Own base ((W.setCell ⟨g,p * 5+1,none⟩ (.int .i64 1)).setCell ⟨g,p * 5+2,none⟩ (.int .i64 ((ms.getD p dm).life+1))) (.slice (some ⟨g,0,none⟩) ms.length c) (ms.set p (liveAgain (ms.getD p dm))):=by
 have h1:=World.ownsRow.stored h (p * 5+1) (.int .i64 1)
 have h2:=World.ownsRow.stored h1.1 (p * 5+2) (.int .i64 ((ms.getD p dm).life+1))
 have e:=h2.1
 rw [fl_set2 ms p hp] at e
 show World.ownsRow _ _ _ _ _ (ms.set p (liveAgain (ms.getD p dm))).length _
 rw [List.length_set]
 exact e
theorem oneE_zero {nm:ByteArray} {st lf ad:Int} (h:oneE nm st lf ad=0):labB nm=true∧(1≤st∧st≤4)∧(1≤lf∧lf≤1000000)∧(0≤ad∧ad≤4294967295):=by
 have hw:∀ n a b:Int,within n a b=true→a≤n∧n≤b:=fun n a b h=>by simpa [within] using h
 unfold oneE at h
 split at h
 ·rename_i h1
  split at h
  ·rename_i h2
   split at h
   ·rename_i h3
    split at h
    ·rename_i h4
     exact ⟨h1,hw _ _ _ h2,hw _ _ _ h3,hw _ _ _ h4⟩
    ·omega
   ·omega
  ·omega
 ·omega
theorem firstE_mem:∀ (ms:List Mem),firstE ms=0→∀ m∈ms,m.e=0
 | [],_,m,h=>by simp at h
 | x :: r,h,m,hm=>by
   rw [firstE] at h
   split at h
   ·rename_i h1
    rcases List.mem_cons.1 hm with rfl | hm
    ·exact h1
    ·exact firstE_mem r h m hm
   ·rename_i h1;exact absurd h h1
theorem firstE_at0 {ms:List Mem} (h:firstE ms=0) (p:Nat) (hp:p < ms.length):(ms.getD p dm).e=0:=by
 have:=firstE_mem ms h ms[p] (List.getElem_mem hp)
 simpa [List.getD,List.getElem?_eq_getElem hp] using this
def refR (ms:List Mem) (p:Nat) (f:Bool):Bool:=f && (decide ((ms.getD p dm).state=2) || decide ((ms.getD p dm).state=3)) && !((ms.getD p dm).life == 1000000)
def refE (ms:List Mem) (p:Nat) (f:Bool):Int:=if f && (decide ((ms.getD p dm).state=2) || decide ((ms.getD p dm).state=3)) && ((ms.getD p dm).life == 1000000) then 3 else 0
def refL (ms:List Mem) (p:Nat) (f:Bool):List Mem:=if refR ms p f=true then ms.set p (liveAgain (ms.getD p dm)) else ms
def RefSays (ms:List Mem) (p:Nat) (f:Bool) (w:World) (e:Ending) (w':World):Prop:=
 ∃ v':Value,e=.returned (.tuple #[v',.bool (refR ms p f),.int .i64 (refE ms p f)])∧Below w.heap.size w w'∧(refE ms p f≠0→v'=.slice none 0 0)∧(refE ms p f=0→Own w.heap.size w' v' (refL ms p f))
set_option maxHeartbeats 1000000 in
set_option maxRecDepth 100000 in
theorem refute_good (ms:List Mem) (v:Value) (me:ByteArray) (w:World) (hv:Sl w v ms) (h0:chk ms=0) (hs:me.size≤maxLen) (hl:labB me=true) (p:Nat) (f:Bool) (hat:At ms me p f) :
 Calls Tryz.prog 196 #[v,.string me] w fun e w'=>RefSays ms p f w e w':=by
 have he:(chk ms != 0)=false:=by simpa using h0
 have hz:=chk_zero h0
 have HN:Hid (∀ x∈ms,x.name.size≤maxLen):=by obtain ⟨a,c,_,hn,_⟩:=hv;exact ns_mem hn
 have HV:Hid (Sl w v ms):=hv
 have HM:Hid (Rise ms):=hz.2.1
 have hlen:=hz.1
 have HF1:Hid (firstE ms=0):=hz.2.2
 have HAT:Hid (At ms me p f):=hat
 clear hv h0 hz hat
 go_enter Tryz.func196,Tryz.ntmps196
 go_wp2_with (first | (go_at_call 125;refine (check_any ms _ _ HV.out).mono ?_;rintro e w1 ⟨rfl,hb1⟩) | (go_at_call 75;refine (label_any _ _ hs).mono ?_;rintro e w' ⟨rfl,rfl⟩;rw [hl]))
 refine (clone_any ms _ _ (HV.out.below hb1) (by omega)).mono ?_
 rintro e w2 ⟨kv,rfl,ho2,hb2⟩
 have HO2:Hid (Own w.heap.size w2 kv ms):=ho2.mono hb1.size
 have HB2:Hid (Below w.heap.size w w2):=hb1.trans (hb2.mono hb1.size)
 clear ho2 hb2 hb1
 go_wp2_with fail
 refine (find_any ms _ ⟨me,0,0,0,false⟩ _ (own_names HO2.out HN.out) (by omega) HM.out).mono ?_
 rintro e w3 ⟨p',f',rfl,hb3,hat'⟩
 obtain ⟨rfl,rfl⟩:=at_uniq HAT.out hat'
 have HO3:Hid (Own w.heap.size w3 kv ms):=HO2.out.below hb3
 have HB3:Hid (Below w.heap.size w w3):=HB2.out.trans (hb3.mono HB2.out.size)
 clear hat' hb3 HO2 HB2
 cases f with
 | false=>
   go_wp2_with fail
   go_ret3
   exact ⟨kv,rfl,HB3.out,fun h=>absurd rfl h,fun _=>HO3.out⟩
 | true=>
   have hp:p < ms.length:=(HAT.out.is.1 rfl).1
   have hlf:1≤(ms.getD p dm).life∧(ms.getD p dm).life≤1000000:=(oneE_zero (firstE_at0 HF1.out p hp)).2.2.1
   obtain ⟨g,c,hkv⟩:∃ g c,kv=.slice (some ⟨g,0,none⟩) ms.length c:=by
    rcases HO3.out.2 with ⟨_,h0⟩ | ⟨g,c,cur,h,_⟩
    ·omega
    ·exact ⟨g,c,h⟩
   subst hkv
   have hgl:=HO3.out.lt g rfl
   have hfz:∀ o,w3.frozen? ⟨g,o,none⟩=false:=fun o=>World.ownsRow.frozenAt HO3.out o
   have hgl2:g < w3.heap.size:=hgl.2
   obtain ⟨b',off',hab,hgb,hrow⟩:∃ b off,(some ⟨g,0,none⟩:Option Addr)=some ⟨b,off,none⟩∧b < w3.heap.size∧Row w3 b off ms:=by
    obtain ⟨a,cap,h1,_,h2⟩:=own_names HO3.out HN.out
    simp only [Value.slice.injEq] at h1
    obtain ⟨rfl,_⟩:=h1
    rcases h2 with h2 | h2
    ·rw [h2] at hp;simp at hp
    ·exact h2
   simp only [Option.some.injEq,Addr.mk.injEq,and_true] at hab
   obtain ⟨rfl,rfl⟩:=hab
   obtain ⟨c0,c1,c2,c3,c4⟩:=hrow p hp
   clear hrow hgb
   simp only [Nat.zero_add] at c0 c1 c2 c3 c4
   generalize hm:ms.getD p dm=m2 at *
   have Hm:Hid (ms.getD p dm=m2):=hm
   clear hm
   obtain ⟨n2,s2,l2,a2,v2⟩:=m2
   simp only at c0 c1 c2 c3 c4 hlf
   obtain ⟨hlf1,hlf2⟩:=hlf
   rcases hd:(decide (s2=2) || decide (s2=3)) with _ | _
   ·go_wp2_with (go_at_call 238;refine (isDoubted_any _ _ _ _ _ _).mono ?_;rintro e w' ⟨rfl,rfl⟩;rw [hd])
    go_ret3
    have e1:refR ms p true=false:=by unfold refR;rw [Hm.out];simp only [hd];rfl
    have e2:refE ms p true=0:=by unfold refE;rw [Hm.out];simp only [hd];rfl
    refine ⟨.slice (some ⟨g,0,none⟩) ms.length c,by rw [e1,e2];rfl,HB3.out.alloc HB3.out.size _,fun h=>absurd e2 h,fun _=>?_⟩
    rw [refL,e1,if_neg (by simp)]
    exact HO3.out.below ((Below.refl _ _).alloc (Nat.le_refl _) _)
   ·rcases hl2:((l2:Int) == 1000000) with _ | _
    ·have e1:refR ms p true=true:=by unfold refR;rw [Hm.out];simp only [hd,hl2];rfl
     have e2:refE ms p true=0:=by unfold refE;rw [Hm.out];simp only [hd,hl2];rfl
     have E1:Hid (refR ms p true=true):=e1
     have E2:Hid (refE ms p true=0):=e2
     clear e1 e2
     have HS:=own_set2 HO3.out hp
     rw [Hm.out] at HS
     have HS2:Hid (Own w.heap.size ((w3.setCell ⟨g,p * 5+1,none⟩ (.int .i64 1)).setCell ⟨g,p * 5+2,none⟩ (.int .i64 (l2+1))) (.slice (some ⟨g,0,none⟩) ms.length c) (ms.set p (liveAgain ⟨n2,s2,l2,a2,v2⟩))):=HS
     clear HS
     go_wp2_with (go_at_call 238;refine (isDoubted_any _ _ _ _ _ _).mono ?_;rintro e w' ⟨rfl,rfl⟩;rw [hd])
     go_ret3
     refine ⟨.slice (some ⟨g,0,none⟩) ms.length c,by rw [E1.out,E2.out];rfl,?_,fun h=>absurd E2.out h,fun _=>?_⟩
     ·have hB2:=(HB3.out.setCell (p:=⟨g,p * 5+1,none⟩) hgl.1 (.int .i64 1)).setCell (p:=⟨g,p * 5+2,none⟩) hgl.1 (.int .i64 (l2+1))
      exact hB2.alloc (by have:=HB3.out.size;simpa using this) _
     ·rw [refL,if_pos E1.out,Hm.out]
      exact HS2.out.below ((Below.refl _ _).alloc (Nat.le_refl _) _)
    ·have E1:Hid (refR ms p true=false):=(show refR ms p true=false by unfold refR;rw [Hm.out];simp only [hd,hl2];rfl)
     have E2:Hid (refE ms p true=3):=(show refE ms p true=3 by unfold refE;rw [Hm.out];simp only [hd,hl2];rfl)
     go_wp2_with (go_at_call 238;refine (isDoubted_any _ _ _ _ _ _).mono ?_;rintro e w' ⟨rfl,rfl⟩;rw [hd])
     go_ret3
     exact ⟨.slice none 0 0,by rw [E1.out,E2.out];rfl,HB3.out.alloc HB3.out.size _,fun _=>rfl,fun h=>by rw [E2.out] at h;cases h⟩
end Go.Proofs.YtffdoiokmiklgaaGreatDoor
namespace Go.Proofs.YtffdoiokmiklgaaGreatDoor
open Go.RowKit Go.WideMaps Go.Maps
structure Rum where
 m:Mem
 told:Int
def dr:Rum:=⟨dm,0⟩
def RRow (w:World) (b off:Nat) (rs:List Rum):Prop:=∀ j,j < rs.length →
 w.cell? ⟨b,off+j * 6,none⟩=some (.string (rs.getD j dr).m.name)∧w.cell? ⟨b,off+j * 6+1,none⟩=some (.int .i64 (rs.getD j dr).m.state) ∧
 w.cell? ⟨b,off+j * 6+2,none⟩=some (.int .i64 (rs.getD j dr).m.life)∧w.cell? ⟨b,off+j * 6+3,none⟩=some (.int .i64 (rs.getD j dr).m.addr) ∧
 w.cell? ⟨b,off+j * 6+4,none⟩=some (.bool (rs.getD j dr).m.server)∧w.cell? ⟨b,off+j * 6+5,none⟩=some (.int .i64 (rs.getD j dr).told)
theorem RRow.below {w w':World} {b off B:Nat} {rs:List Rum} (h:RRow w b off rs) (hb:Below B w w') (hB:b < B):RRow w' b off rs:=fun k hk=>by
 obtain ⟨h0,h1,h2,h3,h4,h5⟩:=h k hk
 exact ⟨by rw [hb.cell hB];exact h0,by rw [hb.cell hB];exact h1,by rw [hb.cell hB];exact h2,by rw [hb.cell hB];exact h3,by rw [hb.cell hB];exact h4,by rw [hb.cell hB];exact h5⟩
def RSl (w:World) (v:Value) (rs:List Rum):Prop:=
 ∃ (a:Option Addr) (cap:Nat),v=.slice a rs.length cap∧(∀ j,(rs.getD j dr).m.name.size≤maxLen) ∧
  (rs=[]∨∃ b off,a=some ⟨b,off,none⟩∧b < w.heap.size∧RRow w b off rs)
theorem RSl.below {w w':World} {v:Value} {rs:List Rum} (h:RSl w v rs) (hb:Below w.heap.size w w'):RSl w' v rs:=by
 obtain ⟨a,c,hv,hn,h⟩:=h
 refine ⟨a,c,hv,hn,?_⟩
 rcases h with h | ⟨b,off,ha,hlt,hr⟩
 ·exact .inl h
 ·exact .inr ⟨b,off,ha,Nat.lt_of_lt_of_le hlt hb.size,hr.below hb hlt⟩
def rnames (rs:List Rum):List ByteArray:=rs.map (·.m.name)
theorem rnames_get (rs:List Rum) (k:Nat):(rnames rs).getD k ByteArray.empty=(rs.getD k dr).m.name:=by
 by_cases h:k < rs.length
 ·simp [rnames,List.getD,List.getElem?_eq_getElem h]
 ·simp [rnames,List.getD,List.getElem?_eq_none (by omega:rs.length≤k),dr,dm]
theorem law9:Keyed Tryz.prog 9:=string_keyed Tryz.underlying9
theorem zero3' (w:World):(zeroValue 3).run Tryz.prog w=.ok (.int .i64 0) w:=by kernel_rfl
theorem run_makeMapHint (n:Int) (w:World):(Instr.makeMap 131 (some (.int .i64 n))).run Tryz.prog w=.ok (.map (some w.heap.size)) (w.alloc (.map #[] 0)):=by
 have h:=run_underlying Tryz.underlying131
 simp [Instr.makeMap,h,asInt,newObj]
 rfl
set_option maxHeartbeats 3200000 in
set_option maxRecDepth 100000 in
theorem met_any (rs:List Rum) (v:Value) (w:World) (hv:RSl w v rs) (hn:rs.length≤1000) :
 Calls Tryz.prog 181 #[v] w fun e w'=>e=.returned (.map (some w.heap.size))∧w'.ownsMap Tryz.prog 9 (plainElem (H:=Unit) Tryz.prog 3) w.heap.size rs.length (Dm (rnames rs) rs.length)∧Below w.heap.size w w':=by
 obtain ⟨pa,ca,rfl,hsz,ha⟩:=hv
 have HA:Hid (rs=[]∨∃ b off,pa=some ⟨b,off,none⟩∧b < w.heap.size∧RRow w b off rs):=ha
 have HS:Hid (∀ j,(rs.getD j dr).m.name.size≤maxLen):=hsz
 clear ha hsz
 generalize hN:rs.length=n at *
 have HN:Hid (rs.length=n):=hN
 clear hN
 have hmm:=run_makeMapHint
 go_enter Tryz.func181,Tryz.ntmps181
 go_wp2
 go_loopw [11] (fun i wr=>∃ k:Nat,k≤n∧i=.int .i64 k∧Hid (wr.ownsMap Tryz.prog 9 (plainElem (H:=Unit) Tryz.prog 3) w.heap.size k (Dm (rnames rs) k))∧Hid (Below w.heap.size w wr))
  (fun i _=>n - (intOf i).toNat)
 case atStart=>exact ⟨0,Nat.zero_le _,rfl,World.ownsMap_made _ _ _ _,(Below.refl _ _).alloc (Nat.le_refl _) _⟩
 case round=>
  obtain ⟨k,hk,rfl,HO,HB⟩:=hrel
  by_cases hlt:k < n
  ·obtain ⟨b,off,hp,hl,hr⟩:∃ b off,pa=some ⟨b,off,none⟩∧b < w.heap.size∧RRow w b off rs:=by
    rcases HA.out with h | h
    ·have:=HN.out;rw [h] at this;simp at this;omega
    ·exact h
   subst hp
   obtain ⟨c0,c1,c2,c3,c4,c5⟩:=hr.below HB.out hl k (by rw [HN.out];exact hlt)
   have hkey:keyOf Tryz.prog 9 (.string (rs.getD k dr).m.name)=some (kS (rs.getD k dr).m.name):=keyOf_string_mk Tryz.underlying9 (HS.out k)
   have HST:Hid (∀ w1:World,w1.ownsMap Tryz.prog 9 (plainElem (H:=Unit) Tryz.prog 3) w.heap.size (k+1) ((Dm (rnames rs) k).put (kS (rs.getD k dr).m.name) (.lit (.int .i64 k)))→w1.ownsMap Tryz.prog 9 (plainElem (H:=Unit) Tryz.prog 3) w.heap.size (k+1) (Dm (rnames rs) (k+1))):=fun w1 h=>by
    rw [Dm,rnames_get];exact h
   generalize (rs.getD k dr)=rk at *
   obtain ⟨⟨nm,st,lf,ad,sv⟩,td⟩:=rk
   simp only at c0 c1 c2 c3 c4 c5 hkey HST
   clear hr
   go_wp2_with (first
    | (at_mapUpdate;refine wpList_mapUpdate_own _ rfl _ _ _ 131 rfl 9 3 law9 Tryz.underlying131 _ w.heap.size k _ rfl (HO.out.alloc _) (by unfold maxLen;omega) _ _ _ rfl rfl hkey _ [] (plainElem_int Tryz.underlying3 (WalkArith.wf_i64 (by omega))) ?_)
    | fail)
   intro w1 hown1 hgrow1
   have R1:Hid (w1.ownsMap Tryz.prog 9 (plainElem (H:=Unit) Tryz.prog 3) w.heap.size (k+1) (Dm (rnames rs) (k+1))):=HST.out w1 hown1
   have R2:Hid (Below w.heap.size w w1):=(HB.out.alloc HB.out.size _).grown hgrow1 (by have:=HB.out.size;simp;omega) (fun j hj=>by cases hj;exact Nat.le_refl _)
   clear hown1 hgrow1 HO HB c0 c1 c2 c3 c4 c5 HST
   go_wp2_with fail
   go_roundw
   case rel=>exact ⟨k+1,by omega,by go_num,R1,R2⟩
   case measure=>simp [intOf];omega
  ·have hkn:k=n:=by omega
   subst hkn
   go_wp2_with fail
   go_ret
   exact ⟨rfl,HO.out,HB.out⟩
theorem chk_oneR (m:Mem):chk [m]=m.e:=by
 unfold chk
 by_cases h:m.e=0
 ·simp [firstE,h,risesB]
 ·simp [firstE,h]
theorem cell_top' {W:World} {cs:Array Value} {t:TypeId} {g k:Nat} (hg:g=W.heap.size):(W.alloc (.cells cs t)).cell? ⟨g,k,none⟩=cs[k]?:=by subst hg;simp
set_option maxHeartbeats 800000 in
theorem checkMember_any (m:Mem) (w:World) (hs:m.name.size≤maxLen) :
 Calls Tryz.prog 180 #[.agg #[.string m.name,.int .i64 m.state,.int .i64 m.life,.int .i64 m.addr,.bool m.server]] w fun e w'=>e=.returned (.int .i64 m.e)∧Below w.heap.size w w':=by
 go_enter Tryz.func180,Tryz.ntmps180
 go_wp2_with fail
 refine (check_any [m] _ _ ⟨_,_,rfl,ns_get (by simpa using hs),.inr ⟨w.heap.size+1,0,rfl,by simp,?_⟩⟩).mono ?_
 ·intro j hj
  have:j=0:=by simpa using hj
  subst this
  exact ⟨cell_top' (by simp),cell_top' (by simp),cell_top' (by simp),cell_top' (by simp),cell_top' (by simp)⟩
 rintro e w1 ⟨rfl,hb1⟩
 have HB:Hid (Below w.heap.size w w1):=(((Below.refl _ _).alloc (Nat.le_refl _) _).alloc (by simp) _).trans (hb1.mono (by simp;omega))
 clear hb1
 rw [chk_oneR]
 go_wp2_with fail
 go_ret
 exact ⟨rfl,HB.out⟩
def Distinct (rs:List Rum):Prop:=∀ i j,i < j→j < rs.length→(rs.getD i dr).m.name≠(rs.getD j dr).m.name
def rmems (rs:List Rum):List Mem:=rs.map (·.m)
theorem rmems_get (rs:List Rum) (k:Nat):(rmems rs).getD k dm=(rs.getD k dr).m:=by
 by_cases h:k < rs.length
 ·simp [rmems,List.getD,List.getElem?_eq_getElem h]
 ·simp [rmems,List.getD,List.getElem?_eq_none (by omega:rs.length≤k),dr]
theorem rmems_len (rs:List Rum):(rmems rs).length=rs.length:=by simp [rmems]
def AllTold (rs:List Rum):Prop:=∀ j,j < rs.length→within (rs.getD j dr).told 0 100=true
theorem allTold_iff (rs:List Rum):((List.range rs.length).all fun j=>within (rs.getD j dr).told 0 100)=true↔AllTold rs:=by
 unfold AllTold
 simp only [List.all_eq_true,List.mem_range]
theorem distinct_iff (rs:List Rum):((List.range rs.length).all fun j=>(List.range j).all fun i=>decide ((rs.getD i dr).m.name≠(rs.getD j dr).m.name))=true↔Distinct rs:=by
 unfold Distinct
 simp only [List.all_eq_true,List.mem_range,decide_eq_true_eq]
 exact ⟨fun h i j hi hj=>h j hj i hi,fun h j hj i hi=>h i j hi hj⟩
def chkR (rs:List Rum):Int:=
 if 20 < rs.length then 2 else if firstE (rmems rs)=0 then (@ite _ (AllTold rs) (decidable_of_iff _ (allTold_iff rs)) (@ite _ (Distinct rs) (decidable_of_iff _ (distinct_iff rs)) 0 6) 3) else firstE (rmems rs)
theorem chkR_many {rs:List Rum} (h:20 < rs.length):chkR rs=2:=by unfold chkR;rw [if_pos h]
theorem chkR_mem {rs:List Rum} {k:Nat} (hn:rs.length≤20) (hk:k < rs.length) (hz:∀ j,j < k→(rs.getD j dr).m.e=0) (hne:(rs.getD k dr).m.e≠0):chkR rs=(rs.getD k dr).m.e:=by
 have h:=firstE_at (rmems rs) k (by rw [rmems_len];exact hk) (fun j hj=>by rw [rmems_get];exact hz j hj) (by rw [rmems_get];exact hne)
 rw [rmems_get] at h
 unfold chkR
 rw [if_neg (by omega),if_neg (by rw [h];exact hne),h]
theorem firstR_zero {rs:List Rum} (hz:∀ j,j < rs.length→(rs.getD j dr).m.e=0):firstE (rmems rs)=0:=
 firstE_zero _ (fun j hj=>by rw [rmems_get];exact hz j (by rw [rmems_len] at hj;exact hj))
theorem chkR_told {rs:List Rum} {k:Nat} (hn:rs.length≤20) (hz:∀ j,j < rs.length→(rs.getD j dr).m.e=0) (hk:k < rs.length) (hne:within (rs.getD k dr).told 0 100=false):chkR rs=3:=by
 unfold chkR
 rw [if_neg (by omega),if_pos (firstR_zero hz),if_neg]
 intro h
 rw [h k hk] at hne
 cases hne
theorem chkR_twice {rs:List Rum} (hn:rs.length≤20) (hz:∀ j,j < rs.length→(rs.getD j dr).m.e=0) (ht:AllTold rs) (hd:¬ Distinct rs):chkR rs=6:=by
 unfold chkR
 rw [if_neg (by omega),if_pos (firstR_zero hz),if_pos ht,if_neg hd]
theorem chkR_ok {rs:List Rum} (hn:rs.length≤20) (hz:∀ j,j < rs.length→(rs.getD j dr).m.e=0) (ht:AllTold rs) (hd:Distinct rs):chkR rs=0:=by
 unfold chkR
 rw [if_neg (by omega),if_pos (firstR_zero hz),if_pos ht,if_pos hd]
theorem dm_lt {rs:List Rum} (hd:¬ Distinct rs):Maps.size (Dm (rnames rs) rs.length) < rs.length:=by
 apply Dm_size_lt
 apply Classical.byContradiction
 intro h
 apply hd
 intro i j hij hj e
 exact h ⟨i,j,hij,hj,by rw [rnames_get,rnames_get];exact e⟩
theorem dm_eq {rs:List Rum} (hd:Distinct rs):Maps.size (Dm (rnames rs) rs.length)=rs.length:=
 Dm_size_eq _ _ (fun i j hij hj=>by rw [rnames_get,rnames_get];exact hd i j hij hj)
set_option maxHeartbeats 3200000 in
set_option maxRecDepth 100000 in
theorem checkR_any (rs:List Rum) (v:Value) (w:World) (hv:RSl w v rs) :
 Calls Tryz.prog 126 #[v] w fun e w'=>e=.returned (.int .i64 (chkR rs))∧Below w.heap.size w w':=by
 have HV:Hid (RSl w v rs):=hv
 obtain ⟨pa,ca,rfl,hsz,ha⟩:=hv
 by_cases hmany:20 < rs.length
 ·have HE:Hid (chkR rs=2):=chkR_many hmany
  go_enter Tryz.func126,Tryz.ntmps126
  go_wp2_with fail
  go_ret
  exact ⟨ret_int HE.out.symm,Below.refl _ _⟩
 have HA:Hid (rs=[]∨∃ b off,pa=some ⟨b,off,none⟩∧b < w.heap.size∧RRow w b off rs):=ha
 have HS:Hid (∀ j,(rs.getD j dr).m.name.size≤maxLen):=hsz
 clear ha hsz
 generalize hN:rs.length=n at *
 have HN:Hid (rs.length=n):=hN
 clear hN
 have hn20:n≤20:=by omega
 go_enter Tryz.func126,Tryz.ntmps126
 go_wp2
 go_loopw [13] (fun i wr=>∃ k:Nat,k≤n∧i=.int .i64 k∧Hid (∀ j,j < k→(rs.getD j dr).m.e=0)∧Hid (Below w.heap.size w wr))
  (fun i _=>n - (intOf i).toNat)
 case atStart=>exact ⟨0,Nat.zero_le _,rfl,fun j hj=>by omega,Below.refl _ _⟩
 case round=>
  obtain ⟨k,hk,rfl,HZ,HB⟩:=hrel
  by_cases hlt:k < n
  ·obtain ⟨b,off,hp,hl,hr⟩:∃ b off,pa=some ⟨b,off,none⟩∧b < w.heap.size∧RRow w b off rs:=by
    rcases HA.out with h | h
    ·have:=HN.out;rw [h] at this;simp at this;omega
    ·exact h
   subst hp
   obtain ⟨c0,c1,c2,c3,c4,c5⟩:=hr.below HB.out hl k (by rw [HN.out];exact hlt)
   have hnm:=HS.out k
   have HX:Hid ((rs.getD k dr).m.e≠0→chkR rs=(rs.getD k dr).m.e):=fun h=>chkR_mem (by rw [HN.out];exact hn20) (by rw [HN.out];exact hlt) HZ.out h
   have HZ2:Hid ((rs.getD k dr).m.e=0→∀ j,j < k+1→(rs.getD j dr).m.e=0):=fun h j hj=>by
    by_cases e:j=k
    ·subst e;exact h
    ·exact HZ.out j (by omega)
   generalize (rs.getD k dr)=rk at *
   obtain ⟨⟨nm,st,lf,ad,sv⟩,td⟩:=rk
   simp only at c0 c1 c2 c3 c4 c5 hnm HX HZ2
   clear hr HZ
   go_wp2_with fail
   refine (checkMember_any ⟨nm,st,lf,ad,sv⟩ _ hnm).mono ?_
   rintro e w1 ⟨rfl,hb1⟩
   have HB1:Hid (Below w.heap.size w w1):=(HB.out.alloc HB.out.size _).trans (hb1.mono (by have:=HB.out.size;simp;omega))
   clear hb1 c0 c1 c2 c3 c4 c5 HB
   by_cases he:(Mem.mk nm st lf ad sv).e=0
   ·have he':((Mem.mk nm st lf ad sv).e != 0)=false:=by simpa using he
    have HZ3:Hid (∀ j,j < k+1→(rs.getD j dr).m.e=0):=HZ2.out he
    clear HX HZ2 he
    go_wp2_with fail
    go_roundw
    case rel=>exact ⟨k+1,by omega,by go_num,HZ3,HB1⟩
    case measure=>simp [intOf];omega
   ·have he':((Mem.mk nm st lf ad sv).e != 0)=true:=by simpa using he
    have HE:Hid (chkR rs=(Mem.mk nm st lf ad sv).e):=HX.out he
    clear HX HZ2 he
    go_wp2_with fail
    go_ret
    exact ⟨ret_int HE.out.symm,HB1.out⟩
  ·have HZA:Hid (∀ j,j < rs.length→(rs.getD j dr).m.e=0):=fun j hj=>HZ.out j (by rw [HN.out] at hj;omega)
   clear HZ
   go_wp2_with fail
   go_loopw [26] (fun i wr=>∃ k:Nat,k≤n∧i=.int .i64 k∧Hid (∀ j,j < k→within (rs.getD j dr).told 0 100=true)∧Hid (Below w.heap.size w wr))
    (fun i _=>n - (intOf i).toNat)
   case atStart=>exact ⟨0,Nat.zero_le _,rfl,fun j hj=>by omega,HB⟩
   case round=>
    clear HB hlt hk
    obtain ⟨k2,hk,rfl,HZ,HB⟩:=hrel
    by_cases hlt:k2 < n
    ·obtain ⟨b,off,hp,hl,hr⟩:∃ b off,pa=some ⟨b,off,none⟩∧b < w.heap.size∧RRow w b off rs:=by
      rcases HA.out with h | h
      ·have:=HN.out;rw [h] at this;simp at this;omega
      ·exact h
     subst hp
     obtain ⟨c0,c1,c2,c3,c4,c5⟩:=hr.below HB.out hl k2 (by rw [HN.out];exact hlt)
     have HX:Hid (within (rs.getD k2 dr).told 0 100=false→chkR rs=3):=fun h=>chkR_told (by rw [HN.out];exact hn20) HZA.out (by rw [HN.out];exact hlt) h
     have HZ2:Hid (within (rs.getD k2 dr).told 0 100=true→∀ j,j < k2+1→within (rs.getD j dr).told 0 100=true):=fun h j hj=>by
      by_cases e:j=k2
      ·subst e;exact h
      ·exact HZ.out j (by omega)
     generalize (rs.getD k2 dr)=rk at *
     obtain ⟨⟨nm,st,lf,ad,sv⟩,td⟩:=rk
     simp only at c0 c1 c2 c3 c4 c5 HX HZ2
     clear hr HZ
     rcases ht:within td 0 100 with _ | _
     ·have HE:Hid (chkR rs=3):=HX.out ht
      clear HX HZ2
      go_wp2_with (go_at_call 76;refine (within_any _ _ _ _).mono ?_;rintro e w' ⟨rfl,rfl⟩;rw [ht])
      go_ret
      exact ⟨ret_int HE.out.symm,HB.out.alloc HB.out.size _⟩
     ·have HZ3:Hid (∀ j,j < k2+1→within (rs.getD j dr).told 0 100=true):=HZ2.out ht
      clear HX HZ2
      go_wp2_with (go_at_call 76;refine (within_any _ _ _ _).mono ?_;rintro e w' ⟨rfl,rfl⟩;rw [ht])
      go_roundw
      case rel=>exact ⟨k2+1,by omega,by go_num,HZ3,HB.out.alloc HB.out.size _⟩
      case measure=>simp [intOf];omega
    ·have HTA:Hid (AllTold rs):=fun j hj=>HZ.out j (by rw [HN.out] at hj;omega)
     clear HZ
     go_wp2_with fail
     refine (met_any rs _ _ (HV.out.below HB.out) (by rw [HN.out];omega)).mono ?_
     rintro e w1 ⟨rfl,hown,hb1⟩
     have HO:Hid (w1.ownsMap Tryz.prog 9 (plainElem (H:=Unit) Tryz.prog 3) wr.heap.size rs.length (Dm (rnames rs) rs.length)):=hown
     have HB1:Hid (Below w.heap.size w w1):=HB.out.trans (hb1.mono HB.out.size)
     clear hown hb1
     have hsz1:(Maps.size (Dm (rnames rs) rs.length):Nat)≤n:=by rw [← HN.out];exact Dm_size_le _ _
     by_cases hd:Distinct rs
     ·have HE:Hid (chkR rs=0):=chkR_ok (by rw [HN.out];exact hn20) HZA.out HTA.out hd
      have HSZ:¬ ((Maps.size (Dm (rnames rs) rs.length):Nat):Int) < n:=by rw [dm_eq hd,HN.out];omega
      go_wp2_with (at_len;refine wpList_len_own _ rfl _ 131 rfl 9 3 Tryz.underlying131 _ _ _ _ rfl HO.out ?_)
      go_ret
      exact ⟨ret_int HE.out.symm,HB1.out⟩
     ·have HE:Hid (chkR rs=6):=chkR_twice (by rw [HN.out];exact hn20) HZA.out HTA.out hd
      have HSZ:((Maps.size (Dm (rnames rs) rs.length):Nat):Int) < n:=by have:=dm_lt hd;have:=HN.out;omega
      go_wp2_with (at_len;refine wpList_len_own _ rfl _ 131 rfl 9 3 Tryz.underlying131 _ _ _ _ rfl HO.out ?_)
      go_ret
      exact ⟨ret_int HE.out.symm,HB1.out⟩
end Go.Proofs.YtffdoiokmiklgaaGreatDoor
namespace Go.Proofs.YtffdoiokmiklgaaGreatDoor
open Go.RowKit
def Rum.cs (r:Rum):List Value:=[.string r.m.name,.int .i64 r.m.state,.int .i64 r.m.life,.int .i64 r.m.addr,.bool r.m.server,.int .i64 r.told]
def flR (rs:List Rum):List Value:=rs.flatMap Rum.cs
theorem rcs_len (r:Rum):r.cs.length=6:=rfl
theorem flR_cons (m:Rum) (r:List Rum):flR (m :: r)=m.cs++flR r:=by simp [flR]
theorem flR_append (a b:List Rum):flR (a++b)=flR a++flR b:=by simp [flR]
theorem flR_len:∀ ms:List Rum,(flR ms).length=ms.length * 6
 | []=>rfl
 | m :: r=>by rw [flR_cons,List.length_append,flR_len r,rcs_len,List.length_cons];omega
theorem flR_take:∀ (ms:List Rum) (i:Nat),(flR ms).take (i * 6)=flR (ms.take i)
 | [],i=>by simp [flR]
 | m :: r,0=>by simp [flR]
 | m :: r,i+1=>by
   rw [flR_cons,List.take_succ_cons,flR_cons,show (i+1) * 6=m.cs.length+i * 6 by rw [rcs_len];omega,List.take_length_add_append,flR_take r i]
theorem flR_drop:∀ (ms:List Rum) (i:Nat),(flR ms).drop (i * 6)=flR (ms.drop i)
 | [],i=>by simp [flR]
 | m :: r,0=>by simp
 | m :: r,i+1=>by
   rw [flR_cons,List.drop_succ_cons,show (i+1) * 6=m.cs.length+i * 6 by rw [rcs_len];omega,List.drop_length_add_append,flR_drop r i]
theorem rcs_one (m:Rum):∀ v∈m.cs,v.oneCell'=true:=by
 intro v hv;simp [Rum.cs] at hv;rcases hv with rfl | rfl | rfl | rfl | rfl | rfl<;>rfl
theorem flR_one (ms:List Rum):∀ v∈flR ms,v.oneCell'=true:=by
 intro v hv
 obtain ⟨m,_,h⟩:=List.mem_flatMap.1 hv
 exact rcs_one m v h
theorem flR_get (ms:List Rum) (j:Nat) (hj:j < ms.length) (t:Nat) (ht:t < 6):(flR ms)[j * 6+t]?=(ms.getD j dr).cs[t]?:=by
 induction ms generalizing j with
 | nil=>simp at hj
 | cons m r ih=>
   rw [flR_cons]
   cases j with
   | zero=>rw [List.getElem?_append_left (by rw [rcs_len];omega)];simp
   | succ j=>
     rw [List.getElem?_append_right (by rw [rcs_len];omega),rcs_len,show (j+1) * 6+t - 6=j * 6+t by omega,ih j (by simpa using hj)]
     simp
abbrev ROwn (base:Nat) (w:World) (v:Value) (ms:List Rum):Prop:=w.ownsRow base 98 6 v ms.length (flR ms)
theorem rown_nil (base:Nat) (w:World):ROwn base w (.slice none 0 0) []:=World.ownsRow_nil w base 98 6
theorem rown_snoc {base:Nat} {w:World} {v:Value} {L:List Rum} {m:Rum} (h:w.ownsRow base 98 6 v (L.length+1) (flR L++m.cs)):ROwn base w v (L++[m]):=by
 have e:flR (L++[m])=flR L++m.cs:=by rw [flR_append,flR_cons];simp [flR]
 show w.ownsRow base 98 6 v (L++[m]).length (flR (L++[m]))
 rw [e,List.length_append]
 exact h
theorem rns_get {rs:List Rum} (h:∀ r∈rs,r.m.name.size≤maxLen):∀ j,(rs.getD j dr).m.name.size≤maxLen:=fun j=>by
 by_cases hj:j < rs.length
 ·rw [show rs.getD j dr=rs[j] by simp [List.getD,List.getElem?_eq_getElem hj]]
  exact h _ (List.getElem_mem hj)
 ·rw [show rs.getD j dr=dr by simp [List.getD,List.getElem?_eq_none (by omega:rs.length≤j)]]
  exact Nat.zero_le _
theorem rns_mem {rs:List Rum} (h:∀ j,(rs.getD j dr).m.name.size≤maxLen):∀ m∈rs,m.m.name.size≤maxLen:=by
 intro m hm
 obtain ⟨j,hj,rfl⟩:=List.getElem_of_mem hm
 have:=h j
 rwa [show rs.getD j dr=rs[j] by simp [List.getD,List.getElem?_eq_getElem hj]] at this
theorem ROwn.sl {base:Nat} {w:World} {v:Value} {ms:List Rum} (h:ROwn base w v ms) (hs:∀ j,(ms.getD j dr).m.name.size≤maxLen):RSl w v ms:=by
 rcases h.2 with ⟨rfl,h0⟩ | ⟨g,c,cur,rfl,hbg,hg,hnc,hcm,hcs,htake⟩
 ·exact ⟨none,0,by rw [h0],hs,.inl (List.eq_nil_of_length_eq_zero h0)⟩
 ·refine ⟨_,c,rfl,hs,.inr ⟨g,0,rfl,(Array.getElem?_eq_some_iff.1 hg).1,fun j hj=>?_⟩⟩
  have hc:∀ t,t < 6→w.cell? ⟨g,0+j * 6+t,none⟩=(ms.getD j dr).cs[t]?:=fun t ht=>by
   rw [cellsAt hg,← flR_get ms j hj t ht,← htake,List.getElem?_take_of_lt (by omega)];simp
  exact ⟨hc 0 (by omega),hc 1 (by omega),hc 2 (by omega),hc 3 (by omega),hc 4 (by omega),hc 5 (by omega)⟩
theorem ROwn.below {base:Nat} {w w':World} {v:Value} {ms:List Rum} (h:ROwn base w v ms) (hb:Below w.heap.size w w'):ROwn base w' v ms:=by
 obtain ⟨h1,h2⟩:=h
 refine ⟨h1,?_⟩
 rcases h2 with h2 | ⟨g,c,cur,hv,hbg,hg,hr⟩
 ·exact .inl h2
 ·exact .inr ⟨g,c,cur,hv,hbg,by rw [hb.block g (Array.getElem?_eq_some_iff.1 hg).1];exact hg,hr⟩
theorem ROwn.base {b b':Nat} {w:World} {v:Value} {ms:List Rum} (h:ROwn b w v ms) (hb:b'≤b):ROwn b' w v ms:=by
 obtain ⟨h1,h2⟩:=h
 refine ⟨h1,?_⟩
 rcases h2 with h2 | ⟨g,c,cur,hv,hbg,hr⟩
 ·exact .inl h2
 ·exact .inr ⟨g,c,cur,hv,Nat.le_trans hb hbg,hr⟩
theorem ROwn.lt {base:Nat} {w:World} {v:Value} {ms:List Rum} (h:ROwn base w v ms) (k:Nat) (hk:v.ownBlock=some k):base≤k∧k < w.heap.size:=World.ownsRow.lt h k hk
theorem ROwn.slice {base:Nat} {w:World} {v:Value} {ms:List Rum} (h:ROwn base w v ms):∃ a c,v=.slice a ms.length c:=by
 rcases h.2 with ⟨rfl,h0⟩ | ⟨g,c,cur,rfl,_⟩
 ·exact ⟨none,0,by rw [h0]⟩
 ·exact ⟨_,c,rfl⟩
theorem Tryz.infoR:(Tryz.prog.info? 98).map (fun i=>(i.zero,i.size,i.bytes))=some (some (.agg #[.string ⟨#[]⟩,.int .i64 0,.int .i64 0,.int .i64 0,.bool false,.int .i64 0]),6,56):=by kernel_rfl
theorem rrow_cell {rs:List Rum} {w:World} {b off:Nat} (hr:RRow w b off rs) {j:Nat} {u:Value} (hj:(flR rs)[j]?=some u):w.cell? ⟨b,off+j,none⟩=some u:=by
 have hjl:j < rs.length * 6:=by rw [← flR_len];exact (List.getElem?_eq_some_iff.1 hj).1
 have h1:=flR_get rs (j / 6) (by omega) (j%6) (by omega)
 rw [show j / 6 * 6+j%6=j by omega,hj] at h1
 obtain ⟨c0,c1,c2,c3,c4,c5⟩:=hr (j / 6) (by omega)
 have hcs:j%6=0∨j%6=1∨j%6=2∨j%6=3∨j%6=4∨j%6=5:=by omega
 rcases hcs with e | e | e | e | e | e
 ·rw [show off+j=off+j / 6 * 6 by omega,c0];rw [e] at h1;simpa [Rum.cs] using h1.symm
 ·rw [show off+j=off+j / 6 * 6+1 by omega,c1];rw [e] at h1;simpa [Rum.cs] using h1.symm
 ·rw [show off+j=off+j / 6 * 6+2 by omega,c2];rw [e] at h1;simpa [Rum.cs] using h1.symm
 ·rw [show off+j=off+j / 6 * 6+3 by omega,c3];rw [e] at h1;simpa [Rum.cs] using h1.symm
 ·rw [show off+j=off+j / 6 * 6+4 by omega,c4];rw [e] at h1;simpa [Rum.cs] using h1.symm
 ·rw [show off+j=off+j / 6 * 6+5 by omega,c5];rw [e] at h1;simpa [Rum.cs] using h1.symm
set_option maxHeartbeats 800000 in
theorem rclone_any (rs:List Rum) (v:Value) (w:World) (h:RSl w v rs) (hn:rs.length≤1000) :
 Calls Tryz.prog 71 #[v] w fun e w'=>∃ v',e=.returned v'∧ROwn w.heap.size w' v' rs∧Below w.heap.size w w':=by
 obtain ⟨a,cap,rfl,hs,h⟩:=h
 obtain ⟨i0,hi0,hz0,hzs,hzb⟩:=info_parts Tryz.infoR
 cases a with
 | none=>
   have he:rs=[]:=by
    rcases h with h | ⟨b,off,h,_⟩
    ·exact h
    ·cases h
   subst he
   clear h hs
   have hnil:=fun (w:World)=>Lib.run_eql_slice_nil (P:=Tryz.prog) w 46 98 none 0 cap 0 0 Tryz.underlying46
   simp only [List.length_nil,Option.isNone_none] at hnil ⊢
   go_enter Tryz.func71,Tryz.ntmps71
   go_wp2_with fail
   go_ret
   exact ⟨_,rfl,rown_nil _ _,Below.refl _ _⟩
 | some a=>
   have hnil:=fun (w:World)=>Lib.run_eql_slice_nil (P:=Tryz.prog) w 46 98 (some a) rs.length cap 0 0 Tryz.underlying46
   simp only [Option.isNone_some] at hnil
   have hnews:Hid (∀ j u,(flR rs)[j]?=some u→(w.alloc (.cells #[] 98)).cell? (a.add j)=some u):=by
    intro j u hj
    rcases h with h | ⟨b,off,h,hb,hr⟩
    ·subst h;simp [flR] at hj
    ·cases h
     rw [Addr.add_lit,World.cell?_alloc_past (w:=w) _ b _ hb]
     exact rrow_cell hr hj
   have HO:Hid ((w.alloc (.cells #[] 98)).ownsRow w.heap.size 98 6 (.slice (some ⟨w.heap.size,0,none⟩) 0 0) 0 []):=World.ownsRow_made w #[] 0 (Nat.le_refl _) (by unfold maxLen;omega) rfl
   clear h hs
   go_enter Tryz.func71,Tryz.ntmps71
   go_wp2_with (at_builtin;refine wpList_append_own _ rfl _ _ 46 rfl w.heap.size 98 i0 _ 6 56 Tryz.underlying46 hi0 hz0 hzs hzb rfl (by omega) _ 0 [] rfl HO.out a rs.length cap (flR rs) rfl (flR_len rs) hnews.out (flR_one rs) (by unfold maxLen;omega) (by omega) (by simp) ?_)
   intro v' w' r1 r2 r3
   go_wp2_with fail
   go_ret
   refine ⟨v',rfl,?_,?_⟩
   ·simpa using r1
   ·exact ((Below.refl _ _).alloc (Nat.le_refl _) _).grown r2 (by simp) (fun k hk=>by simp [Value.ownBlock] at hk;omega)
end Go.Proofs.YtffdoiokmiklgaaGreatDoor
namespace Go.Proofs.YtffdoiokmiklgaaGreatDoor
open Go.RowKit Go.WideMaps Go.Maps
theorem look_any {w:World} {b n:Nat} {D:DataW Unit} (h:w.ownsMap Tryz.prog 9 (plainElem (H:=Unit) Tryz.prog 3) b n D) {s:ByteArray} (hs:s.size≤maxLen) :
 ∃ c:Int,(Instr.lookup 131 (.map (some b)) (.string s) true).run Tryz.prog w=.ok (.tuple #[.int .i64 c,.bool (Maps.has D (kS s))]) w∧D.atKey (kS s) (.lit (.int .i64 0))=.lit (.int .i64 c):=by
 obtain ⟨v,ps,hrun,hv⟩:=h.look_ok law9 Tryz.underlying131 (zero3' _) (plainElem_int Tryz.underlying3 (by decide)) (keyOf_string_mk Tryz.underlying9 hs)
 obtain ⟨c,rfl,hc,_⟩:=plainElem_int_inv Tryz.underlying3 hv
 exact ⟨c,hrun,congrArg Prod.fst hc⟩
def NotIn (rs:List Rum) (nm:ByteArray):Prop:=∀ j,j < rs.length→(rs.getD j dr).m.name≠nm
theorem has_not {rs:List Rum} {nm:ByteArray} (h:NotIn rs nm):Maps.has (Dm (rnames rs) rs.length) (kS nm)=false:=by
 cases hh:Maps.has (Dm (rnames rs) rs.length) (kS nm)
 ·rfl
 ·obtain ⟨j,hj,e⟩:=(Dm_has _ _ _).1 hh
  rw [rnames_get] at e
  exact absurd e (h j hj)
set_option maxHeartbeats 3200000 in
set_option maxRecDepth 100000 in
theorem put_new (rs:List Rum) (v:Value) (m:Mem) (w:World) (hv:RSl w v rs) (hm:m.name.size≤maxLen) (h0:chkR rs=0) (he:m.e=0) (hno:NotIn rs m.name) (hl:rs.length < 20) :
 Calls Tryz.prog 195 #[v,.agg #[.string m.name,.int .i64 m.state,.int .i64 m.life,.int .i64 m.addr,.bool m.server]] w fun e w'=>∃ v',e=.returned (.tuple #[v',.int .i64 0])∧ROwn w.heap.size w' v' (rs++[⟨m,0⟩])∧Below w.heap.size w w':=by
 obtain ⟨i0,hi0,hz0,hzs,hzb⟩:=info_parts Tryz.infoR
 have HV:Hid (RSl w v rs):=hv
 have hchk:=fun (w:World) (h:RSl w v rs)=>checkR_any rs v w h
 rw [h0] at hchk
 have hcm:=fun w=>checkMember_any m w hm
 rw [he] at hcm
 have HH:Hid (Maps.has (Dm (rnames rs) rs.length) (kS m.name)=false):=has_not hno
 clear h0 he hv
 obtain ⟨nm,st,lf,ad,sv⟩:=m
 simp only at *
 have hB0:Below w.heap.size w (w.alloc (.cells #[.string nm,.int .i64 st,.int .i64 lf,.int .i64 ad,.bool sv] 56)):=(Below.refl _ _).alloc (Nat.le_refl _) _
 go_enter Tryz.func195,Tryz.ntmps195
 go_wp2_with fail
 refine (hchk _ (HV.out.below hB0)).mono ?_
 rintro e w1 ⟨rfl,hb1⟩
 have c1:∀ o,w1.cell? ⟨w.heap.size,o,none⟩=#[Value.string nm,.int .i64 st,.int .i64 lf,.int .i64 ad,.bool sv][o]?:=fun o=>by
  rw [hb1.cell (p:=⟨w.heap.size,o,none⟩) (by simp)];exact cell_top' rfl
 have HB1:Hid (Below w.heap.size w w1):=hB0.trans (hb1.mono (by simp))
 have hz1:w.heap.size < w1.heap.size:=by have:=hb1.size;simp at this;omega
 clear hb1 hB0 hchk
 go_wp2_with fail
 refine (hcm _).mono ?_
 rintro e w2 ⟨rfl,hb2⟩
 have c2:∀ o,w2.cell? ⟨w.heap.size,o,none⟩=#[Value.string nm,.int .i64 st,.int .i64 lf,.int .i64 ad,.bool sv][o]?:=fun o=>by
  rw [hb2.cell (p:=⟨w.heap.size,o,none⟩) (by simp only;omega)];exact c1 o
 have HB2:Hid (Below w.heap.size w w2):=HB1.out.trans (hb2.mono HB1.out.size)
 have hz2:w.heap.size < w2.heap.size:=by have:=hb2.size;omega
 clear hb2 c1 hz1 HB1 hcm
 go_wp2_with fail
 refine (rclone_any rs v _ (HV.out.below HB2.out) (by omega)).mono ?_
 rintro e w3 ⟨v3,rfl,ho3,hb3⟩
 have HO3:Hid (ROwn w2.heap.size w3 v3 rs):=ho3
 have c3:w3.cell? ⟨w.heap.size,0,none⟩=some (.string nm):=by
  rw [hb3.cell (p:=⟨w.heap.size,0,none⟩) (by simp only;omega)];exact c2 0
 have C3:Hid (∀ o,w3.cell? ⟨w.heap.size,o,none⟩=#[Value.string nm,.int .i64 st,.int .i64 lf,.int .i64 ad,.bool sv][o]?):=fun o=>by
  rw [hb3.cell (p:=⟨w.heap.size,o,none⟩) (by simp only;omega)];exact c2 o
 have HB3:Hid (Below w.heap.size w w3):=HB2.out.trans (hb3.mono HB2.out.size)
 have hz3:w.heap.size < w3.heap.size:=by have:=hb3.size;omega
 have hz23:w2.heap.size≤w3.heap.size:=hb3.size
 clear hb3 ho3 c2
 go_wp2_with fail
 go_region_held3 (fun w'=>w'.cell? ⟨w.heap.size,0,none⟩=some (.string nm)) (first | assumption | go_keep) (first | (go_at_call 181;refine (met_any rs v _ ((HV.out.below HB3.out).below (Below.refl _ _).drew) (by omega)).mono ?_;rintro e w4 ⟨rfl,hown,hb4⟩;obtain ⟨cq,hrun,hat⟩:=look_any hown hm;rw [HH.out] at hrun;have hr2:(Instr.lookup 131 (.map (some w3.heap.size)) (.string nm) true).run Tryz.prog w4=.ok (.tuple #[.int .i64 cq,.bool false]) w4:=hrun;clear hrun hat hown;have HB4:Hid (Below w3.heap.size w3 w4):=(Below.refl w3.heap.size w3).drew.trans hb4;have hS:w4.cell? ⟨w.heap.size,0,none⟩=some (.string nm):=((hb4.cell (p:=⟨w.heap.size,0,none⟩) hz3).trans c3);clear hb4))
 obtain ⟨a3,ca3,hv3⟩:=HO3.out.slice
 subst hv3
 have C4:∀ o,w4.cell? ⟨w.heap.size,o,none⟩=#[Value.string nm,.int .i64 st,.int .i64 lf,.int .i64 ad,.bool sv][o]?:=fun o=>by
  rw [HB4.out.cell (p:=⟨w.heap.size,o,none⟩) hz3];exact C3.out o
 have HO4:Hid (ROwn w2.heap.size w4 (.slice a3 rs.length ca3) rs):=HO3.out.below HB4.out
 have HB5:Hid (Below w.heap.size w w4):=HB3.out.trans (HB4.out.mono HB3.out.size)
 have hz5:w2.heap.size≤w4.heap.size:=by have:=HB4.out.size;omega
 have HO5:Hid (∀ ob,(w4.alloc ob).ownsRow w2.heap.size 98 6 (.slice a3 rs.length ca3) rs.length (flR rs)):=fun ob=>HO4.out.below ((Below.refl _ _).alloc (Nat.le_refl _) _)
 have HLT:Hid (∀ k,(Value.slice a3 rs.length ca3).ownBlock=some k→w.heap.size≤k):=fun k hk=>by have:=(HO4.out.lt k hk).1;omega
 have HSN:Hid (∀ (w':World) (v':Value),w'.ownsRow w2.heap.size 98 6 v' (rs.length+1) (flR rs++(Rum.mk ⟨nm,st,lf,ad,sv⟩ 0).cs)→ROwn w.heap.size w' v' (rs++[⟨⟨nm,st,lf,ad,sv⟩,0⟩])):=fun w' v' h=>(rown_snoc h).base (by omega)
 clear HO3 C3 HB4 HB3 c3 hr2 HO4
 generalize hN:rs.length=n at *
 have HN:Hid (rs.length=n):=hN
 clear hN
 go_wp2_with (at_builtin;refine wpList_append_own _ rfl _ _ 46 rfl w2.heap.size 98 i0 _ 6 56 Tryz.underlying46 hi0 hz0 hzs hzb rfl (by omega) _ n (flR rs) rfl ?hown ⟨w4.heap.size,0,none⟩ 1 1 (Rum.mk ⟨nm,st,lf,ad,sv⟩ 0).cs rfl rfl ?hnews (rcs_one _) ?h63 ?hbytes ?hbase ?_)
 case hown=>exact HO5.out _
 case hnews=>(intro j u hj;rw [Addr.add_lit];exact (cellsAt (heap_alloc_new w4 (.cells #[.string nm,.int .i64 st,.int .i64 lf,.int .i64 ad,.bool sv,.int .i64 0] 98)) (0+j)).trans (by simpa [Rum.cs] using hj))
 case h63=>(unfold maxLen;omega)
 case hbytes=>omega
 case hbase=>(simp;omega)
 intro v' w5 r1 r2 r3
 have R1:Hid (ROwn w.heap.size w5 v' (rs++[⟨⟨nm,st,lf,ad,sv⟩,0⟩])):=HSN.out w5 v' r1
 have R2:Hid (Below w.heap.size w w5):=(HB5.out.alloc HB5.out.size _).grown r2 (by have:=HB5.out.size;simp;omega) (fun k hk=>HLT.out k hk)
 clear r1 r2 r3
 go_wp2_with fail
 go_ret2
 exact ⟨v',rfl,R1.out,R2.out⟩
end Go.Proofs.YtffdoiokmiklgaaGreatDoor
