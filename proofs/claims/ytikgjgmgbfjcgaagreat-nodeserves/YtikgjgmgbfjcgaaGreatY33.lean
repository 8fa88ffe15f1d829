import Derived.Test.YtikgjgmgbfjcgaaGreatY16
import Derived.Laws.StructEq
import Derived.Deep.Slices
import Derived.Lib.SmallJoins
import Derived.ProofKit
namespace Go.Proofs.YtikgjgmgbfjcgaaGreat
namespace Sv
open Go.RowKit
theorem join_any (a b:List Svc) (va vb:Value) (pb cap:Nat) (w:World) (ha:Sl w va a) (hb:Sl w vb b) (hpb:pb < w.heap.size) (hc0:w.cell? ⟨pb,0,none⟩=some va) (hc1:w.cell? ⟨pb,1,none⟩=some vb) :
 Calls Tryz.prog 167 #[.slice (some ⟨pb,0,none⟩) 2 cap] w fun e w'=>∃ v',e=.returned (.tuple #[v',.int .i64 (joinE a b)])∧Below w.heap.size w w' ∧
  (joinE a b≠0→v'=.slice none 0 0)∧(joinE a b=0→Own w.heap.size w' v' (joinL a b)):=by
 by_cases h0:chkTwo a b=0
 ·refine (join_good a b va vb pb cap w ha hb hpb hc0 hc1 h0).mono ?_
  rintro e w' ⟨v',rfl,h1,h2,h3⟩
  have hE:joinE a b=if 40 < (joinL a b).length then 2 else 0:=if_pos h0
  refine ⟨v',rfl,h1,fun hne=>h2 ?_,fun hz=>h3 ?_⟩
  ·rw [hE] at hne;split at hne
   ·assumption
   ·exact absurd rfl hne
  ·rw [hE] at hz;split at hz
   ·cases hz
   ·omega
 ·refine (join_bad a b va vb pb cap w ha hb hpb hc0 hc1 h0).mono ?_
  rintro e w' ⟨rfl,h1⟩
  have hE:joinE a b=chkTwo a b:=if_neg h0
  exact ⟨_,rfl,h1,fun _=>rfl,fun hz=>absurd (hE▸hz) h0⟩
set_option maxHeartbeats 800000 in
theorem join2_any (a b:List Svc) (va vb:Value) (w:World) (ha:Sl w va a) (hb:Sl w vb b) :
 Calls Tryz.prog 123 #[va,vb] w fun e w'=>∃ v',e=.returned (.tuple #[v',.int .i64 (joinE a b)])∧Below w.heap.size w w' ∧
  (joinE a b≠0→v'=.slice none 0 0)∧(joinE a b=0→Own w.heap.size w' v' (joinL a b)):=by
 have HA:=ha
 have HB:=hb
 obtain ⟨pa,ca,rfl,_,_⟩:=ha
 obtain ⟨pv,cb,rfl,_,_⟩:=hb
 have hb0:Below w.heap.size w (w.alloc (.cells #[.slice pa a.length ca,.slice pv b.length cb] 24)):=(Below.refl _ _).alloc (Nat.le_refl _) _
 have HA':Hid (Sl (w.alloc (.cells #[.slice pa a.length ca,.slice pv b.length cb] 24)) (.slice pa a.length ca) a):=HA.below hb0
 have HB':Hid (Sl (w.alloc (.cells #[.slice pa a.length ca,.slice pv b.length cb] 24)) (.slice pv b.length cb) b):=HB.below hb0
 clear HA HB
 generalize a.length=na at *
 generalize b.length=nb at *
 go_enter Tryz.func123,Tryz.ntmps123
 go_wp2_with fail
 refine (join_any a b (.slice pa na ca) (.slice pv nb cb) w.heap.size 2 _ HA'.out HB'.out (by simp) (cellsAt (heap_alloc_new w _) 0) (cellsAt (heap_alloc_new w _) 1)).mono ?_
 rintro e w2 ⟨v',rfl,h1,h2,h3⟩
 have H2:Hid (joinE a b≠0→v'=.slice none 0 0):=h2
 have H3:Hid (joinE a b=0→Own (w.alloc (.cells #[.slice pa na ca,.slice pv nb cb] 24)).heap.size w2 v' (joinL a b)):=h3
 clear h2 h3
 go_wp2_with fail
 go_ret2
 exact ⟨v',rfl,hb0.trans (h1.mono (by simp)),H2.out,fun h=>(H3.out h).mono (by simp)⟩
theorem joinE_bad2 {a b:List Svc} (h:chk a=0) (h2:chk b≠0):joinE a b=chk b:=by
 have:chkTwo a b=chk b:=if_pos h
 rw [joinE,this,if_neg h2]
theorem joinE_good {a b:List Svc} (h:chk a=0) (h2:chk b=0):joinE a b=if 40 < (joinL a b).length then 2 else 0:=by
 have:chkTwo a b=0:=(if_pos h).trans h2
 rw [joinE,if_pos this]
def sameM (x y:Svc):Bool:=x.node.toList == y.node.toList && (x.idn.toList == y.idn.toList && (x.name.toList == y.name.toList && (x.tag.toList == y.tag.toList && (x.addr == y.addr && (x.port == y.port && (x.passing == y.passing && (x.version == y.version && (x.gone == y.gone))))))))
theorem sameM_iff (x y:Svc):sameM x y=true↔x=y:=by
 obtain ⟨x_node,x_idn,x_name,x_tag,x_addr,x_port,x_passing,x_version,x_gone⟩:=x
 obtain ⟨y_node,y_idn,y_name,y_tag,y_addr,y_port,y_passing,y_version,y_gone⟩:=y
 simp only [sameM,Bool.and_eq_true,beq_iff_eq,Svc.mk.injEq,Lib.toList_data]
 constructor
 ·rintro ⟨h0,h1,h2,h3,h4,h5,h6,h7,h8⟩;exact ⟨ba_ext h0,ba_ext h1,ba_ext h2,ba_ext h3,h4,h5,h6,h7,h8⟩
 ·rintro ⟨h0,h1,h2,h3,h4,h5,h6,h7,h8⟩;exact ⟨by rw [h0],by rw [h1],by rw [h2],by rw [h3],h4,h5,h6,h7,h8⟩
theorem eqInE (m1 m2:Svc) (w:World):(Op.equalIn 10000 62 (.agg #[.string m1.node,.string m1.idn,.string m1.name,.string m1.tag,.int .i64 m1.addr,.int .i64 m1.port,.bool m1.passing,.int .i64 m1.version,.bool m1.gone]) (.agg #[.string m2.node,.string m2.idn,.string m2.name,.string m2.tag,.int .i64 m2.addr,.int .i64 m2.port,.bool m2.passing,.int .i64 m2.version,.bool m2.gone])).run Tryz.prog w=.ok (sameM m1 m2) w:=by
 have u3:=Tryz.underlying3
 have u9:=Tryz.underlying9
 have a3:=Tryz.isAgg3
 have z3:=Tryz.sizeOf3
 have a9:=Tryz.isAgg9
 have z9:=Tryz.sizeOf9
 have u4:=Tryz.underlying4
 have a4:=Tryz.isAgg4
 have z4:=Tryz.sizeOf4
 have hS:Tryz.prog.underlying 62=some (.struct (Tryz.prog.fieldsOf 62)):=by kernel_rfl
 have hp:Tryz.prog.stoodInHeld 62=false:=by kernel_rfl
 rw [show (10000:Nat)=9999+1 from rfl,run_equalIn_agg w 9999 62 _ _ hS hp]
 simp only [Program.fieldsOf,Tryz.underlying62]
 go_simp
 unfold sameM
 by_cases h0:m1.node.toList=m2.node.toList
 case neg=>simp [h0]
 by_cases h1:m1.idn.toList=m2.idn.toList
 case neg=>simp [h0,h1]
 by_cases h2:m1.name.toList=m2.name.toList
 case neg=>simp [h0,h1,h2]
 by_cases h3:m1.tag.toList=m2.tag.toList
 case neg=>simp [h0,h1,h2,h3]
 by_cases h4:m1.addr=m2.addr
 case neg=>simp [h0,h1,h2,h3,h4]
 by_cases h5:m1.port=m2.port
 case neg=>simp [h0,h1,h2,h3,h4,h5]
 by_cases h6:m1.passing=m2.passing
 case neg=>simp [h0,h1,h2,h3,h4,h5,h6]
 by_cases h7:m1.version=m2.version
 case neg=>simp [h0,h1,h2,h3,h4,h5,h6,h7]
 by_cases h8:m1.gone=m2.gone
 case neg=>simp [h0,h1,h2,h3,h4,h5,h6,h7,h8]
 simp [h0,h1,h2,h3,h4,h5,h6,h7,h8]
theorem neqE (m1 m2:Svc) (w:World):Sem.run Tryz.prog (binOp .neq 62 (.agg #[.string m1.node,.string m1.idn,.string m1.name,.string m1.tag,.int .i64 m1.addr,.int .i64 m1.port,.bool m1.passing,.int .i64 m1.version,.bool m1.gone]) (.agg #[.string m2.node,.string m2.idn,.string m2.name,.string m2.tag,.int .i64 m2.addr,.int .i64 m2.port,.bool m2.passing,.int .i64 m2.version,.bool m2.gone])) w=.ok (.bool (!sameM m1 m2)) w:=by
 rw [run_neq_struct,eqInE]
 rfl
set_option maxHeartbeats 800000 in
theorem same_any (a b:List Svc) (va vb:Value) (w:World) (ha:Sl w va a) (hb:Sl w vb b) (hsm:a.length≤1000) :
 Calls Tryz.prog 63 #[va,vb] w fun e w'=>∃ r:Bool,e=.returned (.bool r)∧(r=true↔a=b)∧Below w.heap.size w w':=by
 obtain ⟨pa,ca,rfl,_,ha⟩:=ha
 obtain ⟨pv,cb,rfl,_,hb⟩:=hb
 by_cases hl:a.length=b.length
 ·have HA:Hid (a=[]∨∃ b off,pa=some ⟨b,off,none⟩∧b < w.heap.size∧Row w b off a):=ha
  have HB:Hid (b=[]∨∃ b_1 off,pv=some ⟨b_1,off,none⟩∧b_1 < w.heap.size∧Row w b_1 off b):=hb
  have HL:Hid (a.length=b.length):=hl
  clear ha hb
  rw [← hl]
  clear hl
  generalize hna:a.length=n at *
  have HN:Hid (a.length=n):=hna
  clear hna
  have hg28:Tryz.prog.eqGuardType Tryz.prog.depth 62=false:=by kernel_rfl
  go_enter Tryz.func63,Tryz.ntmps63
  go_wp2_with fail
  go_loopw [5] (fun i w'=>∃ k:Nat,k≤n∧i=.int .i64 k∧Below w.heap.size w w'∧Hid (∀ j,j < k→a.getD j dm=b.getD j dm)) (fun i _=>n - (intOf i).toNat)
  case atStart=>exact ⟨0,Nat.zero_le _,rfl,Below.refl _ _,fun j h=>absurd h (Nat.not_lt_zero _)⟩
  case round=>
   obtain ⟨k,hk,rfl,hbl,hz⟩:=hrel
   obtain ⟨hbc,hbf⟩:=bcell hbl
   have hsz:=hbl.size
   by_cases hlt:k < n
   ·obtain ⟨b1,o1,hp1,hl1,hr1⟩:∃ b off,pa=some ⟨b,off,none⟩∧b < w.heap.size∧Row w b off a:=by
     rcases HA.out with h | h
     ·have:=HN.out;rw [h] at this;simp at this;omega
     ·exact h
    obtain ⟨b2,o2,hp2,hl2,hr2⟩:∃ b_1 off,pv=some ⟨b_1,off,none⟩∧b_1 < w.heap.size∧Row w b_1 off b:=by
     rcases HB.out with h | h
     ·have h2:=HN.out;have h3:=HL.out;rw [h] at h3;simp at h3;omega
     ·exact h
    subst hp1
    subst hp2
    obtain ⟨c0,c1,c2,c3,c4,c5,c6,c7,c8⟩:=hr1 k (by rw [HN.out];exact hlt)
    obtain ⟨d0,d1,d2,d3,d4,d5,d6,d7,d8⟩:=hr2 k (by have h2:=HN.out;have h3:=HL.out;omega)
    clear hr1 hr2
    have HF:Hid (a.getD k dm≠b.getD k dm→a≠b):=fun h e=>h (by rw [e])
    have HZ:Hid (a.getD k dm=b.getD k dm→∀ j,j < k+1→a.getD j dm=b.getD j dm):=fun h j hj=>by
     rcases Nat.lt_succ_iff_lt_or_eq.1 hj with h2 | rfl
     ·exact hz.out j h2
     ·exact h
    have hneq:=neqE (a.getD k dm) (b.getD k dm)
    generalize a.getD k dm=m1 at *
    generalize b.getD k dm=m2 at *
    rcases hs:sameM m1 m2 with _ | _
    ·rw [hs] at hneq
     have hne:Hid (a≠b):=HF.out (fun e=>by rw [← sameM_iff,hs] at e;cases e)
     go_wp2_with fail
     go_quiet (fail)
     go_wp2_with fail
     go_ret
     exact ⟨false,rfl,⟨fun h=>(by cases h),fun h=>absurd h hne.out⟩,below_drewN hbl _⟩
    ·rw [hs] at hneq
     have heq:Hid (m1=m2):=(sameM_iff m1 m2).1 hs
     go_wp2_with fail
     go_quiet (fail)
     go_wp2_with fail
     go_roundw
     case rel=>exact ⟨k+1,by omega,by go_num,below_drewN hbl _,HZ.out heq.out⟩
     case measure=>simp [intOf];omega
   ·have hfin:Hid (a=b):=by
     apply List.ext_getElem (HN.out.trans HL.out)
     intro j h1 h2
     have:=hz.out j (by have:=HN.out;omega)
     simpa [List.getD,List.getElem?_eq_getElem h1,List.getElem?_eq_getElem h2] using this
    go_wp2_with fail
    go_ret
    exact ⟨true,rfl,⟨fun _=>hfin.out,fun _=>rfl⟩,hbl⟩
 ·have hne:((a.length:Int) != (b.length:Int))=true:=by rw [bne_iff_ne];omega
  have HF:Hid (a≠b):=fun e=>hl (by rw [e])
  clear ha hb
  go_enter Tryz.func63,Tryz.ntmps63
  go_wp2_with fail
  go_ret
  exact ⟨false,rfl,⟨fun h=>(by cases h),fun h=>absurd h HF.out⟩,Below.refl _ _⟩
section
open Go.ChangeShapes Go.WideShapes Go.ChangeAt
variable {H:Type} {enc:TypeId × Value→H} {w:World} {base:Nat} {spare:Nat→Bool} {held:Bool}
end
end Sv
namespace Sv
open Go.RowKit
def fnd (ms:List Svc) (p:Nat) (f:Bool):Svc:=if f=true then ms.getD p dm else dm
set_option maxHeartbeats 1600000 in
theorem find2_any (ms:List Svc) (v:Value) (node idn:ByteArray) (w:World) (h:Sl w v ms) (hn:ms.length≤40) (hr:Rise ms) :
 Calls Tryz.prog 179 #[v,.string node,.string idn] w fun e w'=>∃ (p:Nat) (f:Bool),e=.returned (.tuple #[.agg #[.string (fnd ms p f).node,.string (fnd ms p f).idn,.string (fnd ms p f).name,.string (fnd ms p f).tag,.int .i64 (fnd ms p f).addr,.int .i64 (fnd ms p f).port,.bool (fnd ms p f).passing,.int .i64 (fnd ms p f).version,.bool (fnd ms p f).gone],.bool f])∧Below w.heap.size w w'∧At ms ⟨node,idn,⟨#[]⟩,⟨#[]⟩,0,0,false,0,false⟩ p f:=by
 obtain ⟨W0,hW0⟩:∃ W0,W0=w.alloc (.cells #[.string ⟨#[]⟩,.string ⟨#[]⟩,.string ⟨#[]⟩,.string ⟨#[]⟩,.int .i64 0,.int .i64 0,.bool false,.int .i64 0,.bool false] 62):=⟨_,rfl⟩
 have hb0:Below w.heap.size w W0:=by rw [hW0];exact (Below.refl _ _).alloc (Nat.le_refl _) _
 have hs0:W0.heap.size=w.heap.size+1:=by rw [hW0];simp
 have hg0:W0.heap[w.heap.size]?=some (.cells #[.string ⟨#[]⟩,.string ⟨#[]⟩,.string ⟨#[]⟩,.string ⟨#[]⟩,.int .i64 0,.int .i64 0,.bool false,.int .i64 0,.bool false] 62 (0,0)):=by rw [hW0];exact heap_alloc_new w _
 have HV:Hid (Sl W0 v ms):=h.below hb0
 have HF:Hid (Calls Tryz.prog 218 #[v,.agg #[.string node,.string idn,.string ⟨#[]⟩,.string ⟨#[]⟩,.int .i64 0,.int .i64 0,.bool false,.int .i64 0,.bool false],.func (.func 147) #[] #[]] W0 fun e w'=>∃ (p:Nat) (f:Bool),e=.returned (.tuple #[.int .i64 p,.bool f])∧Below W0.heap.size W0 w'∧At ms ⟨node,idn,⟨#[]⟩,⟨#[]⟩,0,0,false,0,false⟩ p f):=
  find_any ms v ⟨node,idn,⟨#[]⟩,⟨#[]⟩,0,0,false,0,false⟩ W0 HV.out (by omega) hr
 have HW0:Hid (W0=w.alloc (.cells #[.string ⟨#[]⟩,.string ⟨#[]⟩,.string ⟨#[]⟩,.string ⟨#[]⟩,.int .i64 0,.int .i64 0,.bool false,.int .i64 0,.bool false] 62)):=hW0
 clear hW0 h hr
 go_enter Tryz.func179,Tryz.ntmps179
 go_wp2_with fail
 rw [← HW0.out]
 refine HF.out.mono ?_
 rintro e w1 ⟨p,f,rfl,hb1,hat⟩
 have HAT:Hid (At ms ⟨node,idn,⟨#[]⟩,⟨#[]⟩,0,0,false,0,false⟩ p f):=hat
 have HV1:Hid (Sl w1 v ms):=HV.out.below hb1
 have hs1:=hb1.size
 have HB1:Hid (Below w.heap.size w w1):=hb0.trans (hb1.mono (by omega))
 have hg1:w1.heap[w.heap.size]?=some (.cells #[.string ⟨#[]⟩,.string ⟨#[]⟩,.string ⟨#[]⟩,.string ⟨#[]⟩,.int .i64 0,.int .i64 0,.bool false,.int .i64 0,.bool false] 62 (0,0)):=(hb1.block w.heap.size (by omega)).trans hg0
 have t0:w1.cell? ⟨w.heap.size,0,none⟩=some (.string ⟨#[]⟩):=cellsAt hg1 0
 have t1:w1.cell? ⟨w.heap.size,1,none⟩=some (.string ⟨#[]⟩):=cellsAt hg1 1
 have t2:w1.cell? ⟨w.heap.size,2,none⟩=some (.string ⟨#[]⟩):=cellsAt hg1 2
 have t3:w1.cell? ⟨w.heap.size,3,none⟩=some (.string ⟨#[]⟩):=cellsAt hg1 3
 have t4:w1.cell? ⟨w.heap.size,4,none⟩=some (.int .i64 0):=cellsAt hg1 4
 have t5:w1.cell? ⟨w.heap.size,5,none⟩=some (.int .i64 0):=cellsAt hg1 5
 have t6:w1.cell? ⟨w.heap.size,6,none⟩=some (.bool false):=cellsAt hg1 6
 have t7:w1.cell? ⟨w.heap.size,7,none⟩=some (.int .i64 0):=cellsAt hg1 7
 have t8:w1.cell? ⟨w.heap.size,8,none⟩=some (.bool false):=cellsAt hg1 8
 have hfz:∀ o,w1.frozen? ⟨w.heap.size,o,none⟩=false:=fun o=>by simp [World.frozen?,hg1]
 have hlt:w.heap.size < w1.heap.size:=by omega
 clear hat HF HV hg0 hg1 hb0 hb1 HW0 hs0 hs1
 cases f
 ·go_wp2_with fail
  exact bodyPost_ret (v:=.tuple #[.agg #[.string ⟨#[]⟩,.string ⟨#[]⟩,.string ⟨#[]⟩,.string ⟨#[]⟩,.int .i64 0,.int .i64 0,.bool false,.int .i64 0,.bool false],.bool false]) (by simp [results,Tryz.results179,go_sem,t0,t1,t2,t3,t4,t5,t6,t7,t8]) rfl ⟨p,false,rfl,(((((((((HB1.out.setCell (p:=⟨w.heap.size,0,none⟩) (Nat.le_refl _) _).setCell (p:=⟨w.heap.size,1,none⟩) (Nat.le_refl _) _).setCell (p:=⟨w.heap.size,2,none⟩) (Nat.le_refl _) _).setCell (p:=⟨w.heap.size,3,none⟩) (Nat.le_refl _) _).setCell (p:=⟨w.heap.size,4,none⟩) (Nat.le_refl _) _).setCell (p:=⟨w.heap.size,5,none⟩) (Nat.le_refl _) _).setCell (p:=⟨w.heap.size,6,none⟩) (Nat.le_refl _) _).setCell (p:=⟨w.heap.size,7,none⟩) (Nat.le_refl _) _).setCell (p:=⟨w.heap.size,8,none⟩) (Nat.le_refl _) _),HAT.out⟩
 ·have hp:p < ms.length:=(HAT.out.is.1 rfl).1
  obtain ⟨a,cap,rfl,_,hsl⟩:=HV1.out
  obtain ⟨b,off,hab,hgb,hrow⟩:∃ b off,a=some ⟨b,off,none⟩∧b < w1.heap.size∧Row w1 b off ms:=by
   rcases hsl with h | h
   ·rw [h] at hp;simp at hp
   ·exact h
  subst hab
  obtain ⟨c0,c1,c2,c3,c4,c5,c6,c7,c8⟩:=hrow p hp
  clear hrow hsl HV1
  generalize hm:ms.getD p dm=m at *
  have HM:Hid (fnd ms p true=m):=by show fnd ms p true=m;rw [fnd,if_pos rfl,hm]
  clear hm
  go_wp2_with fail
  exact bodyPost_ret (v:=.tuple #[.agg #[.string m.node,.string m.idn,.string m.name,.string m.tag,.int .i64 m.addr,.int .i64 m.port,.bool m.passing,.int .i64 m.version,.bool m.gone],.bool true]) (by simp [results,Tryz.results179,go_sem,t0,t1,t2,t3,t4,t5,t6,t7,t8]) rfl ⟨p,true,by rw [HM.out],(((((((((HB1.out.setCell (p:=⟨w.heap.size,0,none⟩) (Nat.le_refl _) _).setCell (p:=⟨w.heap.size,1,none⟩) (Nat.le_refl _) _).setCell (p:=⟨w.heap.size,2,none⟩) (Nat.le_refl _) _).setCell (p:=⟨w.heap.size,3,none⟩) (Nat.le_refl _) _).setCell (p:=⟨w.heap.size,4,none⟩) (Nat.le_refl _) _).setCell (p:=⟨w.heap.size,5,none⟩) (Nat.le_refl _) _).setCell (p:=⟨w.heap.size,6,none⟩) (Nat.le_refl _) _).setCell (p:=⟨w.heap.size,7,none⟩) (Nat.le_refl _) _).setCell (p:=⟨w.heap.size,8,none⟩) (Nat.le_refl _) _),HAT.out⟩
end Sv
namespace Sv
open Go.RowKit
theorem e_zero {m:Svc} (h:m.e=0):labB m.node=true∧labB m.idn=true∧labB m.name=true∧tagB m.tag=true∧1≤m.version∧m.version≤1000000:=by
 unfold Svc.e at h
 split at h
 ·rename_i h1
  split at h
  ·rename_i h2
   simp [within] at h1 h2
   exact ⟨h1.1,h1.2.1,h1.2.2.1,h1.2.2.2,h2.2.2.1,h2.2.2.2⟩
  ·omega
 ·omega
theorem e_at {ms:List Svc} (h:firstE ms=0) (p:Nat) (hp:p < ms.length):(ms.getD p dm).e=0:=by
 have:=firstE_mem ms h ms[p] (List.getElem_mem hp)
 simpa [List.getD,List.getElem?_eq_getElem hp] using this
theorem fnd_ver {ms:List Svc} {t:Svc} (h:firstE ms=0) {p:Nat} {f:Bool} (hat:At ms t p f):0≤(fnd ms p f).version∧(fnd ms p f).version≤1000000:=by
 cases f
 ·exact ⟨by show (0:Int)≤0;omega,by show (0:Int)≤1000000;omega⟩
 ·have:=(e_zero (e_at h p (hat.is.1 rfl).1)).2.2.2.2
  rw [fnd,if_pos rfl]
  omega
set_option maxHeartbeats 400000 in
theorem aloneE_any (m:Svc) (w:World) :
 Calls Tryz.prog 219 #[.agg #[.string m.node,.string m.idn,.string m.name,.string m.tag,.int .i64 m.addr,.int .i64 m.port,.bool m.passing,.int .i64 m.version,.bool m.gone]] w fun e w'=>e=.returned (.slice (some ⟨w.heap.size+1,0,none⟩) 1 1)∧w'=(w.alloc (.cells #[.string m.node,.string m.idn,.string m.name,.string m.tag,.int .i64 m.addr,.int .i64 m.port,.bool m.passing,.int .i64 m.version,.bool m.gone] 62)).alloc (.cells #[.string m.node,.string m.idn,.string m.name,.string m.tag,.int .i64 m.addr,.int .i64 m.port,.bool m.passing,.int .i64 m.version,.bool m.gone] 62):=by
 go_enter Tryz.func219,Tryz.ntmps219
 go_wp2
 go_ret
 exact ⟨rfl,rfl⟩
set_option maxHeartbeats 1600000 in
theorem replace_any (ms:List Svc) (v:Value) (m:Svc) (w:World) (hv:Sl w v ms) (hm:m.ok) :
 Calls Tryz.prog 180 #[v,.agg #[.string m.node,.string m.idn,.string m.name,.string m.tag,.int .i64 m.addr,.int .i64 m.port,.bool m.passing,.int .i64 m.version,.bool m.gone]] w fun e w'=>∃ v',e=.returned (.tuple #[v',.int .i64 (joinE ms [m])])∧Below w.heap.size w w' ∧
  (joinE ms [m]≠0→v'=.slice none 0 0)∧(joinE ms [m]=0→Own w.heap.size w' v' (joinL ms [m])):=by
 have HV:Hid (Sl w v ms):=hv
 have HM:Hid m.ok:=hm
 obtain ⟨pa,ca,rfl,_,_⟩:=hv
 obtain ⟨W,hW⟩:∃ W,W=((w.alloc (.cells #[.string m.node,.string m.idn,.string m.name,.string m.tag,.int .i64 m.addr,.int .i64 m.port,.bool m.passing,.int .i64 m.version,.bool m.gone] 62)).alloc (.cells #[.string m.node,.string m.idn,.string m.name,.string m.tag,.int .i64 m.addr,.int .i64 m.port,.bool m.passing,.int .i64 m.version,.bool m.gone] 62)).alloc (.cells #[.string m.node,.string m.idn,.string m.name,.string m.tag,.int .i64 m.addr,.int .i64 m.port,.bool m.passing,.int .i64 m.version,.bool m.gone] 62):=⟨_,rfl⟩
 have hbW:Below w.heap.size w W:=by rw [hW];exact (((Below.refl _ _).alloc (Nat.le_refl _) _).alloc (by simp) _).alloc (by simp;omega) _
 have hsW:W.heap.size=w.heap.size+1+1+1:=by rw [hW];simp
 have hgW:W.heap[w.heap.size+1+1]?=some (.cells #[.string m.node,.string m.idn,.string m.name,.string m.tag,.int .i64 m.addr,.int .i64 m.port,.bool m.passing,.int .i64 m.version,.bool m.gone] 62 (0,0)):=by
  have h:=heap_alloc_new ((w.alloc (.cells #[.string m.node,.string m.idn,.string m.name,.string m.tag,.int .i64 m.addr,.int .i64 m.port,.bool m.passing,.int .i64 m.version,.bool m.gone] 62)).alloc (.cells #[.string m.node,.string m.idn,.string m.name,.string m.tag,.int .i64 m.addr,.int .i64 m.port,.bool m.passing,.int .i64 m.version,.bool m.gone] 62)) (.cells #[.string m.node,.string m.idn,.string m.name,.string m.tag,.int .i64 m.addr,.int .i64 m.port,.bool m.passing,.int .i64 m.version,.bool m.gone] 62)
  rw [hW];simpa using h
 have HW:Hid (W=((w.alloc (.cells #[.string m.node,.string m.idn,.string m.name,.string m.tag,.int .i64 m.addr,.int .i64 m.port,.bool m.passing,.int .i64 m.version,.bool m.gone] 62)).alloc (.cells #[.string m.node,.string m.idn,.string m.name,.string m.tag,.int .i64 m.addr,.int .i64 m.port,.bool m.passing,.int .i64 m.version,.bool m.gone] 62)).alloc (.cells #[.string m.node,.string m.idn,.string m.name,.string m.tag,.int .i64 m.addr,.int .i64 m.port,.bool m.passing,.int .i64 m.version,.bool m.gone] 62)):=hW
 clear hW hm
 go_enter Tryz.func180,Tryz.ntmps180
 go_wp2_with (go_at_call 219;refine (aloneE_any m _).mono ?_;rintro e w' ⟨rfl,rfl⟩)
 rw [← HW.out]
 refine (join_any ms [m] (.slice pa ms.length ca) (.slice (some ⟨w.heap.size+1+1,0,none⟩) 1 1) _ _ _ ?ha ?hb ?hpb ?hc0 ?hc1).mono ?_
 case ha=>exact HV.out.below (hbW.alloc hbW.size _)
 case hb=>exact sl_one _ _ _ m HM.out ((Below.heap_alloc _ _ _ (by omega)).trans hgW)
 case hpb=>simp;omega
 case hc0=>exact (cell_topL (by omega)).trans rfl
 case hc1=>exact (cell_topL (by omega)).trans rfl
 rintro e w3 ⟨v',rfl,hb3,hbad,hgood⟩
 have HBAD:Hid (joinE ms [m]≠0→v'=.slice none 0 0):=hbad
 have HB3:Hid (Below w.heap.size w w3):=(hbW.alloc hbW.size _).trans (hb3.mono (by simp;omega))
 have HGOOD:Hid (joinE ms [m]=0→Own w.heap.size w3 v' (joinL ms [m])):=fun h=>(hgood h).mono (by simp;omega)
 clear hbad hgood hb3 hgW hsW hbW
 go_wp2_with fail
 go_ret2
 exact ⟨v',rfl,HB3.out,HBAD.out,HGOOD.out⟩
def reg (ms:List Svc) (p:Nat) (f:Bool) (s:Svc):Svc:={ s with version:=(fnd ms p f).version+1,gone:=false }
theorem reg_ok {ms:List Svc} {p:Nat} {f:Bool} {s:Svc} (h:s.ok):(reg ms p f s).ok:=h
def keyOf (s:Svc):Svc:=⟨s.node,s.idn,⟨#[]⟩,⟨#[]⟩,0,0,false,0,false⟩
set_option maxHeartbeats 3200000 in
set_option maxRecDepth 100000 in
theorem register_good (ms:List Svc) (v:Value) (s:Svc) (w:World) (hv:Sl w v ms) (h0:chk ms=0) (hs:s.ok) (p:Nat) (f:Bool) (hat:At ms (keyOf s) p f) :
 Calls Tryz.prog 135 #[v,.agg #[.string s.node,.string s.idn,.string s.name,.string s.tag,.int .i64 s.addr,.int .i64 s.port,.bool s.passing,.int .i64 s.version,.bool s.gone]] w fun e w'=>∃ v',e=.returned (.tuple #[v',.int .i64 (joinE ms [reg ms p f s])])∧Below w.heap.size w w' ∧
  (joinE ms [reg ms p f s]≠0→v'=.slice none 0 0)∧(joinE ms [reg ms p f s]=0→Own w.heap.size w' v' (joinL ms [reg ms p f s])):=by
 have he:(chk ms != 0)=false:=by simpa using h0
 have hz:=chk_zero h0
 have hb0:Below w.heap.size w (w.alloc (.cells #[.string s.node,.string s.idn,.string s.name,.string s.tag,.int .i64 s.addr,.int .i64 s.port,.bool s.passing,.int .i64 s.version,.bool s.gone] 62)):=(Below.refl _ _).alloc (Nat.le_refl _) _
 have HV:Hid (Sl (w.alloc (.cells #[.string s.node,.string s.idn,.string s.name,.string s.tag,.int .i64 s.addr,.int .i64 s.port,.bool s.passing,.int .i64 s.version,.bool s.gone] 62)) v ms):=hv.below hb0
 have HV0:Hid (Sl w v ms):=hv
 have HR:Hid (Rise ms):=hz.2.1
 have hlen:=hz.1
 have HF:Hid (firstE ms=0):=hz.2.2
 have HAT:Hid (At ms (keyOf s) p f):=hat
 have HS:Hid ((reg ms p f s).ok):=hs
 have HG:Hid (reg ms p f s={ s with version:=(fnd ms p f).version+1,gone:=false }):=rfl
 generalize reg ms p f s=g at *
 clear hv h0 hz hat hs
 go_enter Tryz.func135,Tryz.ntmps135
 go_wp2_with fail
 refine (check_any ms _ _ HV.out).mono ?_
 rintro e w1 ⟨rfl,hb1⟩
 have hs1:w.heap.size+1≤w1.heap.size:=by have:=hb1.size;simpa using this
 have t0:w1.cell? ⟨w.heap.size,0,none⟩=some (.string s.node):=(hb1.cell (p:=⟨w.heap.size,0,none⟩) (by simp)).trans ((cell_topL rfl).trans rfl)
 have t1:w1.cell? ⟨w.heap.size,1,none⟩=some (.string s.idn):=(hb1.cell (p:=⟨w.heap.size,1,none⟩) (by simp)).trans ((cell_topL rfl).trans rfl)
 have t2:w1.cell? ⟨w.heap.size,2,none⟩=some (.string s.name):=(hb1.cell (p:=⟨w.heap.size,2,none⟩) (by simp)).trans ((cell_topL rfl).trans rfl)
 have t3:w1.cell? ⟨w.heap.size,3,none⟩=some (.string s.tag):=(hb1.cell (p:=⟨w.heap.size,3,none⟩) (by simp)).trans ((cell_topL rfl).trans rfl)
 have t4:w1.cell? ⟨w.heap.size,4,none⟩=some (.int .i64 s.addr):=(hb1.cell (p:=⟨w.heap.size,4,none⟩) (by simp)).trans ((cell_topL rfl).trans rfl)
 have t5:w1.cell? ⟨w.heap.size,5,none⟩=some (.int .i64 s.port):=(hb1.cell (p:=⟨w.heap.size,5,none⟩) (by simp)).trans ((cell_topL rfl).trans rfl)
 have t6:w1.cell? ⟨w.heap.size,6,none⟩=some (.bool s.passing):=(hb1.cell (p:=⟨w.heap.size,6,none⟩) (by simp)).trans ((cell_topL rfl).trans rfl)
 have t7:w1.cell? ⟨w.heap.size,7,none⟩=some (.int .i64 s.version):=(hb1.cell (p:=⟨w.heap.size,7,none⟩) (by simp)).trans ((cell_topL rfl).trans rfl)
 have t8:w1.cell? ⟨w.heap.size,8,none⟩=some (.bool s.gone):=(hb1.cell (p:=⟨w.heap.size,8,none⟩) (by simp)).trans ((cell_topL rfl).trans rfl)
 have hfz1:∀ o,w1.frozen? ⟨w.heap.size,o,none⟩=false:=fun o=>(hb1.frozen (p:=⟨w.heap.size,o,none⟩) (by simp)).trans (by simp)
 go_wp2_with fail
 refine (find2_any ms _ s.node s.idn _ (HV.out.below hb1) hlen HR.out).mono ?_
 rintro e w2 ⟨p',f',rfl,hb2,hat'⟩
 obtain ⟨rfl,rfl⟩:=at_uniq HAT.out hat'
 have hver:=fnd_ver HF.out hat'
 have hs2:w1.heap.size≤w2.heap.size:=hb2.size
 have hw2:w.heap.size < w2.heap.size:=by omega
 have r0:w2.cell? ⟨w.heap.size,0,none⟩=some (.string s.node):=(hb2.cell (p:=⟨w.heap.size,0,none⟩) (by show w.heap.size < w1.heap.size;omega)).trans t0
 have r1:w2.cell? ⟨w.heap.size,1,none⟩=some (.string s.idn):=(hb2.cell (p:=⟨w.heap.size,1,none⟩) (by show w.heap.size < w1.heap.size;omega)).trans t1
 have r2:w2.cell? ⟨w.heap.size,2,none⟩=some (.string s.name):=(hb2.cell (p:=⟨w.heap.size,2,none⟩) (by show w.heap.size < w1.heap.size;omega)).trans t2
 have r3:w2.cell? ⟨w.heap.size,3,none⟩=some (.string s.tag):=(hb2.cell (p:=⟨w.heap.size,3,none⟩) (by show w.heap.size < w1.heap.size;omega)).trans t3
 have r4:w2.cell? ⟨w.heap.size,4,none⟩=some (.int .i64 s.addr):=(hb2.cell (p:=⟨w.heap.size,4,none⟩) (by show w.heap.size < w1.heap.size;omega)).trans t4
 have r5:w2.cell? ⟨w.heap.size,5,none⟩=some (.int .i64 s.port):=(hb2.cell (p:=⟨w.heap.size,5,none⟩) (by show w.heap.size < w1.heap.size;omega)).trans t5
 have r6:w2.cell? ⟨w.heap.size,6,none⟩=some (.bool s.passing):=(hb2.cell (p:=⟨w.heap.size,6,none⟩) (by show w.heap.size < w1.heap.size;omega)).trans t6
 have r7:w2.cell? ⟨w.heap.size,7,none⟩=some (.int .i64 s.version):=(hb2.cell (p:=⟨w.heap.size,7,none⟩) (by show w.heap.size < w1.heap.size;omega)).trans t7
 have r8:w2.cell? ⟨w.heap.size,8,none⟩=some (.bool s.gone):=(hb2.cell (p:=⟨w.heap.size,8,none⟩) (by show w.heap.size < w1.heap.size;omega)).trans t8
 have hfz:∀ o,w2.frozen? ⟨w.heap.size,o,none⟩=false:=fun o=>(hb2.frozen (p:=⟨w.heap.size,o,none⟩) (by show w.heap.size < w1.heap.size;omega)).trans (hfz1 o)
 have HB2:Hid (Below w.heap.size w w2):=hb0.trans ((hb1.trans (hb2.mono hb1.size)).mono (by simp))
 have HV2:Hid (Sl w2 v ms):=(HV.out.below hb1).below hb2
 clear hat' hb1 hb2 HV t0 t1 t2 t3 t4 t5 t6 t7 t8 hfz1 hb0
 generalize fnd ms p f=kn at *
 obtain ⟨k_node,k_idn,k_name,k_tag,k_addr,k_port,k_passing,k_version,k_gone⟩:=kn
 simp only at hver
 obtain ⟨hv0,hv1⟩:=hver
 go_wp2_with fail
 have hg:=HG.out
 refine (show Calls Tryz.prog 180 #[v,.agg #[.string g.node,.string g.idn,.string g.name,.string g.tag,.int .i64 g.addr,.int .i64 g.port,.bool g.passing,.int .i64 g.version,.bool g.gone]] _ _→_ from fun h=>by rw [hg] at h;exact h) ?_
 have hBx:=((HB2.out.setCell (p:=⟨w.heap.size,7,none⟩) (Nat.le_refl _) (.int .i64 (k_version+1))).setCell (p:=⟨w.heap.size,8,none⟩) (Nat.le_refl _) (.bool false)).alloc (by simp;omega) (.cells #[.string k_node,.string k_idn,.string k_name,.string k_tag,.int .i64 k_addr,.int .i64 k_port,.bool k_passing,.int .i64 k_version,.bool k_gone] 62)
 refine (replace_any ms v g _ (HV0.out.below hBx) HS.out).mono ?_
 rintro e w3 ⟨v',rfl,hb3,hbad,hgood⟩
 have HBAD:Hid (joinE ms [g]≠0→v'=.slice none 0 0):=hbad
 have HB3:Hid (Below w.heap.size w w3):=hBx.trans (hb3.mono (by simp;omega))
 have HGOOD:Hid (joinE ms [g]=0→Own w.heap.size w3 v' (joinL ms [g])):=fun h=>(hgood h).mono (by simp;omega)
 clear hbad hgood hb3 hBx hg
 go_wp2_with fail
 go_ret2
 exact ⟨v',rfl,HB3.out,HBAD.out,HGOOD.out⟩
def keep (name tag:ByteArray) (m:Svc):Bool:=(m.name.toList == name.toList) && ((tag.toList == []) || (m.tag.toList == tag.toList)) && m.passing && !m.gone
end Sv
namespace Sv
open Go.RowKit
theorem sl_ok {w:World} {v:Value} {ms:List Svc} (h:Sl w v ms):∀ m∈ms,(m).ok:=by obtain ⟨_,_,_,h,_⟩:=h;exact ns_mem h
end Sv
namespace Sv
open Go.RowKit
def s0:Svc:=⟨⟨#[110]⟩,⟨#[105]⟩,⟨#[115]⟩,⟨#[]⟩,0,0,true,0,false⟩
def s1:Svc:=⟨⟨#[110]⟩,⟨#[105]⟩,⟨#[115]⟩,⟨#[]⟩,0,0,true,1,false⟩
end Sv
namespace Sv
open Go.RowKit
end Sv
end Go.Proofs.YtikgjgmgbfjcgaaGreat
