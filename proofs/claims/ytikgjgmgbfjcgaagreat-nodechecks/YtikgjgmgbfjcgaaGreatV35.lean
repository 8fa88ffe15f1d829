import Derived.Test.YtikgjgmgbfjcgaaGreatV18
import Derived.Laws.StructEq
import Derived.Deep.Slices
import Derived.Lib.SmallJoins
import Derived.ProofKit
namespace Go.Proofs.YtikgjgmgbfjcgaaGreat
namespace Sv
open Go.RowKit
theorem join_any (a b:List Svc) (va vb:Value) (pb cap:Nat) (w:World) (ha:Sl w va a) (hb:Sl w vb b) (hpb:pb < w.heap.size) (hc0:w.cell? ⟨pb,0,none⟩=some va) (hc1:w.cell? ⟨pb,1,none⟩=some vb) :
 Calls Tryz.prog 167 #[.slice (some ⟨pb,0,none⟩) 2 cap] w fun e w'=>∃ v',e=.returned (.tuple #[v',.int .i64 (joinE a b)])∧Below w.heap.size w w' ∧
  (joinE a b≠0→v'=.slice none 0 0)∧(joinE a b=0→Own w.heap.size w' v' (joinL a b)):=by
 by_cases h0:chkTwo a b=0
 ·refine (join_good a b va vb pb cap w ha hb hpb hc0 hc1 h0).mono ?_
  rintro e w' ⟨v',rfl,h1,h2,h3⟩
  have hE:joinE a b=if 40 < (joinL a b).length then 2 else 0:=if_pos h0
  refine ⟨v',rfl,h1,fun hne=>h2 ?_,fun hz=>h3 ?_⟩
  ·rw [hE] at hne;split at hne
   ·assumption
   ·exact absurd rfl hne
  ·rw [hE] at hz;split at hz
   ·cases hz
   ·omega
 ·refine (join_bad a b va vb pb cap w ha hb hpb hc0 hc1 h0).mono ?_
  rintro e w' ⟨rfl,h1⟩
  have hE:joinE a b=chkTwo a b:=if_neg h0
  exact ⟨_,rfl,h1,fun _=>rfl,fun hz=>absurd (hE▸hz) h0⟩
set_option maxHeartbeats 800000 in
theorem join2_any (a b:List Svc) (va vb:Value) (w:World) (ha:Sl w va a) (hb:Sl w vb b) :
 Calls Tryz.prog 123 #[va,vb] w fun e w'=>∃ v',e=.returned (.tuple #[v',.int .i64 (joinE a b)])∧Below w.heap.size w w' ∧
  (joinE a b≠0→v'=.slice none 0 0)∧(joinE a b=0→Own w.heap.size w' v' (joinL a b)):=by
 have HA:=ha
 have HB:=hb
 obtain ⟨pa,ca,rfl,_,_⟩:=ha
 obtain ⟨pv,cb,rfl,_,_⟩:=hb
 have hb0:Below w.heap.size w (w.alloc (.cells #[.slice pa a.length ca,.slice pv b.length cb] 24)):=(Below.refl _ _).alloc (Nat.le_refl _) _
 have HA':Hid (Sl (w.alloc (.cells #[.slice pa a.length ca,.slice pv b.length cb] 24)) (.slice pa a.length ca) a):=HA.below hb0
 have HB':Hid (Sl (w.alloc (.cells #[.slice pa a.length ca,.slice pv b.length cb] 24)) (.slice pv b.length cb) b):=HB.below hb0
 clear HA HB
 generalize a.length=na at *
 generalize b.length=nb at *
 go_enter Tryz.func123,Tryz.ntmps123
 go_wp2_with fail
 refine (join_any a b (.slice pa na ca) (.slice pv nb cb) w.heap.size 2 _ HA'.out HB'.out (by simp) (cellsAt (heap_alloc_new w _) 0) (cellsAt (heap_alloc_new w _) 1)).mono ?_
 rintro e w2 ⟨v',rfl,h1,h2,h3⟩
 have H2:Hid (joinE a b≠0→v'=.slice none 0 0):=h2
 have H3:Hid (joinE a b=0→Own (w.alloc (.cells #[.slice pa na ca,.slice pv nb cb] 24)).heap.size w2 v' (joinL a b)):=h3
 clear h2 h3
 go_wp2_with fail
 go_ret2
 exact ⟨v',rfl,hb0.trans (h1.mono (by simp)),H2.out,fun h=>(H3.out h).mono (by simp)⟩
def sameM (x y:Svc):Bool:=x.node.toList == y.node.toList && (x.idn.toList == y.idn.toList && (x.name.toList == y.name.toList && (x.tag.toList == y.tag.toList && (x.addr == y.addr && (x.port == y.port && (x.passing == y.passing && (x.version == y.version && (x.gone == y.gone))))))))
theorem sameM_iff (x y:Svc):sameM x y=true↔x=y:=by
 obtain ⟨x_node,x_idn,x_name,x_tag,x_addr,x_port,x_passing,x_version,x_gone⟩:=x
 obtain ⟨y_node,y_idn,y_name,y_tag,y_addr,y_port,y_passing,y_version,y_gone⟩:=y
 simp only [sameM,Bool.and_eq_true,beq_iff_eq,Svc.mk.injEq,Lib.toList_data]
 constructor
 ·rintro ⟨h0,h1,h2,h3,h4,h5,h6,h7,h8⟩;exact ⟨ba_ext h0,ba_ext h1,ba_ext h2,ba_ext h3,h4,h5,h6,h7,h8⟩
 ·rintro ⟨h0,h1,h2,h3,h4,h5,h6,h7,h8⟩;exact ⟨by rw [h0],by rw [h1],by rw [h2],by rw [h3],h4,h5,h6,h7,h8⟩
section
open Go.ChangeShapes Go.WideShapes Go.ChangeAt
variable {H:Type} {enc:TypeId × Value→H} {w:World} {base:Nat} {spare:Nat→Bool} {held:Bool}
end
end Sv
namespace Sv
open Go.RowKit
end Sv
namespace Sv
open Go.RowKit
theorem e_zero {m:Svc} (h:m.e=0):labB m.node=true∧labB m.idn=true∧labB m.name=true∧tagB m.tag=true∧1≤m.version∧m.version≤1000000:=by
 unfold Svc.e at h
 split at h
 ·rename_i h1
  split at h
  ·rename_i h2
   simp [within] at h1 h2
   exact ⟨h1.1,h1.2.1,h1.2.2.1,h1.2.2.2,h2.2.2.1,h2.2.2.2⟩
  ·omega
 ·omega
def keyOf (s:Svc):Svc:=⟨s.node,s.idn,⟨#[]⟩,⟨#[]⟩,0,0,false,0,false⟩
def keep (name tag:ByteArray) (m:Svc):Bool:=(m.name.toList == name.toList) && ((tag.toList == []) || (m.tag.toList == tag.toList)) && m.passing && !m.gone
end Sv
namespace Sv
open Go.RowKit
end Sv
namespace Sv
open Go.RowKit
def s0:Svc:=⟨⟨#[110]⟩,⟨#[105]⟩,⟨#[115]⟩,⟨#[]⟩,0,0,true,0,false⟩
def s1:Svc:=⟨⟨#[110]⟩,⟨#[105]⟩,⟨#[115]⟩,⟨#[]⟩,0,0,true,1,false⟩
end Sv
end Go.Proofs.YtikgjgmgbfjcgaaGreat
