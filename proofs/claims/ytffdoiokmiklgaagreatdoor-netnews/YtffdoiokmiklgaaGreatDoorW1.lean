import Derived.Test.YtffdoiokmiklgaaGreatDoorProg
import Derived.WalkKit
import Derived.WalkSpells
import Derived.WalkLawsBesides
import Derived.Deep.QuietTactic
import Derived.BigQuiet
import Derived.Lib.Bytealg
import Derived.Shelf.RegionOpenPlain
import Derived.Lib.AppendZerosOnto
import Derived.Lib.Overlaps
import Derived.Laws.CopyRow
import Derived.Laws.Externs
import Derived.Laws.NewBlocks
import Derived.Deep.RegionWith
namespace Go.Proofs.YtffdoiokmiklgaaGreatDoor
open Go.RowKit
def within (n a b:Int):Bool:=decide (a≤n) && decide (n≤b)
def lbB (n:Int):Bool:=(decide (97≤n) && decide (n≤122)) || (decide (48≤n) && decide (n≤57)) || decide (n=45) || decide (n=95)
def labB (s:ByteArray):Bool:=decide (1≤s.size) && decide (s.size≤30) && s.data.toList.all (fun c=>lbB c.toNat)
theorem ret_bool {a b:Bool} (h:a=b):Ending.returned (.bool a)=.returned (.bool b):=by rw [h]
theorem ret_int {k:IntKind} {a b:Int} (h:a=b):Ending.returned (.int k a)=.returned (.int k b):=by rw [h]
theorem take_snoc (s:ByteArray) (k:Nat) (h:k < s.size):s.data.toList.take (k+1)=s.data.toList.take k++[s[k]]:=by
 rw [List.take_succ_eq_append_getElem (by simpa using h)];rfl
theorem take_all (s:ByteArray) (k:Nat) (h:s.size≤k):s.data.toList.take k=s.data.toList:=
 List.take_of_length_le (by simpa using h)
theorem labs_step (s:ByteArray) (k:Nat) (h:k < s.size) (hk:(s.data.toList.take k).all (fun c=>lbB c.toNat)=true) (hb:lbB (s[k].toNat:Int)=true) :
 (s.data.toList.take (k+1)).all (fun c=>lbB c.toNat)=true:=by
 rw [take_snoc s k h,List.all_append,hk];simp [hb]
theorem labs_not (s:ByteArray) (k:Nat) (h:k < s.size) (hb:lbB (s[k].toNat:Int)=false):labB s=false:=by
 have:s.data.toList.all (fun c=>lbB c.toNat)=false:=by
  rw [List.all_eq_false]
  refine ⟨s[k],?_,by simp [hb]⟩
  exact List.getElem_mem (l:=s.data.toList) (n:=k) (by simpa using h)
 simp [labB,this]
set_option maxHeartbeats 400000 in
theorem within_any (n a b:Int) (w:World) :
 Calls Tryz.prog 76 #[.int .i64 n,.int .i64 a,.int .i64 b] w fun e w'=>e=.returned (.bool (within n a b))∧w'=w:=by
 go_enter Tryz.func76,Tryz.ntmps76
 go_wp2
 all_goals
  go_ret
  exact ⟨ret_bool (by unfold within;rw [Bool.eq_iff_iff];simp;try omega),rfl⟩
set_option maxHeartbeats 400000 in
theorem between_any (n a b:Int) (w:World) :
 Calls Tryz.prog 22 #[.int .i64 n,.int .i64 a,.int .i64 b] w fun e w'=>e=.returned (.bool (within n a b))∧w'=w:=by
 go_enter Tryz.func22,Tryz.ntmps22
 go_wp2
 all_goals
  go_ret
  exact ⟨ret_bool (by unfold within;rw [Bool.eq_iff_iff];simp;try omega),rfl⟩
set_option maxHeartbeats 400000 in
theorem address_any (n:Int) (w:World) :
 Calls Tryz.prog 39 #[.int .i64 n] w fun e w'=>e=.returned (.bool (within n 0 4294967295))∧w'=w:=by
 go_enter Tryz.func39,Tryz.ntmps39
 go_wp2_with (go_at_call 76;refine (within_any _ _ _ _).mono ?_;rintro e w' ⟨rfl,rfl⟩)
 go_ret
 exact ⟨rfl,rfl⟩
set_option maxHeartbeats 400000 in
theorem isAddress_any (n:Int) (w:World) :
 Calls Tryz.prog 82 #[.int .i64 n] w fun e w'=>e=.returned (.bool (within n 0 4294967295))∧w'=w:=by
 go_enter Tryz.func82,Tryz.ntmps82
 go_wp2_with (go_at_call 22;refine (between_any _ _ _ _).mono ?_;rintro e w' ⟨rfl,rfl⟩)
 go_ret
 exact ⟨rfl,rfl⟩
set_option maxHeartbeats 800000 in
theorem labelByte_any (n:Int) (w:World) :
 Calls Tryz.prog 120 #[.int .u8 n] w fun e w'=>e=.returned (.bool (lbB n))∧w'=w:=by
 go_enter Tryz.func120,Tryz.ntmps120
 go_wp2
 all_goals
  go_ret
  exact ⟨ret_bool (by unfold lbB;rw [Bool.eq_iff_iff];simp;try omega),rfl⟩
set_option maxHeartbeats 800000 in
theorem label_any (s:ByteArray) (w:World) (hs:s.size≤maxLen) :
 Calls Tryz.prog 75 #[.string s] w fun e w'=>e=.returned (.bool (labB s))∧w'=w:=by
 unfold maxLen at hs
 by_cases hz:within (s.size:Int) 1 30=true
 ·have hz':1≤s.size∧s.size≤30:=by simp [within] at hz;omega
  go_enter Tryz.func75,Tryz.ntmps75
  go_wp2_with (go_at_call 76;refine (within_any _ _ _ _).mono ?_;rintro e w' ⟨rfl,rfl⟩;rw [hz])
  go_loop [10] (fun i=>∃ k:Nat,k≤s.size∧i=.int .i64 k∧(s.data.toList.take k).all (fun c=>lbB c.toNat)=true) (fun i=>s.size - (intOf i).toNat)
  case atStart=>exact ⟨0,Nat.zero_le _,rfl,rfl⟩
  case round=>
   obtain ⟨k,hk,rfl,hall⟩:=hrel
   have HA:Hid ((s.data.toList.take k).all (fun c=>lbB c.toNat)=true):=hall
   clear hall
   by_cases hlt:k < s.size
   ·by_cases hb:lbB (s[k].toNat:Int)=true
    ·go_wp2_with (go_at_call 120;refine (labelByte_any _ _).mono ?_;rintro e w' ⟨rfl,rfl⟩;rw [hb])
     go_round
     case rel=>exact ⟨k+1,by omega,by go_num,labs_step s k hlt HA.out hb⟩
     case measure=>simp [intOf];omega
    ·have hb':lbB (s[k].toNat:Int)=false:=by simpa using hb
     go_wp2_with (go_at_call 120;refine (labelByte_any _ _).mono ?_;rintro e w' ⟨rfl,rfl⟩;rw [hb'])
     go_ret
     exact ⟨ret_bool (labs_not s k hlt hb').symm,rfl⟩
   ·go_wp2
    go_ret
    have h2:=HA.out
    rw [take_all s k (by omega)] at h2
    exact ⟨ret_bool (by simp [labB,h2,hz'.1,hz'.2]),rfl⟩
 ·have hz':within (s.size:Int) 1 30=false:=by simpa using hz
  go_enter Tryz.func75,Tryz.ntmps75
  go_wp2_with (go_at_call 76;refine (within_any _ _ _ _).mono ?_;rintro e w' ⟨rfl,rfl⟩;rw [hz'])
  go_ret
  refine ⟨ret_bool ?_,rfl⟩
  symm
  simp only [within,Bool.and_eq_false_iff,decide_eq_false_iff_not] at hz'
  simp only [labB,Bool.and_eq_false_iff,decide_eq_false_iff_not]
  rcases hz' with h | h
  ·exact .inl (.inl (by omega))
  ·exact .inl (.inr (by omega))
theorem lbB_iff (n:Int):lbB n=true↔(97≤n∧n≤122)∨(48≤n∧n≤57)∨n=45∨n=95:=by
 unfold lbB;simp [or_assoc]
theorem lbB_not (n:Int):lbB n=false↔¬ ((97≤n∧n≤122)∨(48≤n∧n≤57)∨n=45∨n=95):=by
 rw [← lbB_iff];simp
set_option maxHeartbeats 1600000 in
theorem isLabel_any (s:ByteArray) (w:World) (hs:s.size≤maxLen) :
 Calls Tryz.prog 41 #[.string s] w fun e w'=>e=.returned (.bool (labB s))∧w'=w:=by
 unfold maxLen at hs
 go_enter Tryz.func41,Tryz.ntmps41
 go_wp2
 go_loop [3] (fun i=>∃ k:Nat,k≤s.size∧i=.int .i64 k∧(s.data.toList.take k).all (fun c=>lbB c.toNat)=true) (fun i=>s.size - (intOf i).toNat)
 case atStart=>exact ⟨0,Nat.zero_le _,rfl,rfl⟩
 case round=>
  obtain ⟨k,hk,rfl,hall⟩:=hrel
  have HA:Hid ((s.data.toList.take k).all (fun c=>lbB c.toNat)=true):=hall
  clear hall
  by_cases hlt:k < s.size
  ·have hstep:=labs_step s k hlt HA.out
   have hnot:=labs_not s k hlt
   have H1:Hid (lbB (s[k].toNat:Int)=true→(s.data.toList.take (k+1)).all (fun c=>lbB c.toNat)=true):=hstep
   have H2:Hid (lbB (s[k].toNat:Int)=false→labB s=false):=hnot
   clear hstep hnot
   go_wp2
   all_goals first
    | (go_ret
       exact ⟨ret_bool (H2.out ((lbB_not _).2 (by simp at *;omega))).symm,rfl⟩)
    | (refine ⟨⟨k+1,by omega,by go_num,H1.out ((lbB_iff _).2 ?_)⟩,by simp [intOf];omega⟩
       simp at *
       omega)
  ·have h2:=HA.out
   rw [take_all s k (by omega)] at h2
   have H3:Hid (s.data.toList.all (fun c=>lbB c.toNat)=true):=h2
   clear h2
   go_wp2
   all_goals
    go_ret
    refine ⟨ret_bool ?_,rfl⟩
    unfold labB
    rw [H3.out,Bool.eq_iff_iff]
    simp
    try omega
theorem bcell {W w1:World} (hb:Below W.heap.size W w1):(∀ b o,b < W.heap.size→w1.cell? ⟨b,o,none⟩=W.cell? ⟨b,o,none⟩)∧(∀ b o,b < W.heap.size→w1.frozen? ⟨b,o,none⟩=W.frozen? ⟨b,o,none⟩):=
 ⟨fun b o h=>hb.cell (p:=⟨b,o,none⟩) h,fun b o h=>hb.frozen (p:=⟨b,o,none⟩) h⟩
def less (a b:ByteArray):Bool:=Op.bytesLess a.toList b.toList
theorem bl_irrefl:∀ a:List UInt8,Op.bytesLess a a=false
 | []=>rfl
 | x :: r=>by simp [Op.bytesLess,bl_irrefl r]
theorem bl_total:∀ a b:List UInt8,(!(Op.bytesLess a b))=(Op.bytesLess b a || b == a)
 | [],[]=>rfl
 | [],_ :: _=>rfl
 | _ :: _,[]=>rfl
 | x :: r,y :: t=>by
   have:=bl_total r t
   by_cases h1:x < y
   ·have h2:¬ y < x:=by rw [UInt8.lt_iff_toNat_lt] at *;omega
    have h3:¬ y=x:=by rintro rfl;rw [UInt8.lt_iff_toNat_lt] at *;omega
    simp [Op.bytesLess,h1,h2,h3]
   ·by_cases h2:y < x
    ·have h3:¬ y=x:=by rintro rfl;rw [UInt8.lt_iff_toNat_lt] at *;omega
     have h4:¬ x=y:=fun h=>h3 h.symm
     simp [Op.bytesLess,h1,h2,h4]
    ·have h3:y=x:=by
      apply UInt8.toNat_inj.1
      rw [UInt8.lt_iff_toNat_lt] at *;omega
     subst h3
     simp [Op.bytesLess]
     simpa using this
def cmpI (a b:ByteArray):Int:=Lib.compareBytes a.data.toList b.data.toList
theorem cmpstring_run (a b:ByteArray) (w:World):(callFunc 220 #[.string a,.string b]).run Tryz.prog w=.ok (.value (.int .i64 (cmpI a b))) w:=by
 rw [run_callFunc_extern Tryz.func220 (by kernel_rfl) (by kernel_rfl) (by kernel_rfl) (e:=Extern.BytealgCompare.compare) (by kernel_rfl),Lib.run_compareString]
 rfl
set_option maxHeartbeats 400000 in
theorem compare_any (a b:ByteArray) (w:World) :
 Calls Tryz.prog 99 #[.string a,.string b] w fun e w'=>e=.returned (.int .i64 (cmpI a b))∧w'=w:=by
 have hc:=cmpstring_run
 go_enter Tryz.func99,Tryz.ntmps99
 go_wp2
 go_ret
 exact ⟨rfl,rfl⟩
theorem cb_lt:∀ a b:List UInt8,Lib.compareBytes a b < 0↔Op.bytesLess a b=true
 | [],[]=>by simp [Lib.compareBytes,Op.bytesLess]
 | [],_ :: _=>by simp [Lib.compareBytes,Op.bytesLess]
 | _ :: _,[]=>by simp [Lib.compareBytes,Op.bytesLess]
 | x :: r,y :: t=>by
   have ih:=cb_lt r t
   by_cases h1:x < y
   ·simp [Lib.compareBytes,Op.bytesLess,h1]
   ·by_cases h2:y < x
    ·have h3:¬ x=y:=by rintro rfl;exact h1 h2
     simp [Lib.compareBytes,Op.bytesLess,h1,h2,h3]
    ·have h3:x=y:=by
      apply UInt8.toNat_inj.1
      rw [UInt8.lt_iff_toNat_lt] at *;omega
     subst h3
     simpa [Lib.compareBytes,Op.bytesLess] using ih
theorem cb_eq:∀ a b:List UInt8,Lib.compareBytes a b=0↔a=b
 | [],[]=>by simp [Lib.compareBytes]
 | [],_ :: _=>by simp [Lib.compareBytes]
 | _ :: _,[]=>by simp [Lib.compareBytes]
 | x :: r,y :: t=>by
   have ih:=cb_eq r t
   by_cases h1:x < y
   ·have h3:¬ x=y:=by rintro rfl;rw [UInt8.lt_iff_toNat_lt] at *;omega
    simp [Lib.compareBytes,h1,h3]
   ·by_cases h2:y < x
    ·have h3:¬ x=y:=by rintro rfl;exact h1 h2
     simp [Lib.compareBytes,h1,h2,h3]
    ·have h3:x=y:=by
      apply UInt8.toNat_inj.1
      rw [UInt8.lt_iff_toNat_lt] at *;omega
     subst h3
     simpa [Lib.compareBytes] using ih
theorem bl_trans:∀ a b c:List UInt8,Op.bytesLess a b=true→Op.bytesLess b c=true→Op.bytesLess a c=true
 | [],[],_,h,_=>by simp [Op.bytesLess] at h
 | [],_ :: _,[],_,h=>by simp [Op.bytesLess] at h
 | [],_ :: _,_ :: _,_,_=>by simp [Op.bytesLess]
 | _ :: _,[],_,h,_=>by simp [Op.bytesLess] at h
 | _ :: _,_ :: _,[],_,h=>by simp [Op.bytesLess] at h
 | x :: r,y :: t,z :: u,h1,h2=>by
   have ih:=bl_trans r t u
   simp only [Op.bytesLess,Bool.or_eq_true,Bool.and_eq_true,decide_eq_true_eq,beq_iff_eq] at h1 h2 ⊢
   rcases h1 with h1 | ⟨rfl,h1⟩
   ·rcases h2 with h2 | ⟨rfl,h2⟩
    ·left;rw [UInt8.lt_iff_toNat_lt] at *;omega
    ·left;exact h1
   ·rcases h2 with h2 | ⟨rfl,h2⟩
    ·left;exact h2
    ·right;exact ⟨rfl,ih h1 h2⟩
theorem ba_ext {a b:ByteArray} (h:a.data.toList=b.data.toList):a=b:=by
 obtain ⟨⟨la⟩⟩:=a;obtain ⟨⟨lb⟩⟩:=b;simp at h;subst h;rfl
theorem cmpI_lt (a b:ByteArray):cmpI a b < 0↔less a b=true:=by
 unfold cmpI less;rw [Lib.toList_data,Lib.toList_data];exact cb_lt _ _
theorem cmpI_eq (a b:ByteArray):cmpI a b=0↔a=b:=by
 unfold cmpI;rw [cb_eq];exact ⟨ba_ext,fun h=>by rw [h]⟩
theorem less_trans {a b c:ByteArray} (h1:less a b=true) (h2:less b c=true):less a c=true:=bl_trans _ _ _ h1 h2
theorem less_irrefl (a:ByteArray):less a a=false:=bl_irrefl _
theorem less_total (a b:ByteArray):less a b=true∨a=b∨less b a=true:=by
 have h:=bl_total a.toList b.toList
 unfold less
 cases h1:Op.bytesLess a.toList b.toList
 ·rw [h1] at h
  cases h2:Op.bytesLess b.toList a.toList
  ·rw [h2] at h
   right;left
   have:b.toList=a.toList:=by simpa using h.symm
   rw [Lib.toList_data,Lib.toList_data] at this
   exact (ba_ext this).symm
  ·right;right;rfl
 ·left;rfl
theorem less_asymm {a b:ByteArray} (h1:less a b=true):less b a=false:=by
 cases h:less b a
 ·rfl
 ·have:=less_trans h1 h;rw [less_irrefl] at this;cases this
theorem cmpI_gt (a b:ByteArray):0 < cmpI a b↔less b a=true:=by
 have h1:=cmpI_lt a b
 have h2:=cmpI_eq a b
 rcases less_total a b with h | rfl | h
 ·have:=h1.2 h
  rw [less_asymm h]
  simp;omega
 ·rw [less_irrefl];have:=h2.2 rfl;simp;omega
 ·rw [h]
  have h3:¬ cmpI a b < 0:=fun hh=>by rw [h1,less_asymm h] at hh;cases hh
  have h4:¬ cmpI a b=0:=fun hh=>by rw [h2] at hh;subst hh;rw [less_irrefl] at h;cases h
  simp;omega
theorem run_copy_k {P:Program} (w:World) (dT sT ty elem:TypeId) (g o dLen dCap:Nat) (a:Addr) (sLen sCap k:Nat) (cur:Array Value) (t:TypeId) (cs:List Value)
 (hu:P.underlying dT=some (.slice elem)) (hs:(P.info? elem).map (·.size)=some k)
 (hg:w.heap[g]?=some (.cells cur t (0,0))) (hn:cs.length=Nat.min sLen dLen * k)
 (hsrc:∀ j v,cs[j]?=some v→w.cell? (a.add j)=some v) (hfit:o+cs.length≤cur.size) (h1:∀ v∈cs,v.oneCell'=true) :
 (Builtin.copy_ #[dT,sT] ty #[.slice (some ⟨g,o,none⟩) dLen dCap,.slice (some a) sLen sCap]).run P w =
   .ok (goInt (Nat.min sLen dLen)) (w.setRow g (cur.toList.take o++cs++cur.toList.drop (o+cs.length)).toArray):=by
 have hl:=run_loadCells_list (P:=P) w a cs hsrc
 have hst:=run_storeCells_at P g o t cs 0 cur w hg (by simpa using hfit) h1
 cases hq:P.info? elem with
 | none=>simp [hq] at hs
 | some i=>
   have hi:i.size=k:=by simpa [hq] using hs
   simp [Builtin.copy_,run_underlying hu,Builtin.lenOf,Builtin.firstCells,sizeOf,typeInfo,hq,hi,← hn,hl,hst]
theorem step_copy_runM {P:Program} {ops:Array Oper} {o:Oper} {a:Act} {w:World} {K:Act→World→Prop} {Q:Exit→Act→World→Prop} {E:Prop}
 (hg:o.guard=none) (d x:Operand) (dT sT:TypeId) (hop:o.op=Op.call { callee:=Callee.builtin Builtin.copy,args:=#[d,x],argTypes:=#[dT,sT] })
 (v u:Value) (hd:a.eval d=v) (hx:a.eval x=u) {v':Value} {w':World} (hr:(Builtin.copy_ #[dT,sT] o.type #[v,u]).run P w=.ok v' w') (hK:K (a.put o.dst v') w') :
 if Region.wanted o (yielded ops a.tmps)=true then Oper.wp P o a w K Q else E:=by
 have hw:Region.wanted o (yielded ops a.tmps)=true:=by simp [Region.wanted,hg]
 rw [if_pos hw]
 unfold Oper.wp
 simp [execOp,hop,resolve,invoke,builtin,hd,hx,hr,Result.andThen]
 exact hK
theorem cellsAt {w:World} {g:Nat} {cur:Array Value} {t:TypeId} {fr:Nat × Nat} (hg:w.heap[g]?=some (.cells cur t fr)) (o:Nat):w.cell? ⟨g,o,none⟩=cur[o]?:=by
 simp [World.cell?,hg]
theorem beq_name {a b:ByteArray} (h:a≠b):(a.toList == b.toList)=false∧¬ a.toList=b.toList:=by
 have h2:¬ a.toList=b.toList:=fun e=>h (ba_ext (by rw [Lib.toList_data,Lib.toList_data] at e;exact e))
 exact ⟨by simpa using h2,h2⟩
theorem cell_topL {W:World} {cs:Array Value} {t:TypeId} {g k:Nat} (hg:g=W.heap.size):(W.alloc (.cells cs t)).cell? ⟨g,k,none⟩=cs[k]?:=by subst hg;simp
theorem grown_any {w w':World} (h:w.grownBy w' none) (row:Option Nat):w.grownBy w' row:=⟨h.os,h.tape,h.output,h.size,fun k hk _=>h.block k hk (by simp)⟩
end Go.Proofs.YtffdoiokmiklgaaGreatDoor
namespace Go.Proofs.YtffdoiokmiklgaaGreatDoor
namespace RL
section
variable {α:Type}
structure Keyed (o:α→α→Int):Prop where
 refl:∀ a,o a a=0
 gt:∀ a b,0 < o a b↔o b a < 0
 trans:∀ a b c,o a b < 0→o b c < 0→o a c < 0
 left:∀ a b c,o a b=0→o a c=o b c
 right:∀ a b c,o a b=0→o c a=o c b
theorem Keyed.symm {o:α→α→Int} (h:Keyed o) {a b:α} (e:o a b=0):o b a=0:=by
 have h1:=h.gt a b
 have h2:=h.gt b a
 rcases Int.lt_trichotomy (o b a) 0 with hl | he | hg
 ·have:=h1.2 hl;omega
 ·exact he
 ·have:=h2.1 hg;omega
theorem Keyed.eqt {o:α→α→Int} (h:Keyed o) {a b c:α} (e:o a b=0) (f:o b c=0):o a c=0:=by rw [h.left a b c e];exact f
variable (o:α→α→Int) (nw:α→α→Bool) (d:α)
abbrev Rise (ms:List α):Prop:=ms.Pairwise fun a b=>o a b < 0
def risesB:List α→Bool
 | []=>true
 | [_]=>true
 | a :: b :: r=>decide (o a b < 0) && risesB (b :: r)
theorem rise_of (hk:Keyed o):∀ ms:List α,risesB o ms=true→Rise o ms
 | [],_=>.nil
 | [x],_=>by simp [Rise]
 | a :: b :: r,h=>by
   rw [risesB,Bool.and_eq_true,decide_eq_true_eq] at h
   have ih:=rise_of hk (b :: r) h.2
   refine List.pairwise_cons.2 ⟨fun c hc=>?_,ih⟩
   rcases List.mem_cons.1 hc with rfl | hc
   ·exact h.1
   ·exact hk.trans _ _ _ h.1 (List.rel_of_pairwise_cons ih hc)
theorem rises_of:∀ ms:List α,Rise o ms→risesB o ms=true
 | [],_=>rfl
 | [x],_=>rfl
 | a :: b :: r,h=>by
   rw [risesB,Bool.and_eq_true,decide_eq_true_eq]
   exact ⟨List.rel_of_pairwise_cons h (by simp),rises_of (b :: r) (List.Pairwise.of_cons h)⟩
theorem rises_all:∀ ms:List α,(∀ j,j+1 < ms.length→o (ms.getD j d) (ms.getD (j+1) d) < 0)→risesB o ms=true
 | [],_=>rfl
 | [x],_=>rfl
 | a :: b :: r,h=>by
   rw [risesB,Bool.and_eq_true,decide_eq_true_eq]
   refine ⟨by have:=h 0 (by simp);simpa using this,rises_all (b :: r) fun j hj=>?_⟩
   have:=h (j+1) (by simpa using hj)
   simpa using this
theorem rises_get:∀ ms:List α,risesB o ms=true→∀ j,j+1 < ms.length→o (ms.getD j d) (ms.getD (j+1) d) < 0
 | [],_,j,hj=>by simp at hj
 | [x],_,j,hj=>by simp at hj
 | a :: b :: r,h,0,_=>by
   rw [risesB,Bool.and_eq_true,decide_eq_true_eq] at h
   simpa using h.1
 | a :: b :: r,h,j+1,hj=>by
   rw [risesB,Bool.and_eq_true,decide_eq_true_eq] at h
   have:=rises_get (b :: r) h.2 j (by simpa using hj)
   simpa using this
theorem getD_el {ms:List α} {i:Nat} (h:i < ms.length):ms.getD i d=ms[i]:=by simp [List.getD,List.getElem?_eq_getElem h]
theorem rise_lt {ms:List α} (h:Rise o ms) {i j:Nat} (hij:i < j) (hj:j < ms.length):o (ms.getD i d) (ms.getD j d) < 0:=by
 rw [getD_el d (show i < ms.length by omega),getD_el d hj]
 exact List.pairwise_iff_getElem.1 h i j (by omega) hj hij
theorem rise_mono (hk:Keyed o) {ms:List α} (h:Rise o ms) (t:α):∀ i j,i≤j→j < ms.length→o (ms.getD j d) t < 0→o (ms.getD i d) t < 0:=by
 intro i j hij hj hlt
 rcases Nat.lt_or_eq_of_le hij with hlt' | rfl
 ·exact hk.trans _ _ _ (rise_lt o d h hlt' hj) hlt
 ·exact hlt
structure At (ms:List α) (t:α) (p:Nat) (f:Bool):Prop where
 le:p≤ms.length
 lo:∀ j,j < p→o (ms.getD j d) t < 0
 hi:∀ j,p≤j→j < ms.length→0≤o (ms.getD j d) t
 is:f=true↔p < ms.length∧o (ms.getD p d) t=0
theorem at_any (hk:Keyed o) (ms:List α) (hr:Rise o ms) (t:α):∃ p f,At o d ms t p f:=by
 induction ms with
 | nil=>exact ⟨0,false,by simp,fun j h=>by omega,fun j h h2=>by simp at h2,by simp⟩
 | cons x r ih=>
   have hx:=List.pairwise_cons.1 hr
   by_cases hlt:o x t < 0
   ·obtain ⟨p,f,h⟩:=ih hx.2
    refine ⟨p+1,f,by have:=h.le;simpa using this,fun j hj=>?_,fun j hj hl=>?_,by have:=h.is;simpa using this⟩
    ·cases j with
     | zero=>simpa using hlt
     | succ j=>have:=h.lo j (by omega);simpa using this
    ·cases j with
     | zero=>omega
     | succ j=>have:=h.hi j (by omega) (by simpa using hl);simpa using this
   ·refine ⟨0,decide (o x t=0),by simp,fun j hj=>by omega,fun j _ hl=>?_,by simp⟩
    apply Int.not_lt.1
    intro hq
    have:=rise_mono o d hk hr t 0 j (by omega) hl hq
    simp at this
    omega
theorem at_uniq {ms:List α} {t:α} {p q:Nat} {f e:Bool} (h:At o d ms t p f) (k:At o d ms t q e):p=q∧f=e:=by
 have hpq:p=q:=by
  rcases Nat.lt_trichotomy p q with hlt | rfl | hlt
  ·have h1:=k.lo p hlt
   have h2:=h.hi p (Nat.le_refl _) (by have:=k.le;omega)
   omega
  ·rfl
  ·have h1:=h.lo q hlt
   have h2:=k.hi q (Nat.le_refl _) (by have:=h.le;omega)
   omega
 subst hpq
 refine ⟨rfl,?_⟩
 rw [Bool.eq_iff_iff,h.is,k.is]
def hear:List α→α→List α
 | [],m=>[m]
 | x :: r,m=>if o x m < 0 then x :: hear r m else if o x m=0 then (if nw m x=true then m :: r else x :: r) else m :: x :: r
theorem hear_at:∀ (ms:List α) (m:α) (p:Nat) (f:Bool),At o d ms m p f →
 hear o nw ms m=if f=true then (if nw m (ms.getD p d)=true then ms.set p m else ms) else ms.take p++m :: ms.drop p
 | [],m,p,f,h=>by
   have hp:p=0:=by have:=h.le;simpa using this
   subst hp
   have hf:f=false:=by
    cases f
    ·rfl
    ·have:=h.is.1 rfl;simp at this
   subst hf
   simp [hear]
 | x :: r,m,0,f,h=>by
   have h0:=h.hi 0 (Nat.le_refl _) (by simp)
   simp only [List.getD_cons_zero] at h0
   rw [hear,if_neg (by omega)]
   cases f
   ·have hne:¬ o x m=0:=fun e=>by have:=h.is.2 ⟨by simp,by simpa using e⟩;cases this
    rw [if_neg hne];simp
   ·have he:=(h.is.1 rfl).2
    simp only [List.getD_cons_zero] at he
    rw [if_pos he]
    simp only [List.getD_cons_zero,List.set_cons_zero,if_pos]
 | x :: r,m,p+1,f,h=>by
   have h0:=h.lo 0 (by omega)
   simp only [List.getD_cons_zero] at h0
   have hr:At o d r m p f:=⟨by have:=h.le;simpa using this,fun j hj=>by have:=h.lo (j+1) (by omega);simpa using this,
    fun j hj hl=>by have:=h.hi (j+1) (by omega) (by simpa using hl);simpa using this,by have:=h.is;simpa using this⟩
   rw [hear,if_pos h0,hear_at r m p f hr]
   cases f
   ·simp
   ·simp only [if_pos,List.getD_cons_succ,List.set_cons_succ]
    split<;>rfl
theorem hear_mem:∀ (ms:List α) (m x:α),x∈hear o nw ms m→x=m∨x∈ms
 | [],m,x,h=>by simp [hear] at h;exact .inl h
 | y :: r,m,x,h=>by
   rw [hear] at h
   split at h
   ·rcases List.mem_cons.1 h with rfl | h
    ·exact .inr (by simp)
    ·rcases hear_mem r m x h with h | h
     ·exact .inl h
     ·exact .inr (by simp [h])
   ·split at h
    ·split at h
     ·rcases List.mem_cons.1 h with h | h
      ·exact .inl h
      ·exact .inr (by simp [h])
     ·exact .inr h
    ·rcases List.mem_cons.1 h with h | h
     ·exact .inl h
     ·exact .inr h
theorem hear_rise (hk:Keyed o):∀ (ms:List α) (m:α),Rise o ms→Rise o (hear o nw ms m)
 | [],m,_=>by simp [hear]
 | x :: r,m,h=>by
   have hx:=List.pairwise_cons.1 h
   rw [hear]
   split
   ·rename_i hlt
    refine List.pairwise_cons.2 ⟨fun y hy=>?_,hear_rise hk r m hx.2⟩
    rcases hear_mem o nw r m y hy with rfl | hy
    ·exact hlt
    ·exact hx.1 y hy
   ·rename_i hlt
    split
    ·rename_i he
     split
     ·exact List.pairwise_cons.2 ⟨fun y hy=>by rw [← hk.left x m y he];exact hx.1 y hy,hx.2⟩
     ·exact h
    ·rename_i he
     have hg:o m x < 0:=(hk.gt x m).1 (by omega)
     refine List.pairwise_cons.2 ⟨fun y hy=>?_,h⟩
     rcases List.mem_cons.1 hy with rfl | hy
     ·exact hg
     ·exact hk.trans _ _ _ hg (hx.1 y hy)
theorem hear_len:∀ (ms:List α) (m:α),ms.length≤(hear o nw ms m).length∧(hear o nw ms m).length≤ms.length+1
 | [],m=>by simp [hear]
 | x :: r,m=>by
   have:=hear_len r m
   rw [hear]
   split
   ·simp;omega
   ·split
    ·split<;>simp
    ·simp
def join (a b:List α):List α:=b.foldl (hear o nw) a
theorem join_rise (hk:Keyed o):∀ (b a:List α),Rise o a→Rise o (join o nw a b)
 | [],_,h=>h
 | m :: r,a,h=>join_rise hk r (hear o nw a m) (hear_rise o nw hk a m h)
theorem join_len:∀ (b a:List α),(join o nw a b).length≤a.length+b.length
 | [],_=>by simp [join]
 | m :: r,a=>by
   have h1:=join_len r (hear o nw a m)
   have h2:=hear_len o nw a m
   simp only [join,List.foldl_cons,List.length_cons] at *
   omega
theorem join_mem:∀ (b a:List α) (x:α),x∈join o nw a b→x∈a∨x∈b
 | [],_,_,h=>.inl h
 | m :: r,a,x,h=>by
   rcases join_mem r (hear o nw a m) x h with h | h
   ·rcases hear_mem o nw a m x h with rfl | h
    ·exact .inr (by simp)
    ·exact .inl h
   ·exact .inr (by simp [h])
theorem join_take (a b:List α) (j:Nat) (hj:j < b.length):join o nw a (b.take (j+1))=hear o nw (join o nw a (b.take j)) (b.getD j d):=by
 rw [getD_el d hj,List.take_succ_eq_append_getElem hj,join,List.foldl_append,join]
 rfl
theorem hear_last:∀ (a:List α) (m:α),(∀ x∈a,o x m < 0)→hear o nw a m=a++[m]
 | [],_,_=>rfl
 | x :: r,m,h=>by
   rw [hear,if_pos (h x (by simp)),hear_last r m (fun y hy=>h y (by simp [hy]))]
   rfl
theorem join_app:∀ (b a:List α),Rise o (a++b)→join o nw a b=a++b
 | [],a,_=>by simp [join]
 | m :: r,a,h=>by
   have h1:hear o nw a m=a++[m]:=hear_last o nw a m fun x hx=>(List.pairwise_append.1 h).2.2 x hx m (by simp)
   have h2:=join_app r (a++[m]) (by simpa using h)
   simp only [join,List.foldl_cons,h1] at h2 ⊢
   rw [h2];simp
theorem join_nil (b:List α) (h:Rise o b):join o nw [] b=b:=join_app o nw b [] h
def put (ms:List α) (m:α) (p:Nat) (f:Bool):List α:=ms.take p++m :: ms.drop (if f=true then p+1 else p)
end
end RL
namespace Sv
open Go.RowKit
structure Svc where
 node:ByteArray
 idn:ByteArray
 name:ByteArray
 tag:ByteArray
 addr:Int
 port:Int
 passing:Bool
 version:Int
 gone:Bool
def dm:Svc:=⟨ByteArray.empty,ByteArray.empty,ByteArray.empty,ByteArray.empty,0,0,false,0,false⟩
def Svc.ok (m:Svc):Prop:=m.node.size≤maxLen∧m.idn.size≤maxLen∧m.name.size≤maxLen∧m.tag.size≤maxLen
theorem dm_ok:dm.ok:=by simp [Svc.ok,dm]
def Row (w:World) (b off:Nat) (ms:List Svc):Prop:=∀ j,j < ms.length →
 w.cell? ⟨b,off+j * 9,none⟩=some (.string (ms.getD j dm).node)∧w.cell? ⟨b,off+j * 9+1,none⟩=some (.string (ms.getD j dm).idn)∧w.cell? ⟨b,off+j * 9+2,none⟩=some (.string (ms.getD j dm).name)∧w.cell? ⟨b,off+j * 9+3,none⟩=some (.string (ms.getD j dm).tag)∧w.cell? ⟨b,off+j * 9+4,none⟩=some (.int .i64 (ms.getD j dm).addr)∧w.cell? ⟨b,off+j * 9+5,none⟩=some (.int .i64 (ms.getD j dm).port)∧w.cell? ⟨b,off+j * 9+6,none⟩=some (.bool (ms.getD j dm).passing)∧w.cell? ⟨b,off+j * 9+7,none⟩=some (.int .i64 (ms.getD j dm).version)∧w.cell? ⟨b,off+j * 9+8,none⟩=some (.bool (ms.getD j dm).gone)
def Sl (w:World) (v:Value) (ms:List Svc):Prop:=
 ∃ (a:Option Addr) (cap:Nat),v=.slice a ms.length cap∧(∀ j,(ms.getD j dm).ok) ∧
  (ms=[]∨∃ b off,a=some ⟨b,off,none⟩∧b < w.heap.size∧Row w b off ms)
def Svc.cs (m:Svc):List Value:=[.string m.node,.string m.idn,.string m.name,.string m.tag,.int .i64 m.addr,.int .i64 m.port,.bool m.passing,.int .i64 m.version,.bool m.gone]
def fl (ms:List Svc):List Value:=ms.flatMap Svc.cs
theorem cs_len (m:Svc):m.cs.length=9:=rfl
theorem fl_cons (m:Svc) (r:List Svc):fl (m :: r)=m.cs++fl r:=by simp [fl]
theorem fl_append (a b:List Svc):fl (a++b)=fl a++fl b:=by simp [fl]
theorem fl_len:∀ ms:List Svc,(fl ms).length=ms.length * 9
 | []=>rfl
 | m :: r=>by rw [fl_cons,List.length_append,fl_len r,cs_len,List.length_cons];omega
theorem fl_take:∀ (ms:List Svc) (i:Nat),(fl ms).take (i * 9)=fl (ms.take i)
 | [],i=>by simp [fl]
 | m :: r,0=>by simp [fl]
 | m :: r,i+1=>by
   rw [fl_cons,List.take_succ_cons,fl_cons,show (i+1) * 9=m.cs.length+i * 9 by rw [cs_len];omega,List.take_length_add_append,fl_take r i]
theorem fl_drop:∀ (ms:List Svc) (i:Nat),(fl ms).drop (i * 9)=fl (ms.drop i)
 | [],i=>by simp [fl]
 | m :: r,0=>by simp
 | m :: r,i+1=>by
   rw [fl_cons,List.drop_succ_cons,show (i+1) * 9=m.cs.length+i * 9 by rw [cs_len];omega,List.drop_length_add_append,fl_drop r i]
theorem cs_one (m:Svc):∀ v∈m.cs,v.oneCell'=true:=by
 intro v hv;simp [Svc.cs] at hv;rcases hv with rfl | rfl | rfl | rfl | rfl | rfl | rfl | rfl | rfl<;>rfl
theorem fl_one (ms:List Svc):∀ v∈fl ms,v.oneCell'=true:=by
 intro v hv
 obtain ⟨m,_,h⟩:=List.mem_flatMap.1 hv
 exact cs_one m v h
theorem fl_get (ms:List Svc) (j:Nat) (hj:j < ms.length) (t:Nat) (ht:t < 9):(fl ms)[j * 9+t]?=(ms.getD j dm).cs[t]?:=by
 induction ms generalizing j with
 | nil=>simp at hj
 | cons m r ih=>
   rw [fl_cons]
   cases j with
   | zero=>rw [List.getElem?_append_left (by rw [cs_len];omega)];simp
   | succ j=>
     rw [List.getElem?_append_right (by rw [cs_len];omega),cs_len,show (j+1) * 9+t - 9=j * 9+t by omega,ih j (by simpa using hj)]
     simp
theorem fl_set (ms:List Svc) (p:Nat) (hp:p < ms.length) (m:Svc):((((((((((fl ms).set (p * 9) (.string m.node)).set (p * 9+1) (.string m.idn)).set (p * 9+2) (.string m.name)).set (p * 9+3) (.string m.tag)).set (p * 9+4) (.int .i64 m.addr)).set (p * 9+5) (.int .i64 m.port)).set (p * 9+6) (.bool m.passing)).set (p * 9+7) (.int .i64 m.version)).set (p * 9+8) (.bool m.gone))=fl (ms.set p m):=by
 induction ms generalizing p with
 | nil=>simp at hp
 | cons x r ih=>
   cases p with
   | zero=>simp [fl,Svc.cs]
   | succ p=>
     have ih':=ih p (by simpa using hp)
     rw [List.set_cons_succ,fl_cons,fl_cons,← ih']
     simp only [Nat.add_mul,Nat.one_mul]
     have e:∀ (l:List Value) (k:Nat) (v:Value),(x.cs++l).set (k+9) v=x.cs++l.set k v:=fun l k v=>by
      rw [List.set_append,if_neg (by rw [cs_len];omega),cs_len,Nat.add_sub_cancel]
     have c:∀ i:Nat,p * 9+9+i=(p * 9+i)+9:=fun i=>by omega
     simp only [c]
     rw [e,e,e,e,e,e,e,e,e]
abbrev Own (base:Nat) (w:World) (v:Value) (ms:List Svc):Prop:=w.ownsRow base 42 9 v ms.length (fl ms)
theorem own_of {base g G:Nat} {w:World} {cur:Array Value} {ms:List Svc} (hb:base≤g) (hg:w.heap[g]?=some (.cells cur 42 (0,0))) (hs:cur.size=G * 9) (hn:ms.length≤G) (hG:G≤maxLen) (ht:cur.toList.take (ms.length * 9)=fl ms) :
 Own base w (.slice (some ⟨g,0,none⟩) ms.length G) ms:=⟨fl_len ms,.inr ⟨g,G,cur,rfl,hb,hg,hn,hG,hs,ht⟩⟩
theorem Own.sl {base:Nat} {w:World} {v:Value} {ms:List Svc} (h:Own base w v ms) (hs:∀ j,(ms.getD j dm).ok):Sl w v ms:=by
 rcases h.2 with ⟨rfl,h0⟩ | ⟨g,c,cur,rfl,hbg,hg,hnc,hcm,hcs,htake⟩
 ·exact ⟨none,0,by rw [h0],hs,.inl (List.eq_nil_of_length_eq_zero h0)⟩
 ·refine ⟨_,c,rfl,hs,.inr ⟨g,0,rfl,(Array.getElem?_eq_some_iff.1 hg).1,fun j hj=>?_⟩⟩
  have hc:∀ t,t < 9→w.cell? ⟨g,0+j * 9+t,none⟩=(ms.getD j dm).cs[t]?:=fun t ht=>by
   rw [cellsAt hg,← fl_get ms j hj t ht,← htake,List.getElem?_take_of_lt (by omega)];simp
  exact ⟨hc 0 (by omega),hc 1 (by omega),hc 2 (by omega),hc 3 (by omega),hc 4 (by omega),hc 5 (by omega),hc 6 (by omega),hc 7 (by omega),hc 8 (by omega)⟩
theorem Own.below {base:Nat} {w w':World} {v:Value} {ms:List Svc} (h:Own base w v ms) (hb:Below w.heap.size w w'):Own base w' v ms:=by
 rcases h.2 with ⟨rfl,h0⟩ | ⟨g,c,cur,rfl,hbg,hg,hnc,hcm,hcs,htake⟩
 ·exact ⟨h.1,.inl ⟨rfl,h0⟩⟩
 ·have hlt:g < w.heap.size:=(Array.getElem?_eq_some_iff.1 hg).1
  exact ⟨h.1,.inr ⟨g,c,cur,rfl,hbg,(hb.block g hlt).trans hg,hnc,hcm,hcs,htake⟩⟩
theorem Own.lt {base:Nat} {w:World} {v:Value} {ms:List Svc} (h:Own base w v ms) (k:Nat) (hk:v.ownBlock=some k):base≤k∧k < w.heap.size:=World.ownsRow.lt h k hk
theorem below_grown {base:Nat} {w w1 w2:World} {v:Value} {ms:List Svc} (hb:Below base w w1) (h:Own base w1 v ms) (hg:w1.grownBy w2 v.ownBlock) (hbase:base≤w1.heap.size):Below base w w2:=
 hb.grown hg hbase (fun k hk=>(h.lt k hk).1)
theorem own_cells {base g c:Nat} {w:World} {ms:List Svc} (h:Own base w (.slice (some ⟨g,0,none⟩) ms.length c) ms) (j:Nat) (hj:j < ms.length) :
 w.cell? ⟨g,j * 9,none⟩=some (.string (ms.getD j dm).node)∧w.cell? ⟨g,j * 9+1,none⟩=some (.string (ms.getD j dm).idn)∧w.cell? ⟨g,j * 9+2,none⟩=some (.string (ms.getD j dm).name)∧w.cell? ⟨g,j * 9+3,none⟩=some (.string (ms.getD j dm).tag)∧w.cell? ⟨g,j * 9+4,none⟩=some (.int .i64 (ms.getD j dm).addr)∧w.cell? ⟨g,j * 9+5,none⟩=some (.int .i64 (ms.getD j dm).port)∧w.cell? ⟨g,j * 9+6,none⟩=some (.bool (ms.getD j dm).passing)∧w.cell? ⟨g,j * 9+7,none⟩=some (.int .i64 (ms.getD j dm).version)∧w.cell? ⟨g,j * 9+8,none⟩=some (.bool (ms.getD j dm).gone):=by
 rcases h.2 with ⟨h1,_⟩ | ⟨g',c',cur,h1,hbg,hg,hnc,hcm,hcs,htake⟩
 ·cases h1
 ·simp only [Value.slice.injEq,Option.some.injEq,Addr.mk.injEq] at h1
  obtain ⟨⟨rfl,_,_⟩,_,_⟩:=h1
  have hc:∀ t,t < 9→w.cell? ⟨g,j * 9+t,none⟩=(ms.getD j dm).cs[t]?:=fun t ht=>by
   rw [cellsAt hg,← fl_get ms j hj t ht,← htake,List.getElem?_take_of_lt (by omega)];simp
  exact ⟨hc 0 (by omega),hc 1 (by omega),hc 2 (by omega),hc 3 (by omega),hc 4 (by omega),hc 5 (by omega),hc 6 (by omega),hc 7 (by omega),hc 8 (by omega)⟩
theorem own_form {base:Nat} {w:World} {v:Value} {ms:List Svc} (h:Own base w v ms) (p:Nat) (hp:p < ms.length):∃ g c,v=.slice (some ⟨g,0,none⟩) ms.length c:=by
 rcases h.2 with ⟨_,h0⟩ | ⟨g,c,cur,h1,_⟩
 ·omega
 ·exact ⟨g,c,h1⟩
theorem own_set {base g c p:Nat} {W:World} {ms:List Svc} (h:Own base W (.slice (some ⟨g,0,none⟩) ms.length c) ms) (hp:p < ms.length) (m:Svc) :
 Own base (((((((((W.setCell ⟨g,p * 9,none⟩ (.string m.node)).setCell ⟨g,p * 9+1,none⟩ (.string m.idn)).setCell ⟨g,p * 9+2,none⟩ (.string m.name)).setCell ⟨g,p * 9+3,none⟩ (.string m.tag)).setCell ⟨g,p * 9+4,none⟩ (.int .i64 m.addr)).setCell ⟨g,p * 9+5,none⟩ (.int .i64 m.port)).setCell ⟨g,p * 9+6,none⟩ (.bool m.passing)).setCell ⟨g,p * 9+7,none⟩ (.int .i64 m.version)).setCell ⟨g,p * 9+8,none⟩ (.bool m.gone)) (.slice (some ⟨g,0,none⟩) ms.length c) (ms.set p m):=by
 have h1:=World.ownsRow.stored h (p * 9) (.string m.node)
 have h2:=World.ownsRow.stored h1.1 (p * 9+1) (.string m.idn)
 have h3:=World.ownsRow.stored h2.1 (p * 9+2) (.string m.name)
 have h4:=World.ownsRow.stored h3.1 (p * 9+3) (.string m.tag)
 have h5:=World.ownsRow.stored h4.1 (p * 9+4) (.int .i64 m.addr)
 have h6:=World.ownsRow.stored h5.1 (p * 9+5) (.int .i64 m.port)
 have h7:=World.ownsRow.stored h6.1 (p * 9+6) (.bool m.passing)
 have h8:=World.ownsRow.stored h7.1 (p * 9+7) (.int .i64 m.version)
 have h9:=World.ownsRow.stored h8.1 (p * 9+8) (.bool m.gone)
 have e:=h9.1
 rw [fl_set ms p hp m] at e
 show World.ownsRow _ _ _ _ _ (ms.set p m).length _
 rw [List.length_set]
 exact e
theorem Sl.below {w w':World} {v:Value} {ms:List Svc} (h:Sl w v ms) (hb:Below w.heap.size w w'):Sl w' v ms:=by
 obtain ⟨a,cap,rfl,hs,h⟩:=h
 refine ⟨a,cap,rfl,hs,?_⟩
 rcases h with h | ⟨b,off,rfl,hlt,hr⟩
 ·exact .inl h
 ·refine .inr ⟨b,off,rfl,Nat.lt_of_lt_of_le hlt hb.size,fun j hj=>?_⟩
  obtain ⟨hc,_⟩:=bcell hb
  obtain ⟨c0,c1,c2,c3,c4,c5,c6,c7,c8⟩:=hr j hj
  exact ⟨(hc _ _ hlt).trans c0,(hc _ _ hlt).trans c1,(hc _ _ hlt).trans c2,(hc _ _ hlt).trans c3,(hc _ _ hlt).trans c4,(hc _ _ hlt).trans c5,(hc _ _ hlt).trans c6,(hc _ _ hlt).trans c7,(hc _ _ hlt).trans c8⟩
theorem Row.later {w w':World} {b off:Nat} {ms:List Svc} (hr:Row w b off ms) (hb:Below w.heap.size w w') (hlt:b < w.heap.size):Row w' b off ms:=fun j hj=>by
 obtain ⟨hc,_⟩:=bcell hb
 obtain ⟨c0,c1,c2,c3,c4,c5,c6,c7,c8⟩:=hr j hj
 exact ⟨(hc _ _ hlt).trans c0,(hc _ _ hlt).trans c1,(hc _ _ hlt).trans c2,(hc _ _ hlt).trans c3,(hc _ _ hlt).trans c4,(hc _ _ hlt).trans c5,(hc _ _ hlt).trans c6,(hc _ _ hlt).trans c7,(hc _ _ hlt).trans c8⟩
theorem Own.mono {base base':Nat} {w:World} {v:Value} {ms:List Svc} (h:Own base w v ms) (hb:base'≤base):Own base' w v ms:=by
 rcases h.2 with ⟨rfl,h0⟩ | ⟨g,c,cur,rfl,hbg,hg,hnc,hcm,hcs,htake⟩
 ·exact ⟨h.1,.inl ⟨rfl,h0⟩⟩
 ·exact ⟨h.1,.inr ⟨g,c,cur,rfl,Nat.le_trans hb hbg,hg,hnc,hcm,hcs,htake⟩⟩
theorem own_nil (base:Nat) (w:World):Own base w (.slice none 0 0) []:=World.ownsRow_nil w base 42 9
theorem ns_mem {ms:List Svc} (h:∀ j,(ms.getD j dm).ok):∀ m∈ms,(m).ok:=by
 intro m hm
 obtain ⟨j,hj,rfl⟩:=List.getElem_of_mem hm
 have:=h j
 simpa [List.getD,List.getElem?_eq_getElem hj] using this
theorem ns_get {ms:List Svc} (h:∀ m∈ms,(m).ok):∀ j,(ms.getD j dm).ok:=by
 intro j
 by_cases hj:j < ms.length
 ·have:=h ms[j] (List.getElem_mem hj)
  simpa [List.getD,List.getElem?_eq_getElem hj] using this
 ·rw [List.getD,List.getElem?_eq_none (Nat.le_of_not_lt hj)];exact dm_ok
theorem own_names {base:Nat} {w:World} {v:Value} {ms:List Svc} (h:Own base w v ms) (hs:∀ m∈ms,(m).ok):Sl w v ms:=h.sl (ns_get hs)
theorem sl_one (w:World) (b cap:Nat) (m:Svc) (hm:(m).ok) (hg:w.heap[b]?=some (.cells #[.string m.node,.string m.idn,.string m.name,.string m.tag,.int .i64 m.addr,.int .i64 m.port,.bool m.passing,.int .i64 m.version,.bool m.gone] 42 (0,0))):Sl w (.slice (some ⟨b,0,none⟩) 1 cap) [m]:=by
 refine ⟨_,cap,rfl,ns_get (fun x hx=>by simp at hx;subst hx;exact hm),.inr ⟨b,0,rfl,(Array.getElem?_eq_some_iff.1 hg).1,fun j hj=>?_⟩⟩
 have:j=0:=by simpa using hj
 subst this
 exact ⟨cellsAt hg (0+0 * 9),cellsAt hg (0+0 * 9+1),cellsAt hg (0+0 * 9+2),cellsAt hg (0+0 * 9+3),cellsAt hg (0+0 * 9+4),cellsAt hg (0+0 * 9+5),cellsAt hg (0+0 * 9+6),cellsAt hg (0+0 * 9+7),cellsAt hg (0+0 * 9+8)⟩
theorem own_snoc {base:Nat} {w:World} {v:Value} {L:List Svc} {m:Svc} (h:w.ownsRow base 42 9 v (L.length+1) (fl L++m.cs)):Own base w v (L++[m]):=by
 have e:fl (L++[m])=fl L++m.cs:=by rw [fl_append,fl_cons];simp [fl]
 show w.ownsRow base 42 9 v (L++[m]).length (fl (L++[m]))
 rw [e,List.length_append]
 exact h
end Sv
namespace Wh
open Go.RowKit
structure Whe where
 node:ByteArray
 x:Int
 y:Int
 z:Int
 h:Int
 s:Int
def dm:Whe:=⟨ByteArray.empty,0,0,0,0,0⟩
def Whe.ok (m:Whe):Prop:=m.node.size≤maxLen
theorem dm_ok:dm.ok:=by simp [Whe.ok,dm]
def Row (w:World) (b off:Nat) (ms:List Whe):Prop:=∀ j,j < ms.length →
 w.cell? ⟨b,off+j * 6,none⟩=some (.string (ms.getD j dm).node)∧w.cell? ⟨b,off+j * 6+1,none⟩=some (.int .i64 (ms.getD j dm).x)∧w.cell? ⟨b,off+j * 6+2,none⟩=some (.int .i64 (ms.getD j dm).y)∧w.cell? ⟨b,off+j * 6+3,none⟩=some (.int .i64 (ms.getD j dm).z)∧w.cell? ⟨b,off+j * 6+4,none⟩=some (.int .i64 (ms.getD j dm).h)∧w.cell? ⟨b,off+j * 6+5,none⟩=some (.int .i64 (ms.getD j dm).s)
def Sl (w:World) (v:Value) (ms:List Whe):Prop:=
 ∃ (a:Option Addr) (cap:Nat),v=.slice a ms.length cap∧(∀ j,(ms.getD j dm).ok) ∧
  (ms=[]∨∃ b off,a=some ⟨b,off,none⟩∧b < w.heap.size∧Row w b off ms)
def Whe.cs (m:Whe):List Value:=[.string m.node,.int .i64 m.x,.int .i64 m.y,.int .i64 m.z,.int .i64 m.h,.int .i64 m.s]
def fl (ms:List Whe):List Value:=ms.flatMap Whe.cs
theorem cs_len (m:Whe):m.cs.length=6:=rfl
theorem fl_cons (m:Whe) (r:List Whe):fl (m :: r)=m.cs++fl r:=by simp [fl]
theorem fl_append (a b:List Whe):fl (a++b)=fl a++fl b:=by simp [fl]
theorem fl_len:∀ ms:List Whe,(fl ms).length=ms.length * 6
 | []=>rfl
 | m :: r=>by rw [fl_cons,List.length_append,fl_len r,cs_len,List.length_cons];omega
theorem fl_take:∀ (ms:List Whe) (i:Nat),(fl ms).take (i * 6)=fl (ms.take i)
 | [],i=>by simp [fl]
 | m :: r,0=>by simp [fl]
 | m :: r,i+1=>by
   rw [fl_cons,List.take_succ_cons,fl_cons,show (i+1) * 6=m.cs.length+i * 6 by rw [cs_len];omega,List.take_length_add_append,fl_take r i]
theorem fl_drop:∀ (ms:List Whe) (i:Nat),(fl ms).drop (i * 6)=fl (ms.drop i)
 | [],i=>by simp [fl]
 | m :: r,0=>by simp
 | m :: r,i+1=>by
   rw [fl_cons,List.drop_succ_cons,show (i+1) * 6=m.cs.length+i * 6 by rw [cs_len];omega,List.drop_length_add_append,fl_drop r i]
theorem cs_one (m:Whe):∀ v∈m.cs,v.oneCell'=true:=by
 intro v hv;simp [Whe.cs] at hv;rcases hv with rfl | rfl | rfl | rfl | rfl | rfl<;>rfl
theorem fl_one (ms:List Whe):∀ v∈fl ms,v.oneCell'=true:=by
 intro v hv
 obtain ⟨m,_,h⟩:=List.mem_flatMap.1 hv
 exact cs_one m v h
theorem fl_get (ms:List Whe) (j:Nat) (hj:j < ms.length) (t:Nat) (ht:t < 6):(fl ms)[j * 6+t]?=(ms.getD j dm).cs[t]?:=by
 induction ms generalizing j with
 | nil=>simp at hj
 | cons m r ih=>
   rw [fl_cons]
   cases j with
   | zero=>rw [List.getElem?_append_left (by rw [cs_len];omega)];simp
   | succ j=>
     rw [List.getElem?_append_right (by rw [cs_len];omega),cs_len,show (j+1) * 6+t - 6=j * 6+t by omega,ih j (by simpa using hj)]
     simp
theorem fl_set (ms:List Whe) (p:Nat) (hp:p < ms.length) (m:Whe):(((((((fl ms).set (p * 6) (.string m.node)).set (p * 6+1) (.int .i64 m.x)).set (p * 6+2) (.int .i64 m.y)).set (p * 6+3) (.int .i64 m.z)).set (p * 6+4) (.int .i64 m.h)).set (p * 6+5) (.int .i64 m.s))=fl (ms.set p m):=by
 induction ms generalizing p with
 | nil=>simp at hp
 | cons x r ih=>
   cases p with
   | zero=>simp [fl,Whe.cs]
   | succ p=>
     have ih':=ih p (by simpa using hp)
     rw [List.set_cons_succ,fl_cons,fl_cons,← ih']
     simp only [Nat.add_mul,Nat.one_mul]
     have e:∀ (l:List Value) (k:Nat) (v:Value),(x.cs++l).set (k+6) v=x.cs++l.set k v:=fun l k v=>by
      rw [List.set_append,if_neg (by rw [cs_len];omega),cs_len,Nat.add_sub_cancel]
     have c:∀ i:Nat,p * 6+6+i=(p * 6+i)+6:=fun i=>by omega
     simp only [c]
     rw [e,e,e,e,e,e]
abbrev Own (base:Nat) (w:World) (v:Value) (ms:List Whe):Prop:=w.ownsRow base 109 6 v ms.length (fl ms)
theorem own_of {base g G:Nat} {w:World} {cur:Array Value} {ms:List Whe} (hb:base≤g) (hg:w.heap[g]?=some (.cells cur 109 (0,0))) (hs:cur.size=G * 6) (hn:ms.length≤G) (hG:G≤maxLen) (ht:cur.toList.take (ms.length * 6)=fl ms) :
 Own base w (.slice (some ⟨g,0,none⟩) ms.length G) ms:=⟨fl_len ms,.inr ⟨g,G,cur,rfl,hb,hg,hn,hG,hs,ht⟩⟩
theorem Own.sl {base:Nat} {w:World} {v:Value} {ms:List Whe} (h:Own base w v ms) (hs:∀ j,(ms.getD j dm).ok):Sl w v ms:=by
 rcases h.2 with ⟨rfl,h0⟩ | ⟨g,c,cur,rfl,hbg,hg,hnc,hcm,hcs,htake⟩
 ·exact ⟨none,0,by rw [h0],hs,.inl (List.eq_nil_of_length_eq_zero h0)⟩
 ·refine ⟨_,c,rfl,hs,.inr ⟨g,0,rfl,(Array.getElem?_eq_some_iff.1 hg).1,fun j hj=>?_⟩⟩
  have hc:∀ t,t < 6→w.cell? ⟨g,0+j * 6+t,none⟩=(ms.getD j dm).cs[t]?:=fun t ht=>by
   rw [cellsAt hg,← fl_get ms j hj t ht,← htake,List.getElem?_take_of_lt (by omega)];simp
  exact ⟨hc 0 (by omega),hc 1 (by omega),hc 2 (by omega),hc 3 (by omega),hc 4 (by omega),hc 5 (by omega)⟩
theorem Own.below {base:Nat} {w w':World} {v:Value} {ms:List Whe} (h:Own base w v ms) (hb:Below w.heap.size w w'):Own base w' v ms:=by
 rcases h.2 with ⟨rfl,h0⟩ | ⟨g,c,cur,rfl,hbg,hg,hnc,hcm,hcs,htake⟩
 ·exact ⟨h.1,.inl ⟨rfl,h0⟩⟩
 ·have hlt:g < w.heap.size:=(Array.getElem?_eq_some_iff.1 hg).1
  exact ⟨h.1,.inr ⟨g,c,cur,rfl,hbg,(hb.block g hlt).trans hg,hnc,hcm,hcs,htake⟩⟩
theorem Own.lt {base:Nat} {w:World} {v:Value} {ms:List Whe} (h:Own base w v ms) (k:Nat) (hk:v.ownBlock=some k):base≤k∧k < w.heap.size:=World.ownsRow.lt h k hk
theorem below_grown {base:Nat} {w w1 w2:World} {v:Value} {ms:List Whe} (hb:Below base w w1) (h:Own base w1 v ms) (hg:w1.grownBy w2 v.ownBlock) (hbase:base≤w1.heap.size):Below base w w2:=
 hb.grown hg hbase (fun k hk=>(h.lt k hk).1)
theorem own_cells {base g c:Nat} {w:World} {ms:List Whe} (h:Own base w (.slice (some ⟨g,0,none⟩) ms.length c) ms) (j:Nat) (hj:j < ms.length) :
 w.cell? ⟨g,j * 6,none⟩=some (.string (ms.getD j dm).node)∧w.cell? ⟨g,j * 6+1,none⟩=some (.int .i64 (ms.getD j dm).x)∧w.cell? ⟨g,j * 6+2,none⟩=some (.int .i64 (ms.getD j dm).y)∧w.cell? ⟨g,j * 6+3,none⟩=some (.int .i64 (ms.getD j dm).z)∧w.cell? ⟨g,j * 6+4,none⟩=some (.int .i64 (ms.getD j dm).h)∧w.cell? ⟨g,j * 6+5,none⟩=some (.int .i64 (ms.getD j dm).s):=by
 rcases h.2 with ⟨h1,_⟩ | ⟨g',c',cur,h1,hbg,hg,hnc,hcm,hcs,htake⟩
 ·cases h1
 ·simp only [Value.slice.injEq,Option.some.injEq,Addr.mk.injEq] at h1
  obtain ⟨⟨rfl,_,_⟩,_,_⟩:=h1
  have hc:∀ t,t < 6→w.cell? ⟨g,j * 6+t,none⟩=(ms.getD j dm).cs[t]?:=fun t ht=>by
   rw [cellsAt hg,← fl_get ms j hj t ht,← htake,List.getElem?_take_of_lt (by omega)];simp
  exact ⟨hc 0 (by omega),hc 1 (by omega),hc 2 (by omega),hc 3 (by omega),hc 4 (by omega),hc 5 (by omega)⟩
theorem own_form {base:Nat} {w:World} {v:Value} {ms:List Whe} (h:Own base w v ms) (p:Nat) (hp:p < ms.length):∃ g c,v=.slice (some ⟨g,0,none⟩) ms.length c:=by
 rcases h.2 with ⟨_,h0⟩ | ⟨g,c,cur,h1,_⟩
 ·omega
 ·exact ⟨g,c,h1⟩
theorem own_set {base g c p:Nat} {W:World} {ms:List Whe} (h:Own base W (.slice (some ⟨g,0,none⟩) ms.length c) ms) (hp:p < ms.length) (m:Whe) :
 Own base ((((((W.setCell ⟨g,p * 6,none⟩ (.string m.node)).setCell ⟨g,p * 6+1,none⟩ (.int .i64 m.x)).setCell ⟨g,p * 6+2,none⟩ (.int .i64 m.y)).setCell ⟨g,p * 6+3,none⟩ (.int .i64 m.z)).setCell ⟨g,p * 6+4,none⟩ (.int .i64 m.h)).setCell ⟨g,p * 6+5,none⟩ (.int .i64 m.s)) (.slice (some ⟨g,0,none⟩) ms.length c) (ms.set p m):=by
 have h1:=World.ownsRow.stored h (p * 6) (.string m.node)
 have h2:=World.ownsRow.stored h1.1 (p * 6+1) (.int .i64 m.x)
 have h3:=World.ownsRow.stored h2.1 (p * 6+2) (.int .i64 m.y)
 have h4:=World.ownsRow.stored h3.1 (p * 6+3) (.int .i64 m.z)
 have h5:=World.ownsRow.stored h4.1 (p * 6+4) (.int .i64 m.h)
 have h6:=World.ownsRow.stored h5.1 (p * 6+5) (.int .i64 m.s)
 have e:=h6.1
 rw [fl_set ms p hp m] at e
 show World.ownsRow _ _ _ _ _ (ms.set p m).length _
 rw [List.length_set]
 exact e
theorem Sl.below {w w':World} {v:Value} {ms:List Whe} (h:Sl w v ms) (hb:Below w.heap.size w w'):Sl w' v ms:=by
 obtain ⟨a,cap,rfl,hs,h⟩:=h
 refine ⟨a,cap,rfl,hs,?_⟩
 rcases h with h | ⟨b,off,rfl,hlt,hr⟩
 ·exact .inl h
 ·refine .inr ⟨b,off,rfl,Nat.lt_of_lt_of_le hlt hb.size,fun j hj=>?_⟩
  obtain ⟨hc,_⟩:=bcell hb
  obtain ⟨c0,c1,c2,c3,c4,c5⟩:=hr j hj
  exact ⟨(hc _ _ hlt).trans c0,(hc _ _ hlt).trans c1,(hc _ _ hlt).trans c2,(hc _ _ hlt).trans c3,(hc _ _ hlt).trans c4,(hc _ _ hlt).trans c5⟩
theorem Row.later {w w':World} {b off:Nat} {ms:List Whe} (hr:Row w b off ms) (hb:Below w.heap.size w w') (hlt:b < w.heap.size):Row w' b off ms:=fun j hj=>by
 obtain ⟨hc,_⟩:=bcell hb
 obtain ⟨c0,c1,c2,c3,c4,c5⟩:=hr j hj
 exact ⟨(hc _ _ hlt).trans c0,(hc _ _ hlt).trans c1,(hc _ _ hlt).trans c2,(hc _ _ hlt).trans c3,(hc _ _ hlt).trans c4,(hc _ _ hlt).trans c5⟩
theorem Own.mono {base base':Nat} {w:World} {v:Value} {ms:List Whe} (h:Own base w v ms) (hb:base'≤base):Own base' w v ms:=by
 rcases h.2 with ⟨rfl,h0⟩ | ⟨g,c,cur,rfl,hbg,hg,hnc,hcm,hcs,htake⟩
 ·exact ⟨h.1,.inl ⟨rfl,h0⟩⟩
 ·exact ⟨h.1,.inr ⟨g,c,cur,rfl,Nat.le_trans hb hbg,hg,hnc,hcm,hcs,htake⟩⟩
theorem own_nil (base:Nat) (w:World):Own base w (.slice none 0 0) []:=World.ownsRow_nil w base 109 6
theorem ns_mem {ms:List Whe} (h:∀ j,(ms.getD j dm).ok):∀ m∈ms,(m).ok:=by
 intro m hm
 obtain ⟨j,hj,rfl⟩:=List.getElem_of_mem hm
 have:=h j
 simpa [List.getD,List.getElem?_eq_getElem hj] using this
theorem ns_get {ms:List Whe} (h:∀ m∈ms,(m).ok):∀ j,(ms.getD j dm).ok:=by
 intro j
 by_cases hj:j < ms.length
 ·have:=h ms[j] (List.getElem_mem hj)
  simpa [List.getD,List.getElem?_eq_getElem hj] using this
 ·rw [List.getD,List.getElem?_eq_none (Nat.le_of_not_lt hj)];exact dm_ok
theorem own_names {base:Nat} {w:World} {v:Value} {ms:List Whe} (h:Own base w v ms) (hs:∀ m∈ms,(m).ok):Sl w v ms:=h.sl (ns_get hs)
theorem sl_one (w:World) (b cap:Nat) (m:Whe) (hm:(m).ok) (hg:w.heap[b]?=some (.cells #[.string m.node,.int .i64 m.x,.int .i64 m.y,.int .i64 m.z,.int .i64 m.h,.int .i64 m.s] 109 (0,0))):Sl w (.slice (some ⟨b,0,none⟩) 1 cap) [m]:=by
 refine ⟨_,cap,rfl,ns_get (fun x hx=>by simp at hx;subst hx;exact hm),.inr ⟨b,0,rfl,(Array.getElem?_eq_some_iff.1 hg).1,fun j hj=>?_⟩⟩
 have:j=0:=by simpa using hj
 subst this
 exact ⟨cellsAt hg (0+0 * 6),cellsAt hg (0+0 * 6+1),cellsAt hg (0+0 * 6+2),cellsAt hg (0+0 * 6+3),cellsAt hg (0+0 * 6+4),cellsAt hg (0+0 * 6+5)⟩
theorem own_snoc {base:Nat} {w:World} {v:Value} {L:List Whe} {m:Whe} (h:w.ownsRow base 109 6 v (L.length+1) (fl L++m.cs)):Own base w v (L++[m]):=by
 have e:fl (L++[m])=fl L++m.cs:=by rw [fl_append,fl_cons];simp [fl]
 show w.ownsRow base 109 6 v (L++[m]).length (fl (L++[m]))
 rw [e,List.length_append]
 exact h
end Wh
namespace Gw
open Go.RowKit
structure Gwy where
 centre:ByteArray
 addr:Int
 version:Int
def dm:Gwy:=⟨ByteArray.empty,0,0⟩
def Gwy.ok (m:Gwy):Prop:=m.centre.size≤maxLen
theorem dm_ok:dm.ok:=by simp [Gwy.ok,dm]
def Row (w:World) (b off:Nat) (ms:List Gwy):Prop:=∀ j,j < ms.length →
 w.cell? ⟨b,off+j * 3,none⟩=some (.string (ms.getD j dm).centre)∧w.cell? ⟨b,off+j * 3+1,none⟩=some (.int .i64 (ms.getD j dm).addr)∧w.cell? ⟨b,off+j * 3+2,none⟩=some (.int .i64 (ms.getD j dm).version)
def Sl (w:World) (v:Value) (ms:List Gwy):Prop:=
 ∃ (a:Option Addr) (cap:Nat),v=.slice a ms.length cap∧(∀ j,(ms.getD j dm).ok) ∧
  (ms=[]∨∃ b off,a=some ⟨b,off,none⟩∧b < w.heap.size∧Row w b off ms)
def Gwy.cs (m:Gwy):List Value:=[.string m.centre,.int .i64 m.addr,.int .i64 m.version]
def fl (ms:List Gwy):List Value:=ms.flatMap Gwy.cs
theorem cs_len (m:Gwy):m.cs.length=3:=rfl
theorem fl_cons (m:Gwy) (r:List Gwy):fl (m :: r)=m.cs++fl r:=by simp [fl]
theorem fl_append (a b:List Gwy):fl (a++b)=fl a++fl b:=by simp [fl]
theorem fl_len:∀ ms:List Gwy,(fl ms).length=ms.length * 3
 | []=>rfl
 | m :: r=>by rw [fl_cons,List.length_append,fl_len r,cs_len,List.length_cons];omega
theorem fl_take:∀ (ms:List Gwy) (i:Nat),(fl ms).take (i * 3)=fl (ms.take i)
 | [],i=>by simp [fl]
 | m :: r,0=>by simp [fl]
 | m :: r,i+1=>by
   rw [fl_cons,List.take_succ_cons,fl_cons,show (i+1) * 3=m.cs.length+i * 3 by rw [cs_len];omega,List.take_length_add_append,fl_take r i]
theorem fl_drop:∀ (ms:List Gwy) (i:Nat),(fl ms).drop (i * 3)=fl (ms.drop i)
 | [],i=>by simp [fl]
 | m :: r,0=>by simp
 | m :: r,i+1=>by
   rw [fl_cons,List.drop_succ_cons,show (i+1) * 3=m.cs.length+i * 3 by rw [cs_len];omega,List.drop_length_add_append,fl_drop r i]
theorem cs_one (m:Gwy):∀ v∈m.cs,v.oneCell'=true:=by
 intro v hv;simp [Gwy.cs] at hv;rcases hv with rfl | rfl | rfl<;>rfl
theorem fl_one (ms:List Gwy):∀ v∈fl ms,v.oneCell'=true:=by
 intro v hv
 obtain ⟨m,_,h⟩:=List.mem_flatMap.1 hv
 exact cs_one m v h
theorem fl_get (ms:List Gwy) (j:Nat) (hj:j < ms.length) (t:Nat) (ht:t < 3):(fl ms)[j * 3+t]?=(ms.getD j dm).cs[t]?:=by
 induction ms generalizing j with
 | nil=>simp at hj
 | cons m r ih=>
   rw [fl_cons]
   cases j with
   | zero=>rw [List.getElem?_append_left (by rw [cs_len];omega)];simp
   | succ j=>
     rw [List.getElem?_append_right (by rw [cs_len];omega),cs_len,show (j+1) * 3+t - 3=j * 3+t by omega,ih j (by simpa using hj)]
     simp
theorem fl_set (ms:List Gwy) (p:Nat) (hp:p < ms.length) (m:Gwy):((((fl ms).set (p * 3) (.string m.centre)).set (p * 3+1) (.int .i64 m.addr)).set (p * 3+2) (.int .i64 m.version))=fl (ms.set p m):=by
 induction ms generalizing p with
 | nil=>simp at hp
 | cons x r ih=>
   cases p with
   | zero=>simp [fl,Gwy.cs]
   | succ p=>
     have ih':=ih p (by simpa using hp)
     rw [List.set_cons_succ,fl_cons,fl_cons,← ih']
     simp only [Nat.add_mul,Nat.one_mul]
     have e:∀ (l:List Value) (k:Nat) (v:Value),(x.cs++l).set (k+3) v=x.cs++l.set k v:=fun l k v=>by
      rw [List.set_append,if_neg (by rw [cs_len];omega),cs_len,Nat.add_sub_cancel]
     have c:∀ i:Nat,p * 3+3+i=(p * 3+i)+3:=fun i=>by omega
     simp only [c]
     rw [e,e,e]
abbrev Own (base:Nat) (w:World) (v:Value) (ms:List Gwy):Prop:=w.ownsRow base 107 3 v ms.length (fl ms)
theorem own_of {base g G:Nat} {w:World} {cur:Array Value} {ms:List Gwy} (hb:base≤g) (hg:w.heap[g]?=some (.cells cur 107 (0,0))) (hs:cur.size=G * 3) (hn:ms.length≤G) (hG:G≤maxLen) (ht:cur.toList.take (ms.length * 3)=fl ms) :
 Own base w (.slice (some ⟨g,0,none⟩) ms.length G) ms:=⟨fl_len ms,.inr ⟨g,G,cur,rfl,hb,hg,hn,hG,hs,ht⟩⟩
theorem Own.sl {base:Nat} {w:World} {v:Value} {ms:List Gwy} (h:Own base w v ms) (hs:∀ j,(ms.getD j dm).ok):Sl w v ms:=by
 rcases h.2 with ⟨rfl,h0⟩ | ⟨g,c,cur,rfl,hbg,hg,hnc,hcm,hcs,htake⟩
 ·exact ⟨none,0,by rw [h0],hs,.inl (List.eq_nil_of_length_eq_zero h0)⟩
 ·refine ⟨_,c,rfl,hs,.inr ⟨g,0,rfl,(Array.getElem?_eq_some_iff.1 hg).1,fun j hj=>?_⟩⟩
  have hc:∀ t,t < 3→w.cell? ⟨g,0+j * 3+t,none⟩=(ms.getD j dm).cs[t]?:=fun t ht=>by
   rw [cellsAt hg,← fl_get ms j hj t ht,← htake,List.getElem?_take_of_lt (by omega)];simp
  exact ⟨hc 0 (by omega),hc 1 (by omega),hc 2 (by omega)⟩
theorem Own.below {base:Nat} {w w':World} {v:Value} {ms:List Gwy} (h:Own base w v ms) (hb:Below w.heap.size w w'):Own base w' v ms:=by
 rcases h.2 with ⟨rfl,h0⟩ | ⟨g,c,cur,rfl,hbg,hg,hnc,hcm,hcs,htake⟩
 ·exact ⟨h.1,.inl ⟨rfl,h0⟩⟩
 ·have hlt:g < w.heap.size:=(Array.getElem?_eq_some_iff.1 hg).1
  exact ⟨h.1,.inr ⟨g,c,cur,rfl,hbg,(hb.block g hlt).trans hg,hnc,hcm,hcs,htake⟩⟩
theorem Own.lt {base:Nat} {w:World} {v:Value} {ms:List Gwy} (h:Own base w v ms) (k:Nat) (hk:v.ownBlock=some k):base≤k∧k < w.heap.size:=World.ownsRow.lt h k hk
theorem below_grown {base:Nat} {w w1 w2:World} {v:Value} {ms:List Gwy} (hb:Below base w w1) (h:Own base w1 v ms) (hg:w1.grownBy w2 v.ownBlock) (hbase:base≤w1.heap.size):Below base w w2:=
 hb.grown hg hbase (fun k hk=>(h.lt k hk).1)
theorem own_cells {base g c:Nat} {w:World} {ms:List Gwy} (h:Own base w (.slice (some ⟨g,0,none⟩) ms.length c) ms) (j:Nat) (hj:j < ms.length) :
 w.cell? ⟨g,j * 3,none⟩=some (.string (ms.getD j dm).centre)∧w.cell? ⟨g,j * 3+1,none⟩=some (.int .i64 (ms.getD j dm).addr)∧w.cell? ⟨g,j * 3+2,none⟩=some (.int .i64 (ms.getD j dm).version):=by
 rcases h.2 with ⟨h1,_⟩ | ⟨g',c',cur,h1,hbg,hg,hnc,hcm,hcs,htake⟩
 ·cases h1
 ·simp only [Value.slice.injEq,Option.some.injEq,Addr.mk.injEq] at h1
  obtain ⟨⟨rfl,_,_⟩,_,_⟩:=h1
  have hc:∀ t,t < 3→w.cell? ⟨g,j * 3+t,none⟩=(ms.getD j dm).cs[t]?:=fun t ht=>by
   rw [cellsAt hg,← fl_get ms j hj t ht,← htake,List.getElem?_take_of_lt (by omega)];simp
  exact ⟨hc 0 (by omega),hc 1 (by omega),hc 2 (by omega)⟩
theorem own_form {base:Nat} {w:World} {v:Value} {ms:List Gwy} (h:Own base w v ms) (p:Nat) (hp:p < ms.length):∃ g c,v=.slice (some ⟨g,0,none⟩) ms.length c:=by
 rcases h.2 with ⟨_,h0⟩ | ⟨g,c,cur,h1,_⟩
 ·omega
 ·exact ⟨g,c,h1⟩
theorem own_set {base g c p:Nat} {W:World} {ms:List Gwy} (h:Own base W (.slice (some ⟨g,0,none⟩) ms.length c) ms) (hp:p < ms.length) (m:Gwy) :
 Own base (((W.setCell ⟨g,p * 3,none⟩ (.string m.centre)).setCell ⟨g,p * 3+1,none⟩ (.int .i64 m.addr)).setCell ⟨g,p * 3+2,none⟩ (.int .i64 m.version)) (.slice (some ⟨g,0,none⟩) ms.length c) (ms.set p m):=by
 have h1:=World.ownsRow.stored h (p * 3) (.string m.centre)
 have h2:=World.ownsRow.stored h1.1 (p * 3+1) (.int .i64 m.addr)
 have h3:=World.ownsRow.stored h2.1 (p * 3+2) (.int .i64 m.version)
 have e:=h3.1
 rw [fl_set ms p hp m] at e
 show World.ownsRow _ _ _ _ _ (ms.set p m).length _
 rw [List.length_set]
 exact e
theorem Sl.below {w w':World} {v:Value} {ms:List Gwy} (h:Sl w v ms) (hb:Below w.heap.size w w'):Sl w' v ms:=by
 obtain ⟨a,cap,rfl,hs,h⟩:=h
 refine ⟨a,cap,rfl,hs,?_⟩
 rcases h with h | ⟨b,off,rfl,hlt,hr⟩
 ·exact .inl h
 ·refine .inr ⟨b,off,rfl,Nat.lt_of_lt_of_le hlt hb.size,fun j hj=>?_⟩
  obtain ⟨hc,_⟩:=bcell hb
  obtain ⟨c0,c1,c2⟩:=hr j hj
  exact ⟨(hc _ _ hlt).trans c0,(hc _ _ hlt).trans c1,(hc _ _ hlt).trans c2⟩
theorem Row.later {w w':World} {b off:Nat} {ms:List Gwy} (hr:Row w b off ms) (hb:Below w.heap.size w w') (hlt:b < w.heap.size):Row w' b off ms:=fun j hj=>by
 obtain ⟨hc,_⟩:=bcell hb
 obtain ⟨c0,c1,c2⟩:=hr j hj
 exact ⟨(hc _ _ hlt).trans c0,(hc _ _ hlt).trans c1,(hc _ _ hlt).trans c2⟩
theorem Own.mono {base base':Nat} {w:World} {v:Value} {ms:List Gwy} (h:Own base w v ms) (hb:base'≤base):Own base' w v ms:=by
 rcases h.2 with ⟨rfl,h0⟩ | ⟨g,c,cur,rfl,hbg,hg,hnc,hcm,hcs,htake⟩
 ·exact ⟨h.1,.inl ⟨rfl,h0⟩⟩
 ·exact ⟨h.1,.inr ⟨g,c,cur,rfl,Nat.le_trans hb hbg,hg,hnc,hcm,hcs,htake⟩⟩
theorem own_nil (base:Nat) (w:World):Own base w (.slice none 0 0) []:=World.ownsRow_nil w base 107 3
theorem ns_mem {ms:List Gwy} (h:∀ j,(ms.getD j dm).ok):∀ m∈ms,(m).ok:=by
 intro m hm
 obtain ⟨j,hj,rfl⟩:=List.getElem_of_mem hm
 have:=h j
 simpa [List.getD,List.getElem?_eq_getElem hj] using this
theorem ns_get {ms:List Gwy} (h:∀ m∈ms,(m).ok):∀ j,(ms.getD j dm).ok:=by
 intro j
 by_cases hj:j < ms.length
 ·have:=h ms[j] (List.getElem_mem hj)
  simpa [List.getD,List.getElem?_eq_getElem hj] using this
 ·rw [List.getD,List.getElem?_eq_none (Nat.le_of_not_lt hj)];exact dm_ok
theorem own_names {base:Nat} {w:World} {v:Value} {ms:List Gwy} (h:Own base w v ms) (hs:∀ m∈ms,(m).ok):Sl w v ms:=h.sl (ns_get hs)
theorem sl_one (w:World) (b cap:Nat) (m:Gwy) (hm:(m).ok) (hg:w.heap[b]?=some (.cells #[.string m.centre,.int .i64 m.addr,.int .i64 m.version] 107 (0,0))):Sl w (.slice (some ⟨b,0,none⟩) 1 cap) [m]:=by
 refine ⟨_,cap,rfl,ns_get (fun x hx=>by simp at hx;subst hx;exact hm),.inr ⟨b,0,rfl,(Array.getElem?_eq_some_iff.1 hg).1,fun j hj=>?_⟩⟩
 have:j=0:=by simpa using hj
 subst this
 exact ⟨cellsAt hg (0+0 * 3),cellsAt hg (0+0 * 3+1),cellsAt hg (0+0 * 3+2)⟩
theorem own_snoc {base:Nat} {w:World} {v:Value} {L:List Gwy} {m:Gwy} (h:w.ownsRow base 107 3 v (L.length+1) (fl L++m.cs)):Own base w v (L++[m]):=by
 have e:fl (L++[m])=fl L++m.cs:=by rw [fl_append,fl_cons];simp [fl]
 show w.ownsRow base 107 3 v (L++[m]).length (fl (L++[m]))
 rw [e,List.length_append]
 exact h
end Gw
end Go.Proofs.YtffdoiokmiklgaaGreatDoor
