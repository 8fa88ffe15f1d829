import Derived.Test.YtffdoiokmiklgaaGreatDoorProg
import Derived.WalkKit
import Derived.WalkSpells
import Derived.WalkLawsBesides
import Derived.Deep.QuietTactic
import Derived.BigQuiet
import Derived.Lib.Bytealg
import Derived.Shelf.RegionOpenPlain
import Derived.Lib.AppendZerosOnto
import Derived.Lib.Overlaps
import Derived.Laws.CopyRow
import Derived.Laws.Externs
import Derived.Laws.NewBlocks
import Derived.Deep.RegionWith
import Derived.Defers
import Derived.Recover
import Derived.Laws.Pointers
namespace Go.Proofs.YtffdoiokmiklgaaGreatDoor
open Go.RowKit
def within (n a b:Int):Bool:=decide (a≤n) && decide (n≤b)
def lbB (n:Int):Bool:=(decide (97≤n) && decide (n≤122)) || (decide (48≤n) && decide (n≤57)) || decide (n=45) || decide (n=95)
def labB (s:ByteArray):Bool:=decide (1≤s.size) && decide (s.size≤30) && s.data.toList.all (fun c=>lbB c.toNat)
theorem ret_bool {a b:Bool} (h:a=b):Ending.returned (.bool a)=.returned (.bool b):=by rw [h]
theorem ret_int {k:IntKind} {a b:Int} (h:a=b):Ending.returned (.int k a)=.returned (.int k b):=by rw [h]
theorem take_snoc (s:ByteArray) (k:Nat) (h:k < s.size):s.data.toList.take (k+1)=s.data.toList.take k++[s[k]]:=by
 rw [List.take_succ_eq_append_getElem (by simpa using h)];rfl
theorem take_all (s:ByteArray) (k:Nat) (h:s.size≤k):s.data.toList.take k=s.data.toList:=
 List.take_of_length_le (by simpa using h)
theorem labs_step (s:ByteArray) (k:Nat) (h:k < s.size) (hk:(s.data.toList.take k).all (fun c=>lbB c.toNat)=true) (hb:lbB (s[k].toNat:Int)=true) :
 (s.data.toList.take (k+1)).all (fun c=>lbB c.toNat)=true:=by
 rw [take_snoc s k h,List.all_append,hk];simp [hb]
theorem labs_not (s:ByteArray) (k:Nat) (h:k < s.size) (hb:lbB (s[k].toNat:Int)=false):labB s=false:=by
 have:s.data.toList.all (fun c=>lbB c.toNat)=false:=by
  rw [List.all_eq_false]
  refine ⟨s[k],?_,by simp [hb]⟩
  exact List.getElem_mem (l:=s.data.toList) (n:=k) (by simpa using h)
 simp [labB,this]
set_option maxHeartbeats 400000 in
theorem within_any (n a b:Int) (w:World) :
 Calls Tryz.prog 76 #[.int .i64 n,.int .i64 a,.int .i64 b] w fun e w'=>e=.returned (.bool (within n a b))∧w'=w:=by
 go_enter Tryz.func76,Tryz.ntmps76
 go_wp2
 all_goals
  go_ret
  exact ⟨ret_bool (by unfold within;rw [Bool.eq_iff_iff];simp;try omega),rfl⟩
set_option maxHeartbeats 400000 in
theorem address_any (n:Int) (w:World) :
 Calls Tryz.prog 39 #[.int .i64 n] w fun e w'=>e=.returned (.bool (within n 0 4294967295))∧w'=w:=by
 go_enter Tryz.func39,Tryz.ntmps39
 go_wp2_with (go_at_call 76;refine (within_any _ _ _ _).mono ?_;rintro e w' ⟨rfl,rfl⟩)
 go_ret
 exact ⟨rfl,rfl⟩
set_option maxHeartbeats 800000 in
theorem labelByte_any (n:Int) (w:World) :
 Calls Tryz.prog 120 #[.int .u8 n] w fun e w'=>e=.returned (.bool (lbB n))∧w'=w:=by
 go_enter Tryz.func120,Tryz.ntmps120
 go_wp2
 all_goals
  go_ret
  exact ⟨ret_bool (by unfold lbB;rw [Bool.eq_iff_iff];simp;try omega),rfl⟩
set_option maxHeartbeats 800000 in
theorem label_any (s:ByteArray) (w:World) (hs:s.size≤maxLen) :
 Calls Tryz.prog 75 #[.string s] w fun e w'=>e=.returned (.bool (labB s))∧w'=w:=by
 unfold maxLen at hs
 by_cases hz:within (s.size:Int) 1 30=true
 ·have hz':1≤s.size∧s.size≤30:=by simp [within] at hz;omega
  go_enter Tryz.func75,Tryz.ntmps75
  go_wp2_with (go_at_call 76;refine (within_any _ _ _ _).mono ?_;rintro e w' ⟨rfl,rfl⟩;rw [hz])
  go_loop [10] (fun i=>∃ k:Nat,k≤s.size∧i=.int .i64 k∧(s.data.toList.take k).all (fun c=>lbB c.toNat)=true) (fun i=>s.size - (intOf i).toNat)
  case atStart=>exact ⟨0,Nat.zero_le _,rfl,rfl⟩
  case round=>
   obtain ⟨k,hk,rfl,hall⟩:=hrel
   have HA:Hid ((s.data.toList.take k).all (fun c=>lbB c.toNat)=true):=hall
   clear hall
   by_cases hlt:k < s.size
   ·by_cases hb:lbB (s[k].toNat:Int)=true
    ·go_wp2_with (go_at_call 120;refine (labelByte_any _ _).mono ?_;rintro e w' ⟨rfl,rfl⟩;rw [hb])
     go_round
     case rel=>exact ⟨k+1,by omega,by go_num,labs_step s k hlt HA.out hb⟩
     case measure=>simp [intOf];omega
    ·have hb':lbB (s[k].toNat:Int)=false:=by simpa using hb
     go_wp2_with (go_at_call 120;refine (labelByte_any _ _).mono ?_;rintro e w' ⟨rfl,rfl⟩;rw [hb'])
     go_ret
     exact ⟨ret_bool (labs_not s k hlt hb').symm,rfl⟩
   ·go_wp2
    go_ret
    have h2:=HA.out
    rw [take_all s k (by omega)] at h2
    exact ⟨ret_bool (by simp [labB,h2,hz'.1,hz'.2]),rfl⟩
 ·have hz':within (s.size:Int) 1 30=false:=by simpa using hz
  go_enter Tryz.func75,Tryz.ntmps75
  go_wp2_with (go_at_call 76;refine (within_any _ _ _ _).mono ?_;rintro e w' ⟨rfl,rfl⟩;rw [hz'])
  go_ret
  refine ⟨ret_bool ?_,rfl⟩
  symm
  simp only [within,Bool.and_eq_false_iff,decide_eq_false_iff_not] at hz'
  simp only [labB,Bool.and_eq_false_iff,decide_eq_false_iff_not]
  rcases hz' with h | h
  ·exact .inl (.inl (by omega))
  ·exact .inl (.inr (by omega))
theorem bcell {W w1:World} (hb:Below W.heap.size W w1):(∀ b o,b < W.heap.size→w1.cell? ⟨b,o,none⟩=W.cell? ⟨b,o,none⟩)∧(∀ b o,b < W.heap.size→w1.frozen? ⟨b,o,none⟩=W.frozen? ⟨b,o,none⟩):=
 ⟨fun b o h=>hb.cell (p:=⟨b,o,none⟩) h,fun b o h=>hb.frozen (p:=⟨b,o,none⟩) h⟩
def less (a b:ByteArray):Bool:=Op.bytesLess a.toList b.toList
theorem bl_irrefl:∀ a:List UInt8,Op.bytesLess a a=false
 | []=>rfl
 | x :: r=>by simp [Op.bytesLess,bl_irrefl r]
theorem bl_total:∀ a b:List UInt8,(!(Op.bytesLess a b))=(Op.bytesLess b a || b == a)
 | [],[]=>rfl
 | [],_ :: _=>rfl
 | _ :: _,[]=>rfl
 | x :: r,y :: t=>by
   have:=bl_total r t
   by_cases h1:x < y
   ·have h2:¬ y < x:=by rw [UInt8.lt_iff_toNat_lt] at *;omega
    have h3:¬ y=x:=by rintro rfl;rw [UInt8.lt_iff_toNat_lt] at *;omega
    simp [Op.bytesLess,h1,h2,h3]
   ·by_cases h2:y < x
    ·have h3:¬ y=x:=by rintro rfl;rw [UInt8.lt_iff_toNat_lt] at *;omega
     have h4:¬ x=y:=fun h=>h3 h.symm
     simp [Op.bytesLess,h1,h2,h4]
    ·have h3:y=x:=by
      apply UInt8.toNat_inj.1
      rw [UInt8.lt_iff_toNat_lt] at *;omega
     subst h3
     simp [Op.bytesLess]
     simpa using this
def cmpI (a b:ByteArray):Int:=Lib.compareBytes a.data.toList b.data.toList
theorem cmpstring_run (a b:ByteArray) (w:World):(callFunc 220 #[.string a,.string b]).run Tryz.prog w=.ok (.value (.int .i64 (cmpI a b))) w:=by
 rw [run_callFunc_extern Tryz.func220 (by kernel_rfl) (by kernel_rfl) (by kernel_rfl) (e:=Extern.BytealgCompare.compare) (by kernel_rfl),Lib.run_compareString]
 rfl
set_option maxHeartbeats 400000 in
theorem compare_any (a b:ByteArray) (w:World) :
 Calls Tryz.prog 99 #[.string a,.string b] w fun e w'=>e=.returned (.int .i64 (cmpI a b))∧w'=w:=by
 have hc:=cmpstring_run
 go_enter Tryz.func99,Tryz.ntmps99
 go_wp2
 go_ret
 exact ⟨rfl,rfl⟩
theorem cb_lt:∀ a b:List UInt8,Lib.compareBytes a b < 0↔Op.bytesLess a b=true
 | [],[]=>by simp [Lib.compareBytes,Op.bytesLess]
 | [],_ :: _=>by simp [Lib.compareBytes,Op.bytesLess]
 | _ :: _,[]=>by simp [Lib.compareBytes,Op.bytesLess]
 | x :: r,y :: t=>by
   have ih:=cb_lt r t
   by_cases h1:x < y
   ·simp [Lib.compareBytes,Op.bytesLess,h1]
   ·by_cases h2:y < x
    ·have h3:¬ x=y:=by rintro rfl;exact h1 h2
     simp [Lib.compareBytes,Op.bytesLess,h1,h2,h3]
    ·have h3:x=y:=by
      apply UInt8.toNat_inj.1
      rw [UInt8.lt_iff_toNat_lt] at *;omega
     subst h3
     simpa [Lib.compareBytes,Op.bytesLess] using ih
theorem cb_eq:∀ a b:List UInt8,Lib.compareBytes a b=0↔a=b
 | [],[]=>by simp [Lib.compareBytes]
 | [],_ :: _=>by simp [Lib.compareBytes]
 | _ :: _,[]=>by simp [Lib.compareBytes]
 | x :: r,y :: t=>by
   have ih:=cb_eq r t
   by_cases h1:x < y
   ·have h3:¬ x=y:=by rintro rfl;rw [UInt8.lt_iff_toNat_lt] at *;omega
    simp [Lib.compareBytes,h1,h3]
   ·by_cases h2:y < x
    ·have h3:¬ x=y:=by rintro rfl;exact h1 h2
     simp [Lib.compareBytes,h1,h2,h3]
    ·have h3:x=y:=by
      apply UInt8.toNat_inj.1
      rw [UInt8.lt_iff_toNat_lt] at *;omega
     subst h3
     simpa [Lib.compareBytes] using ih
theorem bl_trans:∀ a b c:List UInt8,Op.bytesLess a b=true→Op.bytesLess b c=true→Op.bytesLess a c=true
 | [],[],_,h,_=>by simp [Op.bytesLess] at h
 | [],_ :: _,[],_,h=>by simp [Op.bytesLess] at h
 | [],_ :: _,_ :: _,_,_=>by simp [Op.bytesLess]
 | _ :: _,[],_,h,_=>by simp [Op.bytesLess] at h
 | _ :: _,_ :: _,[],_,h=>by simp [Op.bytesLess] at h
 | x :: r,y :: t,z :: u,h1,h2=>by
   have ih:=bl_trans r t u
   simp only [Op.bytesLess,Bool.or_eq_true,Bool.and_eq_true,decide_eq_true_eq,beq_iff_eq] at h1 h2 ⊢
   rcases h1 with h1 | ⟨rfl,h1⟩
   ·rcases h2 with h2 | ⟨rfl,h2⟩
    ·left;rw [UInt8.lt_iff_toNat_lt] at *;omega
    ·left;exact h1
   ·rcases h2 with h2 | ⟨rfl,h2⟩
    ·left;exact h2
    ·right;exact ⟨rfl,ih h1 h2⟩
theorem ba_ext {a b:ByteArray} (h:a.data.toList=b.data.toList):a=b:=by
 obtain ⟨⟨la⟩⟩:=a;obtain ⟨⟨lb⟩⟩:=b;simp at h;subst h;rfl
theorem cmpI_lt (a b:ByteArray):cmpI a b < 0↔less a b=true:=by
 unfold cmpI less;rw [Lib.toList_data,Lib.toList_data];exact cb_lt _ _
theorem cmpI_eq (a b:ByteArray):cmpI a b=0↔a=b:=by
 unfold cmpI;rw [cb_eq];exact ⟨ba_ext,fun h=>by rw [h]⟩
theorem less_trans {a b c:ByteArray} (h1:less a b=true) (h2:less b c=true):less a c=true:=bl_trans _ _ _ h1 h2
theorem less_irrefl (a:ByteArray):less a a=false:=bl_irrefl _
theorem less_total (a b:ByteArray):less a b=true∨a=b∨less b a=true:=by
 have h:=bl_total a.toList b.toList
 unfold less
 cases h1:Op.bytesLess a.toList b.toList
 ·rw [h1] at h
  cases h2:Op.bytesLess b.toList a.toList
  ·rw [h2] at h
   right;left
   have:b.toList=a.toList:=by simpa using h.symm
   rw [Lib.toList_data,Lib.toList_data] at this
   exact (ba_ext this).symm
  ·right;right;rfl
 ·left;rfl
theorem less_asymm {a b:ByteArray} (h1:less a b=true):less b a=false:=by
 cases h:less b a
 ·rfl
 ·have:=less_trans h1 h;rw [less_irrefl] at this;cases this
theorem cmpI_gt (a b:ByteArray):0 < cmpI a b↔less b a=true:=by
 have h1:=cmpI_lt a b
 have h2:=cmpI_eq a b
 rcases less_total a b with h | rfl | h
 ·have:=h1.2 h
  rw [less_asymm h]
  simp;omega
 ·rw [less_irrefl];have:=h2.2 rfl;simp;omega
 ·rw [h]
  have h3:¬ cmpI a b < 0:=fun hh=>by rw [h1,less_asymm h] at hh;cases hh
  have h4:¬ cmpI a b=0:=fun hh=>by rw [h2] at hh;subst hh;rw [less_irrefl] at h;cases h
  simp;omega
theorem run_copy_k {P:Program} (w:World) (dT sT ty elem:TypeId) (g o dLen dCap:Nat) (a:Addr) (sLen sCap k:Nat) (cur:Array Value) (t:TypeId) (cs:List Value)
 (hu:P.underlying dT=some (.slice elem)) (hs:(P.info? elem).map (·.size)=some k)
 (hg:w.heap[g]?=some (.cells cur t (0,0))) (hn:cs.length=Nat.min sLen dLen * k)
 (hsrc:∀ j v,cs[j]?=some v→w.cell? (a.add j)=some v) (hfit:o+cs.length≤cur.size) (h1:∀ v∈cs,v.oneCell'=true) :
 (Builtin.copy_ #[dT,sT] ty #[.slice (some ⟨g,o,none⟩) dLen dCap,.slice (some a) sLen sCap]).run P w =
   .ok (goInt (Nat.min sLen dLen)) (w.setRow g (cur.toList.take o++cs++cur.toList.drop (o+cs.length)).toArray):=by
 have hl:=run_loadCells_list (P:=P) w a cs hsrc
 have hst:=run_storeCells_at P g o t cs 0 cur w hg (by simpa using hfit) h1
 cases hq:P.info? elem with
 | none=>simp [hq] at hs
 | some i=>
   have hi:i.size=k:=by simpa [hq] using hs
   simp [Builtin.copy_,run_underlying hu,Builtin.lenOf,Builtin.firstCells,sizeOf,typeInfo,hq,hi,← hn,hl,hst]
theorem step_copy_runM {P:Program} {ops:Array Oper} {o:Oper} {a:Act} {w:World} {K:Act→World→Prop} {Q:Exit→Act→World→Prop} {E:Prop}
 (hg:o.guard=none) (d x:Operand) (dT sT:TypeId) (hop:o.op=Op.call { callee:=Callee.builtin Builtin.copy,args:=#[d,x],argTypes:=#[dT,sT] })
 (v u:Value) (hd:a.eval d=v) (hx:a.eval x=u) {v':Value} {w':World} (hr:(Builtin.copy_ #[dT,sT] o.type #[v,u]).run P w=.ok v' w') (hK:K (a.put o.dst v') w') :
 if Region.wanted o (yielded ops a.tmps)=true then Oper.wp P o a w K Q else E:=by
 have hw:Region.wanted o (yielded ops a.tmps)=true:=by simp [Region.wanted,hg]
 rw [if_pos hw]
 unfold Oper.wp
 simp [execOp,hop,resolve,invoke,builtin,hd,hx,hr,Result.andThen]
 exact hK
theorem cellsAt {w:World} {g:Nat} {cur:Array Value} {t:TypeId} {fr:Nat × Nat} (hg:w.heap[g]?=some (.cells cur t fr)) (o:Nat):w.cell? ⟨g,o,none⟩=cur[o]?:=by
 simp [World.cell?,hg]
theorem beq_name {a b:ByteArray} (h:a≠b):(a.toList == b.toList)=false∧¬ a.toList=b.toList:=by
 have h2:¬ a.toList=b.toList:=fun e=>h (ba_ext (by rw [Lib.toList_data,Lib.toList_data] at e;exact e))
 exact ⟨by simpa using h2,h2⟩
theorem cell_topL {W:World} {cs:Array Value} {t:TypeId} {g k:Nat} (hg:g=W.heap.size):(W.alloc (.cells cs t)).cell? ⟨g,k,none⟩=cs[k]?:=by subst hg;simp
theorem grown_any {w w':World} (h:w.grownBy w' none) (row:Option Nat):w.grownBy w' row:=⟨h.os,h.tape,h.output,h.size,fun k hk _=>h.block k hk (by simp)⟩
end Go.Proofs.YtffdoiokmiklgaaGreatDoor
namespace Go.Proofs.YtffdoiokmiklgaaGreatDoor
namespace RL
section
variable {α:Type}
structure Keyed (o:α→α→Int):Prop where
 refl:∀ a,o a a=0
 gt:∀ a b,0 < o a b↔o b a < 0
 trans:∀ a b c,o a b < 0→o b c < 0→o a c < 0
 left:∀ a b c,o a b=0→o a c=o b c
 right:∀ a b c,o a b=0→o c a=o c b
theorem Keyed.symm {o:α→α→Int} (h:Keyed o) {a b:α} (e:o a b=0):o b a=0:=by
 have h1:=h.gt a b
 have h2:=h.gt b a
 rcases Int.lt_trichotomy (o b a) 0 with hl | he | hg
 ·have:=h1.2 hl;omega
 ·exact he
 ·have:=h2.1 hg;omega
theorem Keyed.eqt {o:α→α→Int} (h:Keyed o) {a b c:α} (e:o a b=0) (f:o b c=0):o a c=0:=by rw [h.left a b c e];exact f
variable (o:α→α→Int) (nw:α→α→Bool) (d:α)
abbrev Rise (ms:List α):Prop:=ms.Pairwise fun a b=>o a b < 0
def risesB:List α→Bool
 | []=>true
 | [_]=>true
 | a :: b :: r=>decide (o a b < 0) && risesB (b :: r)
theorem rise_of (hk:Keyed o):∀ ms:List α,risesB o ms=true→Rise o ms
 | [],_=>.nil
 | [x],_=>by simp [Rise]
 | a :: b :: r,h=>by
   rw [risesB,Bool.and_eq_true,decide_eq_true_eq] at h
   have ih:=rise_of hk (b :: r) h.2
   refine List.pairwise_cons.2 ⟨fun c hc=>?_,ih⟩
   rcases List.mem_cons.1 hc with rfl | hc
   ·exact h.1
   ·exact hk.trans _ _ _ h.1 (List.rel_of_pairwise_cons ih hc)
theorem rises_all:∀ ms:List α,(∀ j,j+1 < ms.length→o (ms.getD j d) (ms.getD (j+1) d) < 0)→risesB o ms=true
 | [],_=>rfl
 | [x],_=>rfl
 | a :: b :: r,h=>by
   rw [risesB,Bool.and_eq_true,decide_eq_true_eq]
   refine ⟨by have:=h 0 (by simp);simpa using this,rises_all (b :: r) fun j hj=>?_⟩
   have:=h (j+1) (by simpa using hj)
   simpa using this
theorem rises_get:∀ ms:List α,risesB o ms=true→∀ j,j+1 < ms.length→o (ms.getD j d) (ms.getD (j+1) d) < 0
 | [],_,j,hj=>by simp at hj
 | [x],_,j,hj=>by simp at hj
 | a :: b :: r,h,0,_=>by
   rw [risesB,Bool.and_eq_true,decide_eq_true_eq] at h
   simpa using h.1
 | a :: b :: r,h,j+1,hj=>by
   rw [risesB,Bool.and_eq_true,decide_eq_true_eq] at h
   have:=rises_get (b :: r) h.2 j (by simpa using hj)
   simpa using this
def hear:List α→α→List α
 | [],m=>[m]
 | x :: r,m=>if o x m < 0 then x :: hear r m else if o x m=0 then (if nw m x=true then m :: r else x :: r) else m :: x :: r
def join (a b:List α):List α:=b.foldl (hear o nw) a
end
end RL
namespace Wh
open Go.RowKit
structure Whe where
 node:ByteArray
 x:Int
 y:Int
 z:Int
 h:Int
 s:Int
def dm:Whe:=⟨ByteArray.empty,0,0,0,0,0⟩
def Whe.ok (m:Whe):Prop:=m.node.size≤maxLen
theorem dm_ok:dm.ok:=by simp [Whe.ok,dm]
def Row (w:World) (b off:Nat) (ms:List Whe):Prop:=∀ j,j < ms.length →
 w.cell? ⟨b,off+j * 6,none⟩=some (.string (ms.getD j dm).node)∧w.cell? ⟨b,off+j * 6+1,none⟩=some (.int .i64 (ms.getD j dm).x)∧w.cell? ⟨b,off+j * 6+2,none⟩=some (.int .i64 (ms.getD j dm).y)∧w.cell? ⟨b,off+j * 6+3,none⟩=some (.int .i64 (ms.getD j dm).z)∧w.cell? ⟨b,off+j * 6+4,none⟩=some (.int .i64 (ms.getD j dm).h)∧w.cell? ⟨b,off+j * 6+5,none⟩=some (.int .i64 (ms.getD j dm).s)
def Sl (w:World) (v:Value) (ms:List Whe):Prop:=
 ∃ (a:Option Addr) (cap:Nat),v=.slice a ms.length cap∧(∀ j,(ms.getD j dm).ok) ∧
  (ms=[]∨∃ b off,a=some ⟨b,off,none⟩∧b < w.heap.size∧Row w b off ms)
def Whe.cs (m:Whe):List Value:=[.string m.node,.int .i64 m.x,.int .i64 m.y,.int .i64 m.z,.int .i64 m.h,.int .i64 m.s]
def fl (ms:List Whe):List Value:=ms.flatMap Whe.cs
theorem cs_len (m:Whe):m.cs.length=6:=rfl
theorem fl_cons (m:Whe) (r:List Whe):fl (m :: r)=m.cs++fl r:=by simp [fl]
theorem fl_append (a b:List Whe):fl (a++b)=fl a++fl b:=by simp [fl]
theorem fl_len:∀ ms:List Whe,(fl ms).length=ms.length * 6
 | []=>rfl
 | m :: r=>by rw [fl_cons,List.length_append,fl_len r,cs_len,List.length_cons];omega
theorem cs_one (m:Whe):∀ v∈m.cs,v.oneCell'=true:=by
 intro v hv;simp [Whe.cs] at hv;rcases hv with rfl | rfl | rfl | rfl | rfl | rfl<;>rfl
theorem fl_one (ms:List Whe):∀ v∈fl ms,v.oneCell'=true:=by
 intro v hv
 obtain ⟨m,_,h⟩:=List.mem_flatMap.1 hv
 exact cs_one m v h
theorem fl_get (ms:List Whe) (j:Nat) (hj:j < ms.length) (t:Nat) (ht:t < 6):(fl ms)[j * 6+t]?=(ms.getD j dm).cs[t]?:=by
 induction ms generalizing j with
 | nil=>simp at hj
 | cons m r ih=>
   rw [fl_cons]
   cases j with
   | zero=>rw [List.getElem?_append_left (by rw [cs_len];omega)];simp
   | succ j=>
     rw [List.getElem?_append_right (by rw [cs_len];omega),cs_len,show (j+1) * 6+t - 6=j * 6+t by omega,ih j (by simpa using hj)]
     simp
abbrev Own (base:Nat) (w:World) (v:Value) (ms:List Whe):Prop:=w.ownsRow base 109 6 v ms.length (fl ms)
theorem Own.sl {base:Nat} {w:World} {v:Value} {ms:List Whe} (h:Own base w v ms) (hs:∀ j,(ms.getD j dm).ok):Sl w v ms:=by
 rcases h.2 with ⟨rfl,h0⟩ | ⟨g,c,cur,rfl,hbg,hg,hnc,hcm,hcs,htake⟩
 ·exact ⟨none,0,by rw [h0],hs,.inl (List.eq_nil_of_length_eq_zero h0)⟩
 ·refine ⟨_,c,rfl,hs,.inr ⟨g,0,rfl,(Array.getElem?_eq_some_iff.1 hg).1,fun j hj=>?_⟩⟩
  have hc:∀ t,t < 6→w.cell? ⟨g,0+j * 6+t,none⟩=(ms.getD j dm).cs[t]?:=fun t ht=>by
   rw [cellsAt hg,← fl_get ms j hj t ht,← htake,List.getElem?_take_of_lt (by omega)];simp
  exact ⟨hc 0 (by omega),hc 1 (by omega),hc 2 (by omega),hc 3 (by omega),hc 4 (by omega),hc 5 (by omega)⟩
theorem Own.below {base:Nat} {w w':World} {v:Value} {ms:List Whe} (h:Own base w v ms) (hb:Below w.heap.size w w'):Own base w' v ms:=by
 rcases h.2 with ⟨rfl,h0⟩ | ⟨g,c,cur,rfl,hbg,hg,hnc,hcm,hcs,htake⟩
 ·exact ⟨h.1,.inl ⟨rfl,h0⟩⟩
 ·have hlt:g < w.heap.size:=(Array.getElem?_eq_some_iff.1 hg).1
  exact ⟨h.1,.inr ⟨g,c,cur,rfl,hbg,(hb.block g hlt).trans hg,hnc,hcm,hcs,htake⟩⟩
theorem Own.lt {base:Nat} {w:World} {v:Value} {ms:List Whe} (h:Own base w v ms) (k:Nat) (hk:v.ownBlock=some k):base≤k∧k < w.heap.size:=World.ownsRow.lt h k hk
theorem Sl.below {w w':World} {v:Value} {ms:List Whe} (h:Sl w v ms) (hb:Below w.heap.size w w'):Sl w' v ms:=by
 obtain ⟨a,cap,rfl,hs,h⟩:=h
 refine ⟨a,cap,rfl,hs,?_⟩
 rcases h with h | ⟨b,off,rfl,hlt,hr⟩
 ·exact .inl h
 ·refine .inr ⟨b,off,rfl,Nat.lt_of_lt_of_le hlt hb.size,fun j hj=>?_⟩
  obtain ⟨hc,_⟩:=bcell hb
  obtain ⟨c0,c1,c2,c3,c4,c5⟩:=hr j hj
  exact ⟨(hc _ _ hlt).trans c0,(hc _ _ hlt).trans c1,(hc _ _ hlt).trans c2,(hc _ _ hlt).trans c3,(hc _ _ hlt).trans c4,(hc _ _ hlt).trans c5⟩
theorem Row.later {w w':World} {b off:Nat} {ms:List Whe} (hr:Row w b off ms) (hb:Below w.heap.size w w') (hlt:b < w.heap.size):Row w' b off ms:=fun j hj=>by
 obtain ⟨hc,_⟩:=bcell hb
 obtain ⟨c0,c1,c2,c3,c4,c5⟩:=hr j hj
 exact ⟨(hc _ _ hlt).trans c0,(hc _ _ hlt).trans c1,(hc _ _ hlt).trans c2,(hc _ _ hlt).trans c3,(hc _ _ hlt).trans c4,(hc _ _ hlt).trans c5⟩
theorem Own.mono {base base':Nat} {w:World} {v:Value} {ms:List Whe} (h:Own base w v ms) (hb:base'≤base):Own base' w v ms:=by
 rcases h.2 with ⟨rfl,h0⟩ | ⟨g,c,cur,rfl,hbg,hg,hnc,hcm,hcs,htake⟩
 ·exact ⟨h.1,.inl ⟨rfl,h0⟩⟩
 ·exact ⟨h.1,.inr ⟨g,c,cur,rfl,Nat.le_trans hb hbg,hg,hnc,hcm,hcs,htake⟩⟩
theorem own_nil (base:Nat) (w:World):Own base w (.slice none 0 0) []:=World.ownsRow_nil w base 109 6
theorem ns_mem {ms:List Whe} (h:∀ j,(ms.getD j dm).ok):∀ m∈ms,(m).ok:=by
 intro m hm
 obtain ⟨j,hj,rfl⟩:=List.getElem_of_mem hm
 have:=h j
 simpa [List.getD,List.getElem?_eq_getElem hj] using this
theorem ns_get {ms:List Whe} (h:∀ m∈ms,(m).ok):∀ j,(ms.getD j dm).ok:=by
 intro j
 by_cases hj:j < ms.length
 ·have:=h ms[j] (List.getElem_mem hj)
  simpa [List.getD,List.getElem?_eq_getElem hj] using this
 ·rw [List.getD,List.getElem?_eq_none (Nat.le_of_not_lt hj)];exact dm_ok
theorem own_names {base:Nat} {w:World} {v:Value} {ms:List Whe} (h:Own base w v ms) (hs:∀ m∈ms,(m).ok):Sl w v ms:=h.sl (ns_get hs)
theorem own_snoc {base:Nat} {w:World} {v:Value} {L:List Whe} {m:Whe} (h:w.ownsRow base 109 6 v (L.length+1) (fl L++m.cs)):Own base w v (L++[m]):=by
 have e:fl (L++[m])=fl L++m.cs:=by rw [fl_append,fl_cons];simp [fl]
 show w.ownsRow base 109 6 v (L++[m]).length (fl (L++[m]))
 rw [e,List.length_append]
 exact h
end Wh
end Go.Proofs.YtffdoiokmiklgaaGreatDoor
namespace Go.Proofs.YtffdoiokmiklgaaGreatDoor
open Go.RowKit
theorem cmpI_self (a:ByteArray):cmpI a a=0:=(cmpI_eq a a).2 rfl
theorem cmpI_flip (a b:ByteArray):0 < cmpI a b↔cmpI b a < 0:=by rw [cmpI_gt,cmpI_lt]
theorem cmpI_trans (a b c:ByteArray) (h1:cmpI a b < 0) (h2:cmpI b c < 0):cmpI a c < 0:=by
 rw [cmpI_lt] at *;exact less_trans h1 h2
namespace RL
section
variable {α:Type}
theorem keyed_txt (f:α→ByteArray):Keyed fun a b=>cmpI (f a) (f b) where
 refl a:=cmpI_self _
 gt a b:=cmpI_flip _ _
 trans a b c h1 h2:=cmpI_trans _ _ _ h1 h2
 left a b c h:=by rw [(cmpI_eq _ _).1 h]
 right a b c h:=by rw [(cmpI_eq _ _).1 h]
def bI (b:Bool):Int:=if b=true then 1 else 0
def lex (o p:α→α→Int) (a b:α):Int:=if o a b=0 then p a b else o a b
theorem keyed_lex {o p:α→α→Int} (h:Keyed o) (k:Keyed p):Keyed (lex o p) where
 refl a:=by rw [lex,if_pos (h.refl a),k.refl a]
 gt a b:=by
  unfold lex
  by_cases e:o a b=0
  ·rw [if_pos e,if_pos (h.symm e)];exact k.gt a b
  ·rw [if_neg e,if_neg (fun e2=>e (h.symm e2))];exact h.gt a b
 trans a b c h1 h2:=by
  unfold lex at *
  by_cases e:o a b=0
  ·rw [if_pos e] at h1
   by_cases e2:o b c=0
   ·rw [if_pos e2] at h2
    rw [if_pos (h.eqt e e2)];exact k.trans _ _ _ h1 h2
   ·rw [if_neg e2] at h2
    rw [if_neg (fun e3=>e2 (h.eqt (h.symm e) e3)),h.left a b c e];exact h2
  ·rw [if_neg e] at h1
   by_cases e2:o b c=0
   ·rw [if_neg (fun e3=>e (h.eqt e3 (h.symm e2))),← h.right b c a e2];exact h1
   ·rw [if_neg e2] at h2
    have h3:=h.trans _ _ _ h1 h2
    rw [if_neg (by omega)];exact h3
 left a b c e:=by
  unfold lex at *
  by_cases e1:o a b=0
  ·rw [if_pos e1] at e
   rw [h.left a b c e1,k.left a b c e]
  ·rw [if_neg e1] at e;exact absurd e e1
 right a b c e:=by
  unfold lex at *
  by_cases e1:o a b=0
  ·rw [if_pos e1] at e
   rw [h.right a b c e1,k.right a b c e]
  ·rw [if_neg e1] at e;exact absurd e e1
end
end RL
end Go.Proofs.YtffdoiokmiklgaaGreatDoor
namespace Go.Proofs.YtffdoiokmiklgaaGreatDoor
namespace Gw
open Go.RowKit
structure Gwy where
 centre:ByteArray
 addr:Int
 version:Int
def dm:Gwy:=⟨ByteArray.empty,0,0⟩
def Gwy.ok (m:Gwy):Prop:=m.centre.size≤maxLen
theorem dm_ok:dm.ok:=by simp [Gwy.ok,dm]
def Row (w:World) (b off:Nat) (ms:List Gwy):Prop:=∀ j,j < ms.length →
 w.cell? ⟨b,off+j * 3,none⟩=some (.string (ms.getD j dm).centre)∧w.cell? ⟨b,off+j * 3+1,none⟩=some (.int .i64 (ms.getD j dm).addr)∧w.cell? ⟨b,off+j * 3+2,none⟩=some (.int .i64 (ms.getD j dm).version)
def Sl (w:World) (v:Value) (ms:List Gwy):Prop:=
 ∃ (a:Option Addr) (cap:Nat),v=.slice a ms.length cap∧(∀ j,(ms.getD j dm).ok) ∧
  (ms=[]∨∃ b off,a=some ⟨b,off,none⟩∧b < w.heap.size∧Row w b off ms)
def Gwy.cs (m:Gwy):List Value:=[.string m.centre,.int .i64 m.addr,.int .i64 m.version]
def fl (ms:List Gwy):List Value:=ms.flatMap Gwy.cs
theorem cs_len (m:Gwy):m.cs.length=3:=rfl
theorem fl_cons (m:Gwy) (r:List Gwy):fl (m :: r)=m.cs++fl r:=by simp [fl]
theorem fl_append (a b:List Gwy):fl (a++b)=fl a++fl b:=by simp [fl]
theorem fl_len:∀ ms:List Gwy,(fl ms).length=ms.length * 3
 | []=>rfl
 | m :: r=>by rw [fl_cons,List.length_append,fl_len r,cs_len,List.length_cons];omega
theorem cs_one (m:Gwy):∀ v∈m.cs,v.oneCell'=true:=by
 intro v hv;simp [Gwy.cs] at hv;rcases hv with rfl | rfl | rfl<;>rfl
theorem fl_one (ms:List Gwy):∀ v∈fl ms,v.oneCell'=true:=by
 intro v hv
 obtain ⟨m,_,h⟩:=List.mem_flatMap.1 hv
 exact cs_one m v h
theorem fl_get (ms:List Gwy) (j:Nat) (hj:j < ms.length) (t:Nat) (ht:t < 3):(fl ms)[j * 3+t]?=(ms.getD j dm).cs[t]?:=by
 induction ms generalizing j with
 | nil=>simp at hj
 | cons m r ih=>
   rw [fl_cons]
   cases j with
   | zero=>rw [List.getElem?_append_left (by rw [cs_len];omega)];simp
   | succ j=>
     rw [List.getElem?_append_right (by rw [cs_len];omega),cs_len,show (j+1) * 3+t - 3=j * 3+t by omega,ih j (by simpa using hj)]
     simp
abbrev Own (base:Nat) (w:World) (v:Value) (ms:List Gwy):Prop:=w.ownsRow base 107 3 v ms.length (fl ms)
theorem Own.sl {base:Nat} {w:World} {v:Value} {ms:List Gwy} (h:Own base w v ms) (hs:∀ j,(ms.getD j dm).ok):Sl w v ms:=by
 rcases h.2 with ⟨rfl,h0⟩ | ⟨g,c,cur,rfl,hbg,hg,hnc,hcm,hcs,htake⟩
 ·exact ⟨none,0,by rw [h0],hs,.inl (List.eq_nil_of_length_eq_zero h0)⟩
 ·refine ⟨_,c,rfl,hs,.inr ⟨g,0,rfl,(Array.getElem?_eq_some_iff.1 hg).1,fun j hj=>?_⟩⟩
  have hc:∀ t,t < 3→w.cell? ⟨g,0+j * 3+t,none⟩=(ms.getD j dm).cs[t]?:=fun t ht=>by
   rw [cellsAt hg,← fl_get ms j hj t ht,← htake,List.getElem?_take_of_lt (by omega)];simp
  exact ⟨hc 0 (by omega),hc 1 (by omega),hc 2 (by omega)⟩
theorem Own.below {base:Nat} {w w':World} {v:Value} {ms:List Gwy} (h:Own base w v ms) (hb:Below w.heap.size w w'):Own base w' v ms:=by
 rcases h.2 with ⟨rfl,h0⟩ | ⟨g,c,cur,rfl,hbg,hg,hnc,hcm,hcs,htake⟩
 ·exact ⟨h.1,.inl ⟨rfl,h0⟩⟩
 ·have hlt:g < w.heap.size:=(Array.getElem?_eq_some_iff.1 hg).1
  exact ⟨h.1,.inr ⟨g,c,cur,rfl,hbg,(hb.block g hlt).trans hg,hnc,hcm,hcs,htake⟩⟩
theorem Own.lt {base:Nat} {w:World} {v:Value} {ms:List Gwy} (h:Own base w v ms) (k:Nat) (hk:v.ownBlock=some k):base≤k∧k < w.heap.size:=World.ownsRow.lt h k hk
theorem Sl.below {w w':World} {v:Value} {ms:List Gwy} (h:Sl w v ms) (hb:Below w.heap.size w w'):Sl w' v ms:=by
 obtain ⟨a,cap,rfl,hs,h⟩:=h
 refine ⟨a,cap,rfl,hs,?_⟩
 rcases h with h | ⟨b,off,rfl,hlt,hr⟩
 ·exact .inl h
 ·refine .inr ⟨b,off,rfl,Nat.lt_of_lt_of_le hlt hb.size,fun j hj=>?_⟩
  obtain ⟨hc,_⟩:=bcell hb
  obtain ⟨c0,c1,c2⟩:=hr j hj
  exact ⟨(hc _ _ hlt).trans c0,(hc _ _ hlt).trans c1,(hc _ _ hlt).trans c2⟩
theorem Row.later {w w':World} {b off:Nat} {ms:List Gwy} (hr:Row w b off ms) (hb:Below w.heap.size w w') (hlt:b < w.heap.size):Row w' b off ms:=fun j hj=>by
 obtain ⟨hc,_⟩:=bcell hb
 obtain ⟨c0,c1,c2⟩:=hr j hj
 exact ⟨(hc _ _ hlt).trans c0,(hc _ _ hlt).trans c1,(hc _ _ hlt).trans c2⟩
theorem Own.mono {base base':Nat} {w:World} {v:Value} {ms:List Gwy} (h:Own base w v ms) (hb:base'≤base):Own base' w v ms:=by
 rcases h.2 with ⟨rfl,h0⟩ | ⟨g,c,cur,rfl,hbg,hg,hnc,hcm,hcs,htake⟩
 ·exact ⟨h.1,.inl ⟨rfl,h0⟩⟩
 ·exact ⟨h.1,.inr ⟨g,c,cur,rfl,Nat.le_trans hb hbg,hg,hnc,hcm,hcs,htake⟩⟩
theorem own_nil (base:Nat) (w:World):Own base w (.slice none 0 0) []:=World.ownsRow_nil w base 107 3
theorem ns_mem {ms:List Gwy} (h:∀ j,(ms.getD j dm).ok):∀ m∈ms,(m).ok:=by
 intro m hm
 obtain ⟨j,hj,rfl⟩:=List.getElem_of_mem hm
 have:=h j
 simpa [List.getD,List.getElem?_eq_getElem hj] using this
theorem ns_get {ms:List Gwy} (h:∀ m∈ms,(m).ok):∀ j,(ms.getD j dm).ok:=by
 intro j
 by_cases hj:j < ms.length
 ·have:=h ms[j] (List.getElem_mem hj)
  simpa [List.getD,List.getElem?_eq_getElem hj] using this
 ·rw [List.getD,List.getElem?_eq_none (Nat.le_of_not_lt hj)];exact dm_ok
theorem own_names {base:Nat} {w:World} {v:Value} {ms:List Gwy} (h:Own base w v ms) (hs:∀ m∈ms,(m).ok):Sl w v ms:=h.sl (ns_get hs)
theorem own_snoc {base:Nat} {w:World} {v:Value} {L:List Gwy} {m:Gwy} (h:w.ownsRow base 107 3 v (L.length+1) (fl L++m.cs)):Own base w v (L++[m]):=by
 have e:fl (L++[m])=fl L++m.cs:=by rw [fl_append,fl_cons];simp [fl]
 show w.ownsRow base 107 3 v (L++[m]).length (fl (L++[m]))
 rw [e,List.length_append]
 exact h
end Gw
namespace Gw
open Go.RowKit
theorem Tryz.info107:(Tryz.prog.info? 107).map (fun i=>(i.zero,i.size,i.bytes))=some (some (.agg #[.string ⟨#[]⟩,.int .i64 0,.int .i64 0]),3,32):=by kernel_rfl
end Gw
end Go.Proofs.YtffdoiokmiklgaaGreatDoor
namespace Go.Proofs.YtffdoiokmiklgaaGreatDoor
open Go.RowKit
set_option maxHeartbeats 800000 in
theorem labels_any (ss:List ByteArray) (b cap:Nat) (w:World) (hb:∀ j,j < ss.length→w.cell? ⟨b,j,none⟩=some (.string (ss.getD j ByteArray.empty))) (hs:∀ j,(ss.getD j ByteArray.empty).size≤maxLen) (hn:ss.length≤1000) :
 Calls Tryz.prog 38 #[.slice (some ⟨b,0,none⟩) ss.length cap] w fun e w'=>e=.returned (.bool (ss.all labB))∧w'=w:=by
 have HB:Hid (∀ j,j < ss.length→w.cell? ⟨b,j,none⟩=some (.string (ss.getD j ByteArray.empty))):=hb
 have HS:Hid (∀ j,(ss.getD j ByteArray.empty).size≤maxLen):=hs
 have H0:Hid ((∀ j,j < ss.length→labB (ss.getD j ByteArray.empty)=true)→ss.all labB=true):=fun h=>by
  rw [List.all_eq_true]
  intro x hx
  obtain ⟨j,hj,rfl⟩:=List.getElem_of_mem hx
  have:=h j hj
  simpa [List.getD,List.getElem?_eq_getElem hj] using this
 have H1:Hid (∀ j,j < ss.length→labB (ss.getD j ByteArray.empty)=false→ss.all labB=false):=fun j hj h=>by
  rw [List.all_eq_false]
  refine ⟨ss[j],List.getElem_mem hj,?_⟩
  rw [show ss.getD j ByteArray.empty=ss[j] by simp [List.getD,List.getElem?_eq_getElem hj]] at h
  simp [h]
 clear hb hs
 generalize ss.all labB=res at *
 generalize hN:ss.length=n at *
 clear hN
 go_enter Tryz.func38,Tryz.ntmps38
 go_wp2_with fail
 go_loop [7] (fun i=>∃ k:Nat,k≤n∧i=.int .i64 k∧Hid (∀ j,j < k→labB (ss.getD j ByteArray.empty)=true)) (fun i=>n - (intOf i).toNat)
 case atStart=>exact ⟨0,Nat.zero_le _,rfl,fun j h=>absurd h (Nat.not_lt_zero _)⟩
 case round=>
  obtain ⟨k,hk,rfl,hz⟩:=hrel
  by_cases hlt:k < n
  ·have hc:=HB.out k hlt
   have hsk:=HS.out k
   have HZ:Hid (labB (ss.getD k ByteArray.empty)=true→∀ j,j < k+1→labB (ss.getD j ByteArray.empty)=true):=fun h j hj=>by
    rcases Nat.lt_succ_iff_lt_or_eq.1 hj with h2 | rfl
    ·exact hz.out j h2
    ·exact h
   have HF:Hid (labB (ss.getD k ByteArray.empty)=false→res=false):=fun h=>H1.out k hlt h
   generalize ss.getD k ByteArray.empty=s at *
   rcases hl:labB s with _ | _
   ·have HR:Hid (res=false):=HF.out hl
    go_wp2_with (go_at_call 75;refine (label_any _ _ hsk).mono ?_;rintro e w' ⟨rfl,rfl⟩;rw [hl])
    go_ret
    exact ⟨ret_bool HR.out.symm,rfl⟩
   ·go_wp2_with (go_at_call 75;refine (label_any _ _ hsk).mono ?_;rintro e w' ⟨rfl,rfl⟩;rw [hl])
    go_round
    case rel=>exact ⟨k+1,by omega,by go_num,HZ.out hl⟩
    case measure=>simp [intOf];omega
  ·have HR:Hid (res=true):=H0.out fun j hj=>hz.out j (by omega)
   go_wp2_with fail
   go_ret
   exact ⟨ret_bool HR.out.symm,rfl⟩
def labE (t:ByteArray):Bool:=decide (t=ByteArray.empty) || labB t
set_option maxHeartbeats 1600000 in
theorem labelsE_any (ss:List ByteArray) (b cap:Nat) (w:World) (hb:∀ j,j < ss.length→w.cell? ⟨b,j,none⟩=some (.string (ss.getD j ByteArray.empty))) (hs:∀ j,(ss.getD j ByteArray.empty).size≤maxLen) (hn:ss.length≤1000) :
 Calls Tryz.prog 231 #[.slice (some ⟨b,0,none⟩) ss.length cap] w fun e w'=>e=.returned (.bool (ss.all labE))∧w'=w:=by
 have HB:Hid (∀ j,j < ss.length→w.cell? ⟨b,j,none⟩=some (.string (ss.getD j ByteArray.empty))):=hb
 have HS:Hid (∀ j,(ss.getD j ByteArray.empty).size≤maxLen):=hs
 have H0:Hid ((∀ j,j < ss.length→labE (ss.getD j ByteArray.empty)=true)→ss.all labE=true):=fun h=>by
  rw [List.all_eq_true]
  intro x hx
  obtain ⟨j,hj,rfl⟩:=List.getElem_of_mem hx
  have:=h j hj
  simpa [List.getD,List.getElem?_eq_getElem hj] using this
 have H1:Hid (∀ j,j < ss.length→labE (ss.getD j ByteArray.empty)=false→ss.all labE=false):=fun j hj h=>by
  rw [List.all_eq_false]
  refine ⟨ss[j],List.getElem_mem hj,?_⟩
  rw [show ss.getD j ByteArray.empty=ss[j] by simp [List.getD,List.getElem?_eq_getElem hj]] at h
  simp [h]
 clear hb hs
 generalize ss.all labE=res at *
 generalize hN:ss.length=n at *
 clear hN
 go_enter Tryz.func231,Tryz.ntmps231
 go_wp2_with fail
 go_loop [7] (fun i=>∃ k:Nat,k≤n∧i=.int .i64 k∧Hid (∀ j,j < k→labE (ss.getD j ByteArray.empty)=true)) (fun i=>n - (intOf i).toNat)
 case atStart=>exact ⟨0,Nat.zero_le _,rfl,fun j h=>absurd h (Nat.not_lt_zero _)⟩
 case round=>
  obtain ⟨k,hk,rfl,hz⟩:=hrel
  by_cases hlt:k < n
  ·have hc:=HB.out k hlt
   have hsk:=HS.out k
   have HZ:Hid (labE (ss.getD k ByteArray.empty)=true→∀ j,j < k+1→labE (ss.getD j ByteArray.empty)=true):=fun h j hj=>by
    rcases Nat.lt_succ_iff_lt_or_eq.1 hj with h2 | rfl
    ·exact hz.out j h2
    ·exact h
   have HF:Hid (labE (ss.getD k ByteArray.empty)=false→res=false):=fun h=>H1.out k hlt h
   generalize ss.getD k ByteArray.empty=s at *
   by_cases hse:s=ByteArray.empty
   ·subst hse
    have HZ2:Hid (∀ j,j < k+1→labE (ss.getD j ByteArray.empty)=true):=HZ.out (by simp [labE])
    clear HZ HF
    go_wp2_with fail
    go_round
    case rel=>exact ⟨k+1,by omega,by go_num,HZ2.out⟩
    case measure=>simp [intOf];omega
   ·have HE:Hid (labE s=labB s):=(show labE s=labB s by simp [labE,hse])
    obtain ⟨h1,h2⟩:=beq_name hse
    have h3:¬ s.toList=[]:=fun e=>h2 (by rw [e,Lib.toList_data];rfl)
    have h4:(s.toList == [])=false:=by simpa using h3
    clear hse
    rcases hl:labB s with _ | _
    ·have HR:Hid (res=false):=HF.out (by rw [HE.out,hl])
     go_wp2_with (go_at_call 75;refine (label_any _ _ hsk).mono ?_;rintro e w' ⟨rfl,rfl⟩;rw [hl])
     go_ret
     exact ⟨ret_bool HR.out.symm,rfl⟩
    ·have HZ2:Hid (∀ j,j < k+1→labE (ss.getD j ByteArray.empty)=true):=HZ.out (by rw [HE.out,hl])
     clear HZ HF
     go_wp2_with (go_at_call 75;refine (label_any _ _ hsk).mono ?_;rintro e w' ⟨rfl,rfl⟩;rw [hl])
     go_round
     case rel=>exact ⟨k+1,by omega,by go_num,HZ2.out⟩
     case measure=>simp [intOf];omega
  ·have HR:Hid (res=true):=H0.out fun j hj=>hz.out j (by omega)
   go_wp2_with fail
   go_ret
   exact ⟨ret_bool HR.out.symm,rfl⟩
theorem labE_any (t:ByteArray) (W:World) (g:Nat) (hs:t.size≤maxLen) (hg:W.heap[g]?=some (.cells #[.string t] 9 (0,0))) :
 Calls Tryz.prog 231 #[.slice (some ⟨g,0,none⟩) 1 1] W fun e w'=>e=.returned (.bool (labE t))∧w'=W:=by
 have h:=labelsE_any [t] g 1 W (fun j hj=>by
  rw [cellsAt hg]
  have:j=0:=by simp at hj;omega
  subst this;rfl) (fun j=>by
  match j with
  | 0=>exact hs
  | _+1=>simp [List.getD]) (by simp)
 simpa using h
set_option maxHeartbeats 400000 in
theorem need_ok (e:Int) (w:World) :
 Calls Tryz.prog 123 #[.bool true,.int .i64 e] w fun x w'=>x=.returned (.tuple #[])∧w'=w:=by
 go_enter Tryz.func123,Tryz.ntmps123
 go_wp2_with fail
 simp [bodyPost,results,Tryz.results123]
set_option maxHeartbeats 400000 in
theorem need_no (e:Int) (w:World) :
 Calls Tryz.prog 123 #[.bool false,.int .i64 e] w fun x w'=>x=.panicked [{ v:=.iface 196 (.agg #[.int .i64 e]),recovered:=false }]∧w'=w:=by
 go_enter Tryz.func123,Tryz.ntmps123
 go_wp2_with fail
 exact ⟨rfl,rfl,rfl⟩
set_option maxHeartbeats 800000 in
set_option maxRecDepth 100000 in
theorem catch_fault (g:Nat) (x e:Int) (older:List PanicEntry) (w:World) (hg:g < w.heap.size) (hc:w.cell? ⟨g,0,none⟩=some (.int .i64 x)) (hz:w.frozen? ⟨g,0,none⟩=false) :
 CallsD Tryz.prog 176 #[.pointer (some ⟨g,0,none⟩)] (.panicking ({ v:=.iface 196 (.agg #[.int .i64 e]),recovered:=false } :: older)) w fun r u' w'=>
  r=.returned (.tuple #[])∧u'=.panicking ({ v:=.iface 196 (.agg #[.int .i64 e]),recovered:=true } :: older)∧w'.cell? ⟨g,0,none⟩=some (.int .i64 e)∧Below g w w':=by
 have e0:g≠w.heap.size:=by omega
 have hta:∀ W:World,Sem.run Tryz.prog (Instr.typeAssert (.iface 196 (.agg #[.int .i64 e])) 20 196 true) W=.ok (.tuple #[.agg #[.int .i64 e],.bool true]) W:=fun _=>by kernel_rfl
 have hs1:(w.setCell ⟨g,0,none⟩ (.int .i64 1)).cell? ⟨g,0,none⟩=some (.int .i64 1):=by simp [go_sem,hc]
 have hs2:((w.setCell ⟨g,0,none⟩ (.int .i64 1)).setCell ⟨g,0,none⟩ (.int .i64 e)).cell? ⟨g,0,none⟩=some (.int .i64 e):=by simp [go_sem,hc]
 have HE:Hid (∀ o,(((w.setCell ⟨g,0,none⟩ (.int .i64 1)).setCell ⟨g,0,none⟩ (.int .i64 e)).alloc o).cell? ⟨g,0,none⟩=some (.int .i64 e)):=fun o=>by
  rw [World.cell?_alloc_past (w:=(w.setCell ⟨g,0,none⟩ (.int .i64 1)).setCell ⟨g,0,none⟩ (.int .i64 e)) o g 0 (by simpa using hg)]
  exact hs2
 have HB:Hid (∀ o,Below g w (((w.setCell ⟨g,0,none⟩ (.int .i64 1)).setCell ⟨g,0,none⟩ (.int .i64 e)).alloc o)):=fun o=>
  (((Below.refl g w).setCell (p:=⟨g,0,none⟩) (Nat.le_refl _) _).setCell (p:=⟨g,0,none⟩) (Nat.le_refl _) _).alloc (by simp;omega) _
 clear hs1 hs2
 refine callsD_of_wpS Tryz.func176 rfl fun c₀ cs hu=>?_
 apply wpS_seq
 apply wpS_region
 simp [wpOpsS,go_sem,recoverD,hu,Tryz.ntmps176,Exit.thenS,Array.replicate]
 refine wpS_of_wp ?_
 go_wp2_with fail
 have h1:=HE.out (.cells #[.int .i64 e] 196)
 have h2:=HB.out (.cells #[.int .i64 e] 196)
 cases c₀
 simp [bodyPostS,results,Tryz.results176]
 exact ⟨h1,h2⟩
theorem catch_idle (p:Addr) (w:World) :
 CallsD Tryz.prog 176 #[.pointer (some p)] .returning w fun e u' w'=>e=.returned (.tuple #[])∧u'=.returning∧w'=w:=by
 refine callsD_of_wpS Tryz.func176 rfl fun c₀ cs hu=>?_
 apply wpS_seq
 apply wpS_region
 simp [wpOpsS,go_sem,recoverD,hu,Tryz.ntmps176,Exit.thenS,Array.replicate]
 refine wpS_of_wp ?_
 go_wp2_with fail
 cases c₀
 simp_all [bodyPostS,results,Tryz.results176]
set_option maxHeartbeats 800000 in
set_option maxRecDepth 100000 in
theorem attempt_ok (f:Nat) (caps:Array Value) (w:World) (R:World→Prop) (ef:∀ args W,(callFunc f args).run Tryz.prog W=.ok (.enter f args) W)
 (hw:Calls Tryz.prog f caps (w.alloc (.cells #[.int .i64 0] 26)) fun r w'=>r=.returned (.tuple #[])∧R w'∧w'.cell? ⟨w.heap.size,0,none⟩=some (.int .i64 0)∧w'.frozen? ⟨w.heap.size,0,none⟩=false∧w.heap.size < w'.heap.size) :
 Calls Tryz.prog 124 #[.func (.func f) #[] caps] w fun r w'=>r=.returned (.int .i64 0)∧∃ w1,R w1∧w.heap.size < w1.heap.size∧w'=w1.setCell ⟨w.heap.size,0,none⟩ (.int .i64 0):=by
 have hmf:∀ (fn:Fn) (first cap:Array Value) (w:World),(Instr.makeFunc fn first cap).run Tryz.prog w=.ok (.func fn first cap) w:=fun _ _ _ _=>rfl
 have HW:Hid (Calls Tryz.prog f caps (w.alloc (.cells #[.int .i64 0] 26)) fun r w'=>r=.returned (.tuple #[])∧Hid (R w')∧w'.cell? ⟨w.heap.size,0,none⟩=some (.int .i64 0)∧w'.frozen? ⟨w.heap.size,0,none⟩=false∧w.heap.size < w'.heap.size):=hw
 clear hw
 go_enter_defers Tryz.func124,Tryz.ntmps124
 go_wp2_with fail
 refine HW.out.mono ?_
 rintro e w1 ⟨rfl,HR,h1,h2,h3⟩
 go_wp2_with fail
 refine leaves_cons (f:=176) (args:=#[.pointer (some ⟨w.heap.size,0,none⟩)]) (by simp) (by simp [go_sem]) ?_
 refine (catch_idle ⟨w.heap.size,0,none⟩ _).mono ?_
 rintro e u' w'' ⟨rfl,rfl,rfl⟩
 simp [Leaves,settle,results,Tryz.results124,go_sem,h1]
 exact ⟨w1,HR.out,h3,rfl⟩
set_option maxHeartbeats 800000 in
set_option maxRecDepth 100000 in
theorem attempt_no (f:Nat) (caps:Array Value) (e:Int) (w:World) (R:World→Prop) (ef:∀ args W,(callFunc f args).run Tryz.prog W=.ok (.enter f args) W)
 (hw:Calls Tryz.prog f caps (w.alloc (.cells #[.int .i64 0] 26)) fun r w'=>r=.panicked [{ v:=.iface 196 (.agg #[.int .i64 e]),recovered:=false }]∧R w'∧w'.cell? ⟨w.heap.size,0,none⟩=some (.int .i64 0)∧w'.frozen? ⟨w.heap.size,0,none⟩=false∧w.heap.size < w'.heap.size) :
 Calls Tryz.prog 124 #[.func (.func f) #[] caps] w fun r w'=>r=.returned (.int .i64 e)∧∃ w1,R w1∧w.heap.size < w1.heap.size∧Below w.heap.size w1 w':=by
 have hmf:∀ (fn:Fn) (first cap:Array Value) (w:World),(Instr.makeFunc fn first cap).run Tryz.prog w=.ok (.func fn first cap) w:=fun _ _ _ _=>rfl
 have HW:Hid (Calls Tryz.prog f caps (w.alloc (.cells #[.int .i64 0] 26)) fun r w'=>r=.panicked [{ v:=.iface 196 (.agg #[.int .i64 e]),recovered:=false }]∧Hid (R w')∧w'.cell? ⟨w.heap.size,0,none⟩=some (.int .i64 0)∧w'.frozen? ⟨w.heap.size,0,none⟩=false∧w.heap.size < w'.heap.size):=hw
 clear hw
 go_enter_defers Tryz.func124,Tryz.ntmps124
 go_wp2_with fail
 refine HW.out.mono ?_
 rintro r w1 ⟨rfl,HR,h1,h2,h3⟩
 refine leaves_cons (f:=176) (args:=#[.pointer (some ⟨w.heap.size,0,none⟩)]) (by simp) (by simp [go_sem]) ?_
 refine (catch_fault w.heap.size 0 e [] w1 h3 h1 h2).mono ?_
 rintro r u' w'' ⟨rfl,rfl,h4,h5⟩
 simp [Leaves,settle,results,Tryz.results124,go_sem,h4]
 exact ⟨w1,HR.out,h3,h5⟩
end Go.Proofs.YtffdoiokmiklgaaGreatDoor
