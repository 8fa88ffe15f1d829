import Derived.Test.YtignmeaeibaejaaGreatDoorProg
import Derived.WalkKit
import Derived.WalkSpells
import Derived.WalkLawsBesides
import Derived.Deep.QuietTactic
import Derived.BigQuiet
import Derived.Lib.Bytealg
import Derived.Shelf.RegionOpenPlain
import Derived.Lib.AppendZerosOnto
import Derived.Lib.Overlaps
import Derived.Laws.CopyRow
import Derived.Laws.Externs
import Derived.Laws.NewBlocks
import Derived.Deep.RegionWith
import Derived.Shelf.Strings.Builder1
import Derived.Shelf.Strings.Builder2
import Derived.Shelf.Strings.OnBuilder
import Derived.Shelf.Small.Bits
import Derived.Shelf.Small.Strs
import Derived.Shelf.Small.Wraps
import Derived.Shelf.Utf8.RuneCount
import Derived.Shelf.Strconv.Itoa0
import Derived.Shelf.LaysM
import Derived.Shelf.Strconv.Clone
import Derived.Shelf.Strings.Search1
import Derived.Shelf.Strings.Search2
import Derived.Shelf.Strings.Search3
import Derived.Shelf.Strings.Cut
import Derived.Shelf.Strings.Count
import Derived.Shelf.Strings.Shaped
import Derived.Shelf.Strings.Split
import Derived.Shelf.Strings.SplitShaped
import Derived.Shelf.Unicode.Decode
import Derived.Shelf.Strings.RuneCount
import Derived.Shelf.Strings.Explode
import Derived.Shelf.Unicode.DecodeSlow
import Derived.Shelf.Unicode.DecodeAny
import Derived.Shelf.Slices.Turned
import Derived.Ground.Names2Prog
import Derived.Shelf.Slices.Clone
import Derived.Shelf.Slices.SearchI
import Derived.Ground.SlgnProg
import Derived.Shelf.SlicesE.Clone
import Derived.Ground.SlgfProg
import Derived.Shelf.SlicesE.IndexFunc
import Derived.Shelf.SlicesE.DeleteFunc
import Derived.Ground.SlsfProg
import Derived.Shelf.SlSortCmp.Insertion
import Derived.Shelf.SlSortCmp.SiftDown1
import Derived.Shelf.SlSortCmp.HeapSort1
import Derived.Shelf.SlSortCmp.Insertion1
import Derived.Shelf.SlSortCmp.Median1
import Derived.Shelf.SlSortCmp.Pivot1
import Derived.Shelf.SlSortCmp.ReverseRange1
import Derived.Shelf.SlSortCmp.PartialInsertion1
import Derived.Shelf.SlSortCmp.PartitionEqual1
import Derived.Shelf.SlSortCmp.Partition1
import Derived.Shelf.SlSortCmp.Pdq1
import Derived.Shelf.SlSortCmp.Whole1
import Derived.Shelf.SlSortCmp.NoneTotal
import Derived.Lib.Builder
import Derived.OwnWalk
import Derived.Lib.OthersKept
import Derived.Maps.AppendAt
import Derived.Deep.RegionHeld3
import Derived.StillTactics
namespace Go.Proofs.YtignmeaeibaejaaGreatDoor
open Go.RowKit
def within (n a b:Int):Bool:=decide (a≤n) && decide (n≤b)
def lbB (n:Int):Bool:=(decide (97≤n) && decide (n≤122)) || (decide (48≤n) && decide (n≤57)) || decide (n=45) || decide (n=95)
def labB (s:ByteArray):Bool:=decide (1≤s.size) && decide (s.size≤30) && s.data.toList.all (fun c=>lbB c.toNat)
theorem ret_bool {a b:Bool} (h:a=b):Ending.returned (.bool a)=.returned (.bool b):=by rw [h]
theorem ret_int {k:IntKind} {a b:Int} (h:a=b):Ending.returned (.int k a)=.returned (.int k b):=by rw [h]
theorem take_snoc (s:ByteArray) (k:Nat) (h:k < s.size):s.data.toList.take (k+1)=s.data.toList.take k++[s[k]]:=by
 rw [List.take_succ_eq_append_getElem (by simpa using h)];rfl
theorem take_all (s:ByteArray) (k:Nat) (h:s.size≤k):s.data.toList.take k=s.data.toList:=
 List.take_of_length_le (by simpa using h)
theorem labs_step (s:ByteArray) (k:Nat) (h:k < s.size) (hk:(s.data.toList.take k).all (fun c=>lbB c.toNat)=true) (hb:lbB (s[k].toNat:Int)=true) :
 (s.data.toList.take (k+1)).all (fun c=>lbB c.toNat)=true:=by
 rw [take_snoc s k h,List.all_append,hk];simp [hb]
theorem labs_not (s:ByteArray) (k:Nat) (h:k < s.size) (hb:lbB (s[k].toNat:Int)=false):labB s=false:=by
 have:s.data.toList.all (fun c=>lbB c.toNat)=false:=by
  rw [List.all_eq_false]
  refine ⟨s[k],?_,by simp [hb]⟩
  exact List.getElem_mem (l:=s.data.toList) (n:=k) (by simpa using h)
 simp [labB,this]
set_option maxHeartbeats 400000 in
theorem within_any (n a b:Int) (w:World) :
 Calls Tryz.prog 53 #[.int .i64 n,.int .i64 a,.int .i64 b] w fun e w'=>e=.returned (.bool (within n a b))∧w'=w:=by
 go_enter Tryz.func53,Tryz.ntmps53
 go_wp2
 all_goals
  go_ret
  exact ⟨ret_bool (by unfold within;rw [Bool.eq_iff_iff];simp;try omega),rfl⟩
set_option maxHeartbeats 400000 in
theorem address_any (n:Int) (w:World) :
 Calls Tryz.prog 88 #[.int .i64 n] w fun e w'=>e=.returned (.bool (within n 0 4294967295))∧w'=w:=by
 go_enter Tryz.func88,Tryz.ntmps88
 go_wp2_with (go_at_call 53;refine (within_any _ _ _ _).mono ?_;rintro e w' ⟨rfl,rfl⟩)
 go_ret
 exact ⟨rfl,rfl⟩
set_option maxHeartbeats 800000 in
theorem labelByte_any (n:Int) (w:World) :
 Calls Tryz.prog 64 #[.int .u8 n] w fun e w'=>e=.returned (.bool (lbB n))∧w'=w:=by
 go_enter Tryz.func64,Tryz.ntmps64
 go_wp2
 all_goals
  go_ret
  exact ⟨ret_bool (by unfold lbB;rw [Bool.eq_iff_iff];simp;try omega),rfl⟩
set_option maxHeartbeats 800000 in
theorem label_any (s:ByteArray) (w:World) (hs:s.size≤maxLen) :
 Calls Tryz.prog 26 #[.string s] w fun e w'=>e=.returned (.bool (labB s))∧w'=w:=by
 unfold maxLen at hs
 by_cases hz:within (s.size:Int) 1 30=true
 ·have hz':1≤s.size∧s.size≤30:=by simp [within] at hz;omega
  go_enter Tryz.func26,Tryz.ntmps26
  go_wp2_with (go_at_call 53;refine (within_any _ _ _ _).mono ?_;rintro e w' ⟨rfl,rfl⟩;rw [hz])
  go_loop [10] (fun i=>∃ k:Nat,k≤s.size∧i=.int .i64 k∧(s.data.toList.take k).all (fun c=>lbB c.toNat)=true) (fun i=>s.size - (intOf i).toNat)
  case atStart=>exact ⟨0,Nat.zero_le _,rfl,rfl⟩
  case round=>
   obtain ⟨k,hk,rfl,hall⟩:=hrel
   have HA:Hid ((s.data.toList.take k).all (fun c=>lbB c.toNat)=true):=hall
   clear hall
   by_cases hlt:k < s.size
   ·by_cases hb:lbB (s[k].toNat:Int)=true
    ·go_wp2_with (go_at_call 64;refine (labelByte_any _ _).mono ?_;rintro e w' ⟨rfl,rfl⟩;rw [hb])
     go_round
     case rel=>exact ⟨k+1,by omega,by go_num,labs_step s k hlt HA.out hb⟩
     case measure=>simp [intOf];omega
    ·have hb':lbB (s[k].toNat:Int)=false:=by simpa using hb
     go_wp2_with (go_at_call 64;refine (labelByte_any _ _).mono ?_;rintro e w' ⟨rfl,rfl⟩;rw [hb'])
     go_ret
     exact ⟨ret_bool (labs_not s k hlt hb').symm,rfl⟩
   ·go_wp2
    go_ret
    have h2:=HA.out
    rw [take_all s k (by omega)] at h2
    exact ⟨ret_bool (by simp [labB,h2,hz'.1,hz'.2]),rfl⟩
 ·have hz':within (s.size:Int) 1 30=false:=by simpa using hz
  go_enter Tryz.func26,Tryz.ntmps26
  go_wp2_with (go_at_call 53;refine (within_any _ _ _ _).mono ?_;rintro e w' ⟨rfl,rfl⟩;rw [hz'])
  go_ret
  refine ⟨ret_bool ?_,rfl⟩
  symm
  simp only [within,Bool.and_eq_false_iff,decide_eq_false_iff_not] at hz'
  simp only [labB,Bool.and_eq_false_iff,decide_eq_false_iff_not]
  rcases hz' with h | h
  ·exact .inl (.inl (by omega))
  ·exact .inl (.inr (by omega))
theorem bcell {W w1:World} (hb:Below W.heap.size W w1):(∀ b o,b < W.heap.size→w1.cell? ⟨b,o,none⟩=W.cell? ⟨b,o,none⟩)∧(∀ b o,b < W.heap.size→w1.frozen? ⟨b,o,none⟩=W.frozen? ⟨b,o,none⟩):=
 ⟨fun b o h=>hb.cell (p:=⟨b,o,none⟩) h,fun b o h=>hb.frozen (p:=⟨b,o,none⟩) h⟩
def less (a b:ByteArray):Bool:=Op.bytesLess a.toList b.toList
theorem bl_irrefl:∀ a:List UInt8,Op.bytesLess a a=false
 | []=>rfl
 | x :: r=>by simp [Op.bytesLess,bl_irrefl r]
theorem bl_total:∀ a b:List UInt8,(!(Op.bytesLess a b))=(Op.bytesLess b a || b == a)
 | [],[]=>rfl
 | [],_ :: _=>rfl
 | _ :: _,[]=>rfl
 | x :: r,y :: t=>by
   have:=bl_total r t
   by_cases h1:x < y
   ·have h2:¬ y < x:=by rw [UInt8.lt_iff_toNat_lt] at *;omega
    have h3:¬ y=x:=by rintro rfl;rw [UInt8.lt_iff_toNat_lt] at *;omega
    simp [Op.bytesLess,h1,h2,h3]
   ·by_cases h2:y < x
    ·have h3:¬ y=x:=by rintro rfl;rw [UInt8.lt_iff_toNat_lt] at *;omega
     have h4:¬ x=y:=fun h=>h3 h.symm
     simp [Op.bytesLess,h1,h2,h4]
    ·have h3:y=x:=by
      apply UInt8.toNat_inj.1
      rw [UInt8.lt_iff_toNat_lt] at *;omega
     subst h3
     simp [Op.bytesLess]
     simpa using this
def cmpI (a b:ByteArray):Int:=Lib.compareBytes a.data.toList b.data.toList
theorem cmpstring_run (a b:ByteArray) (w:World):(callFunc 143 #[.string a,.string b]).run Tryz.prog w=.ok (.value (.int .i64 (cmpI a b))) w:=by
 rw [run_callFunc_extern Tryz.func143 (by kernel_rfl) (by kernel_rfl) (by kernel_rfl) (e:=Extern.BytealgCompare.compare) (by kernel_rfl),Lib.run_compareString]
 rfl
set_option maxHeartbeats 400000 in
theorem compare_any (a b:ByteArray) (w:World) :
 Calls Tryz.prog 101 #[.string a,.string b] w fun e w'=>e=.returned (.int .i64 (cmpI a b))∧w'=w:=by
 have hc:=cmpstring_run
 go_enter Tryz.func101,Tryz.ntmps101
 go_wp2
 go_ret
 exact ⟨rfl,rfl⟩
theorem cb_lt:∀ a b:List UInt8,Lib.compareBytes a b < 0↔Op.bytesLess a b=true
 | [],[]=>by simp [Lib.compareBytes,Op.bytesLess]
 | [],_ :: _=>by simp [Lib.compareBytes,Op.bytesLess]
 | _ :: _,[]=>by simp [Lib.compareBytes,Op.bytesLess]
 | x :: r,y :: t=>by
   have ih:=cb_lt r t
   by_cases h1:x < y
   ·simp [Lib.compareBytes,Op.bytesLess,h1]
   ·by_cases h2:y < x
    ·have h3:¬ x=y:=by rintro rfl;exact h1 h2
     simp [Lib.compareBytes,Op.bytesLess,h1,h2,h3]
    ·have h3:x=y:=by
      apply UInt8.toNat_inj.1
      rw [UInt8.lt_iff_toNat_lt] at *;omega
     subst h3
     simpa [Lib.compareBytes,Op.bytesLess] using ih
theorem cb_eq:∀ a b:List UInt8,Lib.compareBytes a b=0↔a=b
 | [],[]=>by simp [Lib.compareBytes]
 | [],_ :: _=>by simp [Lib.compareBytes]
 | _ :: _,[]=>by simp [Lib.compareBytes]
 | x :: r,y :: t=>by
   have ih:=cb_eq r t
   by_cases h1:x < y
   ·have h3:¬ x=y:=by rintro rfl;rw [UInt8.lt_iff_toNat_lt] at *;omega
    simp [Lib.compareBytes,h1,h3]
   ·by_cases h2:y < x
    ·have h3:¬ x=y:=by rintro rfl;exact h1 h2
     simp [Lib.compareBytes,h1,h2,h3]
    ·have h3:x=y:=by
      apply UInt8.toNat_inj.1
      rw [UInt8.lt_iff_toNat_lt] at *;omega
     subst h3
     simpa [Lib.compareBytes] using ih
theorem bl_trans:∀ a b c:List UInt8,Op.bytesLess a b=true→Op.bytesLess b c=true→Op.bytesLess a c=true
 | [],[],_,h,_=>by simp [Op.bytesLess] at h
 | [],_ :: _,[],_,h=>by simp [Op.bytesLess] at h
 | [],_ :: _,_ :: _,_,_=>by simp [Op.bytesLess]
 | _ :: _,[],_,h,_=>by simp [Op.bytesLess] at h
 | _ :: _,_ :: _,[],_,h=>by simp [Op.bytesLess] at h
 | x :: r,y :: t,z :: u,h1,h2=>by
   have ih:=bl_trans r t u
   simp only [Op.bytesLess,Bool.or_eq_true,Bool.and_eq_true,decide_eq_true_eq,beq_iff_eq] at h1 h2 ⊢
   rcases h1 with h1 | ⟨rfl,h1⟩
   ·rcases h2 with h2 | ⟨rfl,h2⟩
    ·left;rw [UInt8.lt_iff_toNat_lt] at *;omega
    ·left;exact h1
   ·rcases h2 with h2 | ⟨rfl,h2⟩
    ·left;exact h2
    ·right;exact ⟨rfl,ih h1 h2⟩
theorem ba_ext {a b:ByteArray} (h:a.data.toList=b.data.toList):a=b:=by
 obtain ⟨⟨la⟩⟩:=a;obtain ⟨⟨lb⟩⟩:=b;simp at h;subst h;rfl
theorem cmpI_lt (a b:ByteArray):cmpI a b < 0↔less a b=true:=by
 unfold cmpI less;rw [Lib.toList_data,Lib.toList_data];exact cb_lt _ _
theorem cmpI_eq (a b:ByteArray):cmpI a b=0↔a=b:=by
 unfold cmpI;rw [cb_eq];exact ⟨ba_ext,fun h=>by rw [h]⟩
theorem less_trans {a b c:ByteArray} (h1:less a b=true) (h2:less b c=true):less a c=true:=bl_trans _ _ _ h1 h2
theorem less_irrefl (a:ByteArray):less a a=false:=bl_irrefl _
theorem less_total (a b:ByteArray):less a b=true∨a=b∨less b a=true:=by
 have h:=bl_total a.toList b.toList
 unfold less
 cases h1:Op.bytesLess a.toList b.toList
 ·rw [h1] at h
  cases h2:Op.bytesLess b.toList a.toList
  ·rw [h2] at h
   right;left
   have:b.toList=a.toList:=by simpa using h.symm
   rw [Lib.toList_data,Lib.toList_data] at this
   exact (ba_ext this).symm
  ·right;right;rfl
 ·left;rfl
theorem less_asymm {a b:ByteArray} (h1:less a b=true):less b a=false:=by
 cases h:less b a
 ·rfl
 ·have:=less_trans h1 h;rw [less_irrefl] at this;cases this
theorem cmpI_gt (a b:ByteArray):0 < cmpI a b↔less b a=true:=by
 have h1:=cmpI_lt a b
 have h2:=cmpI_eq a b
 rcases less_total a b with h | rfl | h
 ·have:=h1.2 h
  rw [less_asymm h]
  simp;omega
 ·rw [less_irrefl];have:=h2.2 rfl;simp;omega
 ·rw [h]
  have h3:¬ cmpI a b < 0:=fun hh=>by rw [h1,less_asymm h] at hh;cases hh
  have h4:¬ cmpI a b=0:=fun hh=>by rw [h2] at hh;subst hh;rw [less_irrefl] at h;cases h
  simp;omega
theorem cellsAt {w:World} {g:Nat} {cur:Array Value} {t:TypeId} {fr:Nat × Nat} (hg:w.heap[g]?=some (.cells cur t fr)) (o:Nat):w.cell? ⟨g,o,none⟩=cur[o]?:=by
 simp [World.cell?,hg]
theorem beq_name {a b:ByteArray} (h:a≠b):(a.toList == b.toList)=false∧¬ a.toList=b.toList:=by
 have h2:¬ a.toList=b.toList:=fun e=>h (ba_ext (by rw [Lib.toList_data,Lib.toList_data] at e;exact e))
 exact ⟨by simpa using h2,h2⟩
theorem cell_topL {W:World} {cs:Array Value} {t:TypeId} {g k:Nat} (hg:g=W.heap.size):(W.alloc (.cells cs t)).cell? ⟨g,k,none⟩=cs[k]?:=by subst hg;simp
set_option maxHeartbeats 800000 in
theorem labels_any (ss:List ByteArray) (b cap:Nat) (w:World) (hb:∀ j,j < ss.length→w.cell? ⟨b,j,none⟩=some (.string (ss.getD j ByteArray.empty))) (hs:∀ j,(ss.getD j ByteArray.empty).size≤maxLen) (hn:ss.length≤1000) :
 Calls Tryz.prog 98 #[.slice (some ⟨b,0,none⟩) ss.length cap] w fun e w'=>e=.returned (.bool (ss.all labB))∧w'=w:=by
 have HB:Hid (∀ j,j < ss.length→w.cell? ⟨b,j,none⟩=some (.string (ss.getD j ByteArray.empty))):=hb
 have HS:Hid (∀ j,(ss.getD j ByteArray.empty).size≤maxLen):=hs
 have H0:Hid ((∀ j,j < ss.length→labB (ss.getD j ByteArray.empty)=true)→ss.all labB=true):=fun h=>by
  rw [List.all_eq_true]
  intro x hx
  obtain ⟨j,hj,rfl⟩:=List.getElem_of_mem hx
  have:=h j hj
  simpa [List.getD,List.getElem?_eq_getElem hj] using this
 have H1:Hid (∀ j,j < ss.length→labB (ss.getD j ByteArray.empty)=false→ss.all labB=false):=fun j hj h=>by
  rw [List.all_eq_false]
  refine ⟨ss[j],List.getElem_mem hj,?_⟩
  rw [show ss.getD j ByteArray.empty=ss[j] by simp [List.getD,List.getElem?_eq_getElem hj]] at h
  simp [h]
 clear hb hs
 generalize ss.all labB=res at *
 generalize hN:ss.length=n at *
 clear hN
 go_enter Tryz.func98,Tryz.ntmps98
 go_wp2_with fail
 go_loop [7] (fun i=>∃ k:Nat,k≤n∧i=.int .i64 k∧Hid (∀ j,j < k→labB (ss.getD j ByteArray.empty)=true)) (fun i=>n - (intOf i).toNat)
 case atStart=>exact ⟨0,Nat.zero_le _,rfl,fun j h=>absurd h (Nat.not_lt_zero _)⟩
 case round=>
  obtain ⟨k,hk,rfl,hz⟩:=hrel
  by_cases hlt:k < n
  ·have hc:=HB.out k hlt
   have hsk:=HS.out k
   have HZ:Hid (labB (ss.getD k ByteArray.empty)=true→∀ j,j < k+1→labB (ss.getD j ByteArray.empty)=true):=fun h j hj=>by
    rcases Nat.lt_succ_iff_lt_or_eq.1 hj with h2 | rfl
    ·exact hz.out j h2
    ·exact h
   have HF:Hid (labB (ss.getD k ByteArray.empty)=false→res=false):=fun h=>H1.out k hlt h
   generalize ss.getD k ByteArray.empty=s at *
   rcases hl:labB s with _ | _
   ·have HR:Hid (res=false):=HF.out hl
    go_wp2_with (go_at_call 26;refine (label_any _ _ hsk).mono ?_;rintro e w' ⟨rfl,rfl⟩;rw [hl])
    go_ret
    exact ⟨ret_bool HR.out.symm,rfl⟩
   ·go_wp2_with (go_at_call 26;refine (label_any _ _ hsk).mono ?_;rintro e w' ⟨rfl,rfl⟩;rw [hl])
    go_round
    case rel=>exact ⟨k+1,by omega,by go_num,HZ.out hl⟩
    case measure=>simp [intOf];omega
  ·have HR:Hid (res=true):=H0.out fun j hj=>hz.out j (by omega)
   go_wp2_with fail
   go_ret
   exact ⟨ret_bool HR.out.symm,rfl⟩
def labE (t:ByteArray):Bool:=decide (t=ByteArray.empty) || labB t
set_option maxHeartbeats 1600000 in
theorem labelsE_any (ss:List ByteArray) (b cap:Nat) (w:World) (hb:∀ j,j < ss.length→w.cell? ⟨b,j,none⟩=some (.string (ss.getD j ByteArray.empty))) (hs:∀ j,(ss.getD j ByteArray.empty).size≤maxLen) (hn:ss.length≤1000) :
 Calls Tryz.prog 99 #[.slice (some ⟨b,0,none⟩) ss.length cap] w fun e w'=>e=.returned (.bool (ss.all labE))∧w'=w:=by
 have HB:Hid (∀ j,j < ss.length→w.cell? ⟨b,j,none⟩=some (.string (ss.getD j ByteArray.empty))):=hb
 have HS:Hid (∀ j,(ss.getD j ByteArray.empty).size≤maxLen):=hs
 have H0:Hid ((∀ j,j < ss.length→labE (ss.getD j ByteArray.empty)=true)→ss.all labE=true):=fun h=>by
  rw [List.all_eq_true]
  intro x hx
  obtain ⟨j,hj,rfl⟩:=List.getElem_of_mem hx
  have:=h j hj
  simpa [List.getD,List.getElem?_eq_getElem hj] using this
 have H1:Hid (∀ j,j < ss.length→labE (ss.getD j ByteArray.empty)=false→ss.all labE=false):=fun j hj h=>by
  rw [List.all_eq_false]
  refine ⟨ss[j],List.getElem_mem hj,?_⟩
  rw [show ss.getD j ByteArray.empty=ss[j] by simp [List.getD,List.getElem?_eq_getElem hj]] at h
  simp [h]
 clear hb hs
 generalize ss.all labE=res at *
 generalize hN:ss.length=n at *
 clear hN
 go_enter Tryz.func99,Tryz.ntmps99
 go_wp2_with fail
 go_loop [7] (fun i=>∃ k:Nat,k≤n∧i=.int .i64 k∧Hid (∀ j,j < k→labE (ss.getD j ByteArray.empty)=true)) (fun i=>n - (intOf i).toNat)
 case atStart=>exact ⟨0,Nat.zero_le _,rfl,fun j h=>absurd h (Nat.not_lt_zero _)⟩
 case round=>
  obtain ⟨k,hk,rfl,hz⟩:=hrel
  by_cases hlt:k < n
  ·have hc:=HB.out k hlt
   have hsk:=HS.out k
   have HZ:Hid (labE (ss.getD k ByteArray.empty)=true→∀ j,j < k+1→labE (ss.getD j ByteArray.empty)=true):=fun h j hj=>by
    rcases Nat.lt_succ_iff_lt_or_eq.1 hj with h2 | rfl
    ·exact hz.out j h2
    ·exact h
   have HF:Hid (labE (ss.getD k ByteArray.empty)=false→res=false):=fun h=>H1.out k hlt h
   generalize ss.getD k ByteArray.empty=s at *
   by_cases hse:s=ByteArray.empty
   ·subst hse
    have HZ2:Hid (∀ j,j < k+1→labE (ss.getD j ByteArray.empty)=true):=HZ.out (by simp [labE])
    clear HZ HF
    go_wp2_with fail
    go_round
    case rel=>exact ⟨k+1,by omega,by go_num,HZ2.out⟩
    case measure=>simp [intOf];omega
   ·have HE:Hid (labE s=labB s):=(show labE s=labB s by simp [labE,hse])
    obtain ⟨h1,h2⟩:=beq_name hse
    have h3:¬ s.toList=[]:=fun e=>h2 (by rw [e,Lib.toList_data];rfl)
    have h4:(s.toList == [])=false:=by simpa using h3
    clear hse
    rcases hl:labB s with _ | _
    ·have HR:Hid (res=false):=HF.out (by rw [HE.out,hl])
     go_wp2_with (go_at_call 26;refine (label_any _ _ hsk).mono ?_;rintro e w' ⟨rfl,rfl⟩;rw [hl])
     go_ret
     exact ⟨ret_bool HR.out.symm,rfl⟩
    ·have HZ2:Hid (∀ j,j < k+1→labE (ss.getD j ByteArray.empty)=true):=HZ.out (by rw [HE.out,hl])
     clear HZ HF
     go_wp2_with (go_at_call 26;refine (label_any _ _ hsk).mono ?_;rintro e w' ⟨rfl,rfl⟩;rw [hl])
     go_round
     case rel=>exact ⟨k+1,by omega,by go_num,HZ2.out⟩
     case measure=>simp [intOf];omega
  ·have HR:Hid (res=true):=H0.out fun j hj=>hz.out j (by omega)
   go_wp2_with fail
   go_ret
   exact ⟨ret_bool HR.out.symm,rfl⟩
theorem labE_any (t:ByteArray) (W:World) (g:Nat) (hs:t.size≤maxLen) (hg:W.heap[g]?=some (.cells #[.string t] 9 (0,0))) :
 Calls Tryz.prog 99 #[.slice (some ⟨g,0,none⟩) 1 1] W fun e w'=>e=.returned (.bool (labE t))∧w'=W:=by
 have h:=labelsE_any [t] g 1 W (fun j hj=>by
  rw [cellsAt hg]
  have:j=0:=by simp at hj;omega
  subst this;rfl) (fun j=>by
  match j with
  | 0=>exact hs
  | _+1=>simp [List.getD]) (by simp)
 simpa using h
theorem heap_new1 (W:World) (c:Value):(W.alloc (.cells #[c] 9)).heap[W.heap.size]?=some (.cells #[c] 9 (0,0)):=by
 have h:=heap_alloc_new W (.cells #[c] 9)
 simpa using h
def spl:List UInt8→List (List UInt8)
 | []=>[[]]
 | c :: r=>if c=46 then [] :: spl r else match spl r with
   | []=>[[c]]
   | x :: xs=>(c :: x) :: xs
def jn:List (List UInt8)→List UInt8
 | []=>[]
 | [x]=>x
 | x :: y :: r=>x++46 :: jn (y :: r)
theorem spl_ne:∀ l,spl l≠[]
 | []=>by simp [spl]
 | c :: r=>by
   unfold spl
   split
   ·simp
   ·split<;>simp
theorem spl_dot (r:List UInt8):spl (46 :: r)=[] :: spl r:=by rw [spl,if_pos rfl]
theorem spl_cons {c:UInt8} (h:c≠46) {r x:List UInt8} {xs:List (List UInt8)} (hr:spl r=x :: xs):spl (c :: r)=(c :: x) :: xs:=by
 rw [spl,if_neg h,hr]
theorem spl_app:∀ (a b:List UInt8),46 ∉ a→spl (a++46 :: b)=a :: spl b
 | [],b,_=>spl_dot b
 | c :: a,b,h=>by
   have h1:c≠46:=fun e=>h (by rw [e];exact List.mem_cons_self)
   have h2:46 ∉ a:=fun e=>h (List.mem_cons_of_mem _ e)
   rw [List.cons_append]
   exact spl_cons h1 (spl_app a b h2)
theorem spl_none:∀ (a:List UInt8),46 ∉ a→spl a=[a]
 | [],_=>rfl
 | c :: a,h=>by
   have h1:c≠46:=fun e=>h (by rw [e];exact List.mem_cons_self)
   have h2:46 ∉ a:=fun e=>h (List.mem_cons_of_mem _ e)
   exact spl_cons h1 (spl_none a h2)
theorem spl_len:∀ (l:List UInt8),(spl l).length=l.count 46+1
 | []=>rfl
 | c :: r=>by
   have ih:=spl_len r
   by_cases h:c=46
   ·subst h
    rw [spl_dot,List.length_cons,ih,List.count_cons_self]
   ·obtain ⟨x,xs,hr⟩:=List.exists_cons_of_ne_nil (spl_ne r)
    rw [spl_cons h hr,List.length_cons,List.count_cons_of_ne h]
    rw [hr,List.length_cons] at ih
    exact ih
theorem jn_cons (c:UInt8) (x:List UInt8) (xs:List (List UInt8)):jn ((c :: x) :: xs)=c :: jn (x :: xs):=by
 cases xs<;>rfl
theorem jn_spl:∀ (l:List UInt8),jn (spl l)=l
 | []=>rfl
 | c :: r=>by
   have ih:=jn_spl r
   obtain ⟨y,ys,hr⟩:=List.exists_cons_of_ne_nil (spl_ne r)
   by_cases h:c=46
   ·subst h
    rw [spl_dot,hr]
    rw [hr] at ih
    show []++46 :: jn (y :: ys)=_
    rw [ih];rfl
   ·rw [spl_cons h hr,jn_cons,← hr,ih]
theorem ix_none:∀ {l:List UInt8},Lib.indexByte l 46 = -1→46 ∉ l
 | [],_=>by simp
 | c :: r,h=>by
   unfold Lib.indexByte at h
   split at h
   ·omega
   ·rename_i hc
    split at h
    ·rename_i h2
     intro hm
     rcases List.mem_cons.1 hm with e | e
     ·subst e;simp at hc
     ·exact ix_none (by simpa using h2) e
    ·have:=Lib.indexByte_ge r 46;omega
theorem ix_some:∀ {l:List UInt8} {i:Nat},Lib.indexByte l 46=(i:Int)→i < l.length∧l=l.take i++46 :: l.drop (i+1)∧46 ∉ l.take i
 | [],i,h=>by unfold Lib.indexByte at h;omega
 | c :: r,i,h=>by
   unfold Lib.indexByte at h
   split at h
   ·rename_i hc
    have:i=0:=by omega
    subst this
    have:c=46:=by simpa using hc
    subst this
    simp
   ·rename_i hc
    split at h
    ·omega
    ·rename_i h2
     have hg:=Lib.indexByte_ge r 46
     obtain ⟨j,rfl⟩:∃ j,i=j+1:=⟨i - 1,by have:Lib.indexByte r 46 ≠ -1:=by simpa using h2
                                         omega⟩
     obtain ⟨h3,h4,h5⟩:=ix_some (l:=r) (i:=j) (by omega)
     refine ⟨by simpa using h3,?_,?_⟩
     ·simp only [List.take_succ_cons,List.drop_succ_cons,List.cons_append]
      rw [← h4]
     ·simp only [List.take_succ_cons]
      intro hm
      rcases List.mem_cons.1 hm with e | e
      ·subst e;simp at hc
      ·exact h5 e
def mk (l:List UInt8):ByteArray:=⟨l.toArray⟩
theorem mk_data (s:ByteArray):mk s.data.toList=s:=by cases s;simp [mk]
theorem data_mk (l:List UInt8):(mk l).data.toList=l:=by simp [mk]
theorem mk_size (l:List UInt8):(mk l).size=l.length:=by simp [mk,ByteArray.size]
def labL (l:List UInt8):Bool:=labB (mk l)
theorem labL_size {l:List UInt8} (h:labL l=true):1≤l.length∧l.length≤30:=by
 unfold labL labB at h
 simp only [Bool.and_eq_true,decide_eq_true_eq,mk_size] at h
 exact h.1
def chkN (s:ByteArray):Int:=
 if s.size=0 then 0 else if (spl s.data.toList).all labL=false then 1 else if 8 < (spl s.data.toList).length∨120 < s.size then 2 else 0
end Go.Proofs.YtignmeaeibaejaaGreatDoor
namespace Go.Proofs
open Go.Shelf
end Go.Proofs
namespace Go.Proofs.YtignmeaeibaejaaGreatDoor
open Go.RowKit
theorem Tryz.infoByte:(Tryz.prog.info? 5).map (fun i=>(i.zero,i.size,i.bytes))=some (some (.int .u8 0),1,1):=by kernel_rfl
theorem Tryz.sizeBuilder:(Tryz.prog.info? 104).map (·.size)=some 2:=by kernel_rfl
theorem Tryz.liesWriter:liesAt Tryz.prog Tryz.prog.depth 106 (2 / Tryz.prog.cellsOf 106) 0 104 1=true:=by kernel_rfl
abbrev WAt (B b:Nat) (p:Value) (bs:List Value) (w:World):Prop:=Lib.BuilderAt 106 5 B b p bs w
def IsW (B b:Nat) (bs:List Value) (w:World):Prop:=WAt B b (.pointer none) bs w∨WAt B b (.pointer (some ⟨b,0,none⟩)) bs w
def bufOf (w:World) (b:Nat):Option Nat:=(w.cell? ⟨b,1,none⟩).bind Value.ownBlock
def Kq (b:Nat) (w w':World):Prop:=b < w.heap.size→(∀ k,k < w.heap.size→k≠b→some k≠bufOf w b→w'.heap[k]?=w.heap[k]?)∧(bufOf w' b=bufOf w b∨∀ k,bufOf w' b=some k→w.heap.size≤k)
structure Kp (B b:Nat) (w w':World):Prop where
 bel:Below B w w'
 oth:Lib.OthersKept 5 (some b) w w'
 kq:Kq b w w'
theorem Kq.refl (b:Nat) (w:World):Kq b w w:=fun _=>⟨fun _ _ _ _=>rfl,.inl rfl⟩
theorem Kq.trans {b:Nat} {w w1 w2:World} (h:Kq b w w1) (k:Kq b w1 w2) (hs:w.heap.size≤w1.heap.size):Kq b w w2:=fun hb=>by
 obtain ⟨h1,h2⟩:=h hb
 obtain ⟨k1,k2⟩:=k (Nat.lt_of_lt_of_le hb hs)
 refine ⟨fun j hj hjb hjn=>?_,?_⟩
 ·refine (k1 j (Nat.lt_of_lt_of_le hj hs) hjb fun e=>?_).trans (h1 j hj hjb hjn)
  rcases h2 with h2 | h2
  ·exact hjn (e.trans h2)
  ·have:=h2 j e.symm;omega
 ·rcases k2 with k2 | k2
  ·rcases h2 with h2 | h2
   ·exact .inl (k2.trans h2)
   ·exact .inr fun j hj=>h2 j (k2▸hj)
  ·exact .inr fun j hj=>Nat.le_trans hs (k2 j hj)
theorem Kp.refl (B b:Nat) (w:World):Kp B b w w:=⟨Below.refl _ _,Lib.OthersKept.refl _ _ _,Kq.refl b w⟩
theorem Kp.trans {B b:Nat} {w w1 w2:World} (h:Kp B b w w1) (k:Kp B b w1 w2):Kp B b w w2:=⟨h.bel.trans k.bel,h.oth.trans k.oth,h.kq.trans k.kq h.bel.size⟩
theorem Kp.drew {B b:Nat} {w w1:World} (h:Kp B b w w1):Kp B b w w1.drew:=⟨h.bel.drew,h.oth.drew,h.kq⟩
theorem Kp.size {B b:Nat} {w w1:World} (h:Kp B b w w1):w.heap.size≤w1.heap.size:=h.bel.size
theorem Kq.step {b:Nat} {w1 w2:World} {p v v':Value} {T:TypeId} (hb1:w1.heap[b]?=some (.cells #[p,v] T (0,0))) (hb2:w2.heap[b]?=some (.cells #[p,v] T (0,0))) (hg:∀ k,k < w1.heap.size→some k≠v.ownBlock→w2.heap[k]?=w1.heap[k]?) (hat:v'.ownBlock=v.ownBlock∨∀ k,v'.ownBlock=some k→w1.heap.size≤k):Kq b w1 (w2.setCell ⟨b,1,none⟩ v'):=fun _=>by
 have e1:bufOf w1 b=v.ownBlock:=by unfold bufOf;rw [cellsAt hb1 1];rfl
 have e2:bufOf (w2.setCell ⟨b,1,none⟩ v') b=v'.ownBlock:=by unfold bufOf;rw [World.cell?_setCell_same _ _ _ (cellsAt hb2 1:w2.cell? ⟨b,1,none⟩=some v)];rfl
 rw [e1,e2]
 exact ⟨fun k hk hkb hkn=>(Below.heap_setCell w2 _ v' k hkb).trans (hg k hk hkn),hat⟩
theorem own_kind {B n:Nat} {w:World} {v:Value} {xs:List Value} (h:w.ownsRow B 5 1 v n xs):∀ g,v.ownBlock=some g→∃ c fz,w.heap[g]?=some (.cells c 5 fz):=by
 intro g hg
 rcases h.2 with ⟨rfl,_⟩ | ⟨g',cap,cur,rfl,_,hgg,_⟩
 ·simp [Value.ownBlock] at hg
 ·simp [Value.ownBlock] at hg
  subst hg
  exact ⟨cur,_,hgg⟩
set_option maxHeartbeats 1000000 in
set_option maxRecDepth 100000 in
theorem copy_fresh (b:Nat) (w:World) (h0:w.cell? ⟨b,0,none⟩=some (.pointer none)) (hsh:w.shape? b=some (106,2)) (hfz:w.frozen? ⟨b,0,none⟩=false) :
 Calls Tryz.prog 139 #[.pointer (some ⟨b,0,none⟩)] w fun e w'=>e=.returned (.tuple #[])∧w'=w.setCell ⟨b,0,none⟩ (.pointer (some ⟨b,0,none⟩)):=by
 obtain ⟨j,hj,hjs⟩:=Option.map_eq_some_iff.1 Tryz.sizeBuilder
 go_enter Tryz.func139,Tryz.ntmps139
 go_wp2_with fail
 rw [Lib.run_to_unsafe w ⟨b,0,none⟩ Tryz.underlying101 Tryz.underlying185 hj (by rw [hjs];decide) hsh (Nat.zero_lt_succ 1)]
 simp only [Result.andThen]
 rw [Oper.upon_value]
 go_wp2_with fail
 rw [run_callFunc_extern Tryz.func158 (by kernel_rfl) (by kernel_rfl) (by kernel_rfl) (e:=Extern.AbiNoEscape.same) (by kernel_rfl)]
 rw [Lib.run_noEscape]
 simp only [Result.andThen]
 rw [Oper.upon_value]
 go_wp2_with fail
 rw [Lib.run_from_unsafe w ⟨b,0,none⟩ Tryz.underlying185 Tryz.underlying101 hj hsh Tryz.liesWriter]
 simp only [Result.andThen]
 rw [Oper.upon_value]
 go_wp2_with fail
 simp [bodyPost,results,Tryz.results139]
set_option maxHeartbeats 1000000 in
set_option maxRecDepth 100000 in
theorem copy_used (b:Nat) (w:World) (h0:w.cell? ⟨b,0,none⟩=some (.pointer (some ⟨b,0,none⟩))) :
 Calls Tryz.prog 139 #[.pointer (some ⟨b,0,none⟩)] w fun e w'=>e=.returned (.tuple #[])∧w'=w:=by
 obtain ⟨j,hj,_⟩:=Option.map_eq_some_iff.1 Tryz.sizeBuilder
 go_enter Tryz.func139,Tryz.ntmps139
 go_wp2_with fail
 rw [Lib.run_neq_ptr_same w _ Tryz.underlying101 hj]
 go_wp2_with fail
 simp [bodyPost,results,Tryz.results139]
theorem copy_any (B b:Nat) (bs:List Value) (w:World) (h:IsW B b bs w) :
 Calls Tryz.prog 139 #[.pointer (some ⟨b,0,none⟩)] w fun e w'=>e=.returned (.tuple #[])∧WAt B b (.pointer (some ⟨b,0,none⟩)) bs w'∧Kp B b w w':=by
 rcases h with h | h
 ·refine (copy_fresh b w h.cell0 h.shape h.frozen0).mono ?_
  rintro e w' ⟨rfl,rfl⟩
  exact ⟨rfl,h.used _,(Below.refl B w).setCell (p:=⟨b,0,none⟩) h.1 _,(Lib.OthersKept.refl _ _ w).setCell ⟨b,0,none⟩ rfl _,fun _=>⟨fun k _ hkb _=>Below.heap_setCell w _ _ k hkb,.inl (by unfold bufOf;rw [World.cell?_setCell_other _ _ _ _ (by simp)])⟩⟩
 ·refine (copy_used b w h.cell0).mono ?_
  rintro e w' ⟨rfl,rfl⟩
  exact ⟨rfl,h,Kp.refl B b _⟩
set_option maxHeartbeats 2000000 in
set_option maxRecDepth 100000 in
theorem writeByte_any (B b:Nat) (bs:List Value) (c:Int) (w:World) (h:IsW B b bs w) (hlen:bs.length+1≤1000000) (hBw:B≤w.heap.size) :
 Calls Tryz.prog 115 #[.pointer (some ⟨b,0,none⟩),.int .u8 c] w fun e w'=>e=.returned .nilIface∧WAt B b (.pointer (some ⟨b,0,none⟩)) (bs++[.int .u8 c]) w'∧Kp B b w w':=by
 obtain ⟨i0,hi,hz0,hz1,hz2⟩:=info_parts Tryz.infoByte
 have HC:Hid (Calls Tryz.prog 139 #[.pointer (some ⟨b,0,none⟩)] w fun e w'=>e=.returned (.tuple #[])∧WAt B b (.pointer (some ⟨b,0,none⟩)) bs w'∧Kp B b w w'):=copy_any B b bs w h
 clear h
 go_enter Tryz.func115,Tryz.ntmps115
 go_wp2_with fail
 refine HC.out.mono ?_
 rintro e w1 ⟨rfl,h1,hb1⟩
 obtain ⟨hB,v,hbk,hown,hne⟩:=h1
 have c0:w1.cell? ⟨b,0,none⟩=some (.pointer (some ⟨b,0,none⟩)):=cellsAt hbk 0
 have c1:w1.cell? ⟨b,1,none⟩=some v:=cellsAt hbk 1
 have hsz1:=hb1.size
 have HO:Hid (w1.ownsRow B 5 1 v bs.length bs):=hown
 have HK:Hid (w1.heap[b]?=some (.cells #[.pointer (some ⟨b,0,none⟩),v] 106 (0,0))):=hbk
 clear hown hbk
 go_wp2_with (at_builtin;refine wpList_append_own_at _ rfl _ _ 102 rfl B 5 i0 (.int .u8 0) 1 1 Tryz.underlying102 hi hz0 hz1 hz2 rfl (by decide) _ bs.length bs rfl (HO.out.alloc _) ⟨w1.heap.size,0,none⟩ 1 1 [.int .u8 c] rfl rfl ?c1 ?c2 ?c3 ?c4 ?c5 ?_)
 case c1=>(intro j u hj;rw [Addr.add_lit];exact (cell_topL (by simp)).trans (by simpa using hj))
 case c2=>(intro u hu;simp at hu;subst hu;rfl)
 case c3=>(unfold maxLen;omega)
 case c4=>omega
 case c5=>(simp;omega)
 intro v' w2 hown' hgrow _ hat
 have hlt:b < w1.heap.size:=(Array.getElem?_eq_some_iff.1 HK.out).1
 have hb2:w2.heap[b]?=some (.cells #[.pointer (some ⟨b,0,none⟩),v] 106 (0,0)):=by
  rw [hgrow.block b (by simp;omega) (fun e=>hne e.symm),Lib.alloc_old w1 _ b hlt]
  exact HK.out
 have d0:w2.cell? ⟨b,0,none⟩=some (.pointer (some ⟨b,0,none⟩)):=cellsAt hb2 0
 have d1:w2.cell? ⟨b,1,none⟩=some v:=cellsAt hb2 1
 have f1:w2.frozen? ⟨b,1,none⟩=false:=Lib.frozen_of_heap hb2 1
 have HB2:Hid (Below B w w2∧Lib.OthersKept 5 (some b) w w2):=(show _∧_ from ⟨(hb1.bel.alloc (by omega) _).grown hgrow (by simp;omega) (fun k hk=>(HO.out.lt k hk).1),(hb1.oth.alloc _).grown hgrow (own_kind (HO.out.alloc _))⟩)
 have HKQ:Hid (Kq b w (w2.setCell ⟨b,1,none⟩ v')):=hb1.kq.trans (Kq.step HK.out hb2 (fun k hk hkn=>(hgrow.block k (by simp;omega) hkn).trans (Lib.alloc_old w1 _ k hk)) (hat.imp id (fun e k hk=>by rw [e] at hk;simp at hk;omega))) hsz1
 have HK2:Hid (w2.heap[b]?=some (.cells #[.pointer (some ⟨b,0,none⟩),v] 106 (0,0))):=hb2
 have HO2:Hid (w2.ownsRow B 5 1 v' (bs.length+1) (bs++[.int .u8 c])):=hown'
 obtain ⟨g,cap,hv⟩:∃ g cap,v'=.slice (some ⟨g,0,none⟩) (bs.length+1) cap:=by
  rcases hown'.2 with ⟨_,h0⟩ | ⟨g,cap,cur,hv,_⟩
  ·omega
  ·exact ⟨g,cap,hv⟩
 subst hv
 clear hown' hgrow hb2 c0 c1 hb1 hat
 go_wp2_with fail
 go_ret
 refine ⟨rfl,?_,?_⟩
 ·exact Lib.BuilderAt.put (T:=106) (e:=5) hB HK2.out (bs':=bs++[.int .u8 c]) (by simpa using HO2.out) (by decide)
 ·exact ⟨HB2.out.1.setCell (p:=⟨b,1,none⟩) hB _,HB2.out.2.setCell ⟨b,1,none⟩ rfl _,HKQ.out⟩
def bt (n:Int) (m:Nat):Int:=IntKind.u8.wrap (n / 2 ^ (8 * (m:Int)).toNat)
def nbs (n:Int):Nat→List Value
 | 0=>[]
 | k+1=>.int .u8 (bt n k) :: nbs n k
set_option maxHeartbeats 1600000 in
set_option maxRecDepth 100000 in
theorem wnumber_any (B b nb:Nat) (n:Int) (bs:List Value) (w:World) (h:IsW B b bs w) (hnb:nb≤8) (hlen:bs.length≤100000) (hBw:B≤w.heap.size) :
 Calls Tryz.prog 89 #[.pointer (some ⟨b,0,none⟩),.int .i64 nb,.int .i64 n] w fun e w'=>e=.returned (.tuple #[])∧IsW B b (bs++nbs n nb) w'∧Kp B b w w':=by
 have HI:Hid (IsW B b bs w):=h
 clear h
 go_enter Tryz.func89,Tryz.ntmps89
 go_wp2_with fail
 go_loopw [6] (fun i wr=>∃ (k:Nat) (D:List Value),k≤nb∧i=.int .i64 ((k:Int) - 1)∧D.length+k≤200000∧Hid (D++nbs n k=bs++nbs n nb)∧Hid (IsW B b D wr)∧Hid (Kp B b w wr)) (fun i _=>(intOf i+1).toNat)
 case atStart=>exact ⟨nb,bs,Nat.le_refl _,by go_num,by omega,rfl,HI,Kp.refl _ _ _⟩
 case round=>
  obtain ⟨k,D,hk,rfl,hD,HN,HW,HB⟩:=hrel
  cases k with
  | zero=>
    have HW2:Hid (IsW B b (bs++nbs n nb) wr):=(show IsW _ _ _ _ by rw [← HN.out,show nbs n 0=[] from rfl,List.append_nil];exact HW.out)
    go_wp2_with fail
    simp [bodyPost,results,Tryz.results89]
    exact ⟨HW2.out,HB.out⟩
  | succ m=>
    have e1:(((m+1:Nat):Int) - 1)=(m:Int):=by omega
    rw [e1]
    have hm0:(0:Int)≤(m:Int):=by omega
    have hmul:IntKind.i64.wrap (8 * (m:Int))=8 * (m:Int):=by rw [IntKind.wrap_i64];omega
    have hBr:B≤wr.heap.size:=Nat.le_trans hBw HB.out.size
    have HWd:Hid (IsW B b D wr.drew):=HW.out
    go_wp2_with fail
    go_region_held3 (fun _=>True) (trivial) (first
     | (go_at_call 115;refine (writeByte_any B b D _ _ HW.out (by omega) hBr).mono ?_;rintro e w5 ⟨rfl,hw5,hb5⟩)
     | (go_at_call 115;refine (writeByte_any B b D _ _ HWd.out (by omega) hBr).mono ?_;rintro e w5 ⟨rfl,hw5,hb5⟩))
    have HW6:Hid (IsW B b (D++[.int .u8 (bt n m)]) w5):=(show IsW _ _ _ _ from .inr hw5)
    have HB6:Hid (Kp B b w w5):=HB.out.drew.trans hb5
    have HN6:Hid ((D++[.int .u8 (bt n m)])++nbs n m=bs++nbs n nb):=(show _=_ by rw [← HN.out,List.append_assoc];rfl)
    clear hw5 hb5
    go_wp2_with fail
    exact ⟨⟨m,D++[.int .u8 (bt n m)],by omega,by go_num,by simp;omega,HN6,HW6,HB6⟩,by simp [intOf]⟩
theorem append_text_at {P:Program} {w W:World} {base n:Nat} {t u ty e:TypeId} {i:TypeInfo} {v v':Value} {xs:List Value} {s:ByteArray} (ht:P.underlying t=some (.slice e)) (hu:P.underlying u=some .string) (hi:P.info? e=some i) (hz:i.zero=some (.int .u8 0)) (hsize:i.size=1) (hby:i.bytes=1)
 (hown:w.ownsRow base e 1 v n xs) (h63:n+s.size≤maxLen) (hbytes:n+s.size≤140737488355328) (hr:(Builtin.append_ #[t,u] ty #[v,.string s]).run P w=.ok v' W) (hnil:v'=.slice none 0 0↔v=.slice none 0 0∧s.size=0):v'.ownBlock=v.ownBlock∨v'.ownBlock=some w.heap.size:=by
 have hm:n+s.size≤9223372036854775807:=by simp only [maxLen] at h63;omega
 have hxl:xs.length=n:=by simpa using hown.1
 rcases hown.2 with ⟨rfl,rfl⟩ | ⟨g,cap,cur,rfl,_,hg,_,_,hcs,_⟩
 ·by_cases h0:s.size=0
  ·exact .inl (by rw [hnil.2 ⟨rfl,h0⟩])
  ·rw [run_append_nil_string (P:=P) w t u ty e i (.int .u8 0) ht hu hi hz s (by omega) (by omega) (by rw [hby];omega)] at hr
   injection hr with h1 _
   exact .inr (by rw [← h1];rfl)
 ·by_cases hroom:n+s.size≤cap
  ·rw [Lib.run_append_room_string (P:=P) w t u ty e i ht hu hi hsize g n cap cur hg s hroom (by have:=hcs;omega)] at hr
   injection hr with h1 _
   exact .inl (by rw [← h1];rfl)
  ·rw [Lib.run_append_grow_string (P:=P) w t u ty e i (.int .u8 0) ht hu hi hz ⟨g,0,none⟩ n cap xs (by rw [hsize];simpa using hxl) (hown.cells (g:=g) rfl) s (by omega) (by omega) (by rw [hby];exact growslice_fits (by omega) (by omega))] at hr
   injection hr with h1 _
   exact .inr (by rw [← h1];rfl)
theorem wpList_append_text {P:Program} (w:World) {ops:Array Oper} {rest:List Oper} {o:Oper} {a:Act} {Q:Exit→Act→World→Prop} (hgd:o.guard=none) (sl x:Operand) (t u:TypeId)
 (ho:o.op=.call { callee:=.builtin .append,args:=#[sl,x],argTypes:=#[t,u] }) (base:Nat) (e:TypeId) (i:TypeInfo) (ht:P.underlying t=some (.slice e)) (hu:P.underlying u=some .string) (hi:P.info? e=some i) (hz:i.zero=some (.int .u8 0)) (hsize:i.size=1) (hby:i.bytes=1)
 (v:Value) (n:Nat) (xs:List Value) (hs:a.eval sl=v) (hown:w.ownsRow base e 1 v n xs) (s:ByteArray) (hx:a.eval x=.string s) (h63:n+s.size≤maxLen) (hbytes:n+s.size≤140737488355328) (hbase:base≤w.heap.size)
 (h:∀ v' w',w'.ownsRow base e 1 v' (n+s.size) (xs++Lib.strCells s)→w.grownBy w' v.ownBlock→(v'.ownBlock=v.ownBlock∨v'.ownBlock=some w.heap.size)→wpList P ops Q rest (a.put o.dst v') w'):wpList P ops Q (o :: rest) a w:=by
 obtain ⟨v',w',hr,h2,h3,h4⟩:=Lib.run_append_own_string (P:=P) w base t u o.type e i ht hu hi hz hsize hby v n xs hown s h63 hbytes hbase
 have h5:=append_text_at ht hu hi hz hsize hby hown h63 hbytes hr h4
 refine wpList_plain hgd fun K hK=>?_
 have hgo:K (a.put o.dst v') w':=hK _ _ (h v' w' h2 h3 h5)
 simp only [Oper.wp,execOp,ho,resolve,invoke,builtin,Sem.run_bind,Sem.run_pure,Result.andThen_ok,List.map_toArray,List.map_cons,List.map_nil,hs,hx,hr]
 exact hgo
set_option maxHeartbeats 2000000 in
set_option maxRecDepth 100000 in
theorem writeString_any (B b:Nat) (bs:List Value) (s:ByteArray) (w:World) (h:IsW B b bs w) (hlen:bs.length+s.size≤1000000) (hBw:B≤w.heap.size) :
 Calls Tryz.prog 120 #[.pointer (some ⟨b,0,none⟩),.string s] w fun e w'=>e=.returned (.tuple #[.int .i64 s.size,.nilIface])∧WAt B b (.pointer (some ⟨b,0,none⟩)) (bs++Lib.strCells s) w'∧Kp B b w w':=by
 obtain ⟨i0,hi,hz0,hz1,hz2⟩:=info_parts Tryz.infoByte
 have HC:Hid (Calls Tryz.prog 139 #[.pointer (some ⟨b,0,none⟩)] w fun e w'=>e=.returned (.tuple #[])∧WAt B b (.pointer (some ⟨b,0,none⟩)) bs w'∧Kp B b w w'):=copy_any B b bs w h
 clear h
 go_enter Tryz.func120,Tryz.ntmps120
 go_wp2_with fail
 refine HC.out.mono ?_
 rintro e w1 ⟨rfl,h1,hb1⟩
 obtain ⟨hB,v,hbk,hown,hne⟩:=h1
 have c0:w1.cell? ⟨b,0,none⟩=some (.pointer (some ⟨b,0,none⟩)):=cellsAt hbk 0
 have c1:w1.cell? ⟨b,1,none⟩=some v:=cellsAt hbk 1
 have hsz1:=hb1.size
 have HO:Hid (w1.ownsRow B 5 1 v bs.length bs):=hown
 have HK:Hid (w1.heap[b]?=some (.cells #[.pointer (some ⟨b,0,none⟩),v] 106 (0,0))):=hbk
 clear hown hbk
 go_wp2_with (at_builtin;refine wpList_append_text _ rfl _ _ 102 9 rfl B 5 i0 Tryz.underlying102 Tryz.underlying9 hi hz0 hz1 hz2 _ bs.length bs rfl HO.out s rfl ?c3 ?c4 ?c5 ?_)
 case c3=>(unfold maxLen;omega)
 case c4=>omega
 case c5=>omega
 intro v' w2 hown' hgrow hat
 have hlt:b < w1.heap.size:=(Array.getElem?_eq_some_iff.1 HK.out).1
 have hb2:w2.heap[b]?=some (.cells #[.pointer (some ⟨b,0,none⟩),v] 106 (0,0)):=by
  rw [hgrow.block b hlt (fun e=>hne e.symm)]
  exact HK.out
 have d0:w2.cell? ⟨b,0,none⟩=some (.pointer (some ⟨b,0,none⟩)):=cellsAt hb2 0
 have d1:w2.cell? ⟨b,1,none⟩=some v:=cellsAt hb2 1
 have f1:w2.frozen? ⟨b,1,none⟩=false:=Lib.frozen_of_heap hb2 1
 have HB2:Hid (Below B w w2∧Lib.OthersKept 5 (some b) w w2):=(show _∧_ from ⟨hb1.bel.grown hgrow (by omega) (fun k hk=>(HO.out.lt k hk).1),hb1.oth.grown hgrow (own_kind HO.out)⟩)
 have HKQ:Hid (Kq b w (w2.setCell ⟨b,1,none⟩ v')):=hb1.kq.trans (Kq.step HK.out hb2 (fun k hk hkn=>hgrow.block k hk hkn) (hat.imp id (fun e k hk=>by rw [e] at hk;simp at hk;omega))) hsz1
 have HK2:Hid (w2.heap[b]?=some (.cells #[.pointer (some ⟨b,0,none⟩),v] 106 (0,0))):=hb2
 have HO2:Hid (w2.ownsRow B 5 1 v' (bs++Lib.strCells s).length (bs++Lib.strCells s)):=(show World.ownsRow _ _ _ _ _ _ _ by simpa [Lib.strCells_length] using hown')
 obtain ⟨ao,n',cap,hv⟩:∃ ao n' cap,v'=.slice ao n' cap:=by
  rcases hown'.2 with ⟨hv,_⟩ | ⟨g,cap,cur,hv,_⟩
  ·exact ⟨_,_,_,hv⟩
  ·exact ⟨_,_,_,hv⟩
 subst hv
 clear hown' hgrow hb2 c0 c1 hb1 hat
 go_wp2_with fail
 go_ret2
 refine ⟨rfl,?_,?_⟩
 ·exact Lib.BuilderAt.put (T:=106) (e:=5) hB HK2.out (bs':=bs++Lib.strCells s) HO2.out (by decide)
 ·exact ⟨HB2.out.1.setCell (p:=⟨b,1,none⟩) hB _,HB2.out.2.setCell ⟨b,1,none⟩ rfl _,HKQ.out⟩
theorem nbs_len (n:Int):∀ k,(nbs n k).length=k
 | 0=>rfl
 | k+1=>by simp [nbs,nbs_len n k]
set_option maxHeartbeats 800000 in
set_option maxRecDepth 100000 in
theorem counted_any (B b:Nat) (bs:List Value) (s:ByteArray) (w:World) (h:IsW B b bs w) (hlen:bs.length≤90000) (hs:s.size≤1000) (hBw:B≤w.heap.size) :
 Calls Tryz.prog 117 #[.pointer (some ⟨b,0,none⟩),.string s] w fun e w'=>e=.returned (.tuple #[])∧IsW B b (bs++(nbs s.size 1++Lib.strCells s)) w'∧Kp B b w w':=by
 have HI:Hid (IsW B b bs w):=h
 clear h
 go_enter Tryz.func117,Tryz.ntmps117
 go_wp2_with fail
 refine (wnumber_any B b 1 s.size bs w HI.out (by omega) (by omega) hBw).mono ?_
 rintro e w1 ⟨rfl,h1,hb1⟩
 have hz1:=hb1.size
 go_wp2_with fail
 refine (writeString_any B b _ s w1 h1 (by rw [List.length_append,nbs_len];omega) (by omega)).mono ?_
 rintro e w2 ⟨rfl,h2,hb2⟩
 have HW2:Hid (IsW B b (bs++(nbs s.size 1++Lib.strCells s)) w2):=(show IsW _ _ _ _ by rw [← List.append_assoc];exact .inr h2)
 have HB2:Hid (Kp B b w w2):=hb1.trans hb2
 clear h1 hb1 h2 hb2
 go_wp2_with fail
 simp [bodyPost,results,Tryz.results117]
 exact ⟨HW2.out,HB2.out⟩
end Go.Proofs.YtignmeaeibaejaaGreatDoor
