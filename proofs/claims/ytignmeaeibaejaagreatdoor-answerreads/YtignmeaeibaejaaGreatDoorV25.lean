import Derived.Test.YtignmeaeibaejaaGreatDoorV8
import Derived.Test.YtignmeaeibaejaaGreatDoorV16
import Derived.Deep.RegionHeld3
import Derived.StillTactics
namespace Go.Proofs.YtignmeaeibaejaaGreatDoor
open Go.RowKit
def wlabL (l:ByteArray):List UInt8:=nbl l.size 1++l.data.toList
def wnameL (s:ByteArray):List UInt8:=(labs s).flatMap wlabL++nbl 0 1
def wmsgL (id code typ:Int) (ans cut:Bool) (name:ByteArray):List UInt8:=
 nbl id 2++(nbl (flg ans cut) 1++(nbl code 1++(nbl 1 2++(nbl 0 2++(nbl 0 2++(nbl 0 2++(wnameL name++(nbl typ 2++nbl 1 2))))))))
theorem cells_app (a b:List UInt8):Lib.byteCells (a++b)=Lib.byteCells a++Lib.byteCells b:=by simp [Lib.byteCells]
theorem wlab_cells (l:ByteArray):wlab l=Lib.byteCells (wlabL l):=by
 unfold wlab wlabL
 rw [cells_app,nbs_cells]
 rfl
theorem flat_cells:∀ (L:List ByteArray),L.flatMap wlab=Lib.byteCells (L.flatMap wlabL)
 | []=>rfl
 | x :: r=>by rw [List.flatMap_cons,List.flatMap_cons,cells_app,flat_cells r,wlab_cells]
theorem wname_cells (s:ByteArray):wname s=Lib.byteCells (wnameL s):=by
 unfold wname wnameL
 rw [cells_app,flat_cells,nbs_cells]
theorem wmsg_cells (id code typ:Int) (ans cut:Bool) (name:ByteArray):wmsg id code typ ans cut name=Lib.byteCells (wmsgL id code typ ans cut name):=by
 unfold wmsg wmsgL
 simp only [cells_app,nbs_cells,wname_cells]
theorem wmsgL_ne (id code typ:Int) (ans cut:Bool) (name:ByteArray):wmsgL id code typ ans cut name≠[]:=by
 unfold wmsgL
 simp [nbl]
set_option maxHeartbeats 1600000 in
set_option maxRecDepth 100000 in
theorem written_none (id code typ:Int) (ans cut:Bool) (name:ByteArray) (w:World) (hm:ML w) (hn:chkN name=0) :
 Calls Tryz.prog 23 #[msgV id code typ ans cut name] w fun e w'=>e=.returned (.string ⟨(wmsgL id code typ ans cut name).toArray⟩)∧Below w.heap.size w w':=by
 go_enter Tryz.func23,Tryz.ntmps23
 go_wp2_with fail
 obtain ⟨w0,hw0⟩:∃ w0,w0=(w.alloc (.cells #[.int .i64 id,.bool ans,.bool cut,.int .i64 code,.string name,.int .i64 typ,.slice none 0 0] 38)).alloc (.cells #[.pointer none,.slice none 0 0] 106):=⟨_,rfl⟩
 rw [← hw0]
 have hsz:w0.heap.size=w.heap.size+2:=by rw [hw0];simp
 have hgb:w0.heap[w.heap.size+1]?=some (.cells #[.pointer none,.slice none 0 0] 106 (0,0)):=by
  have h:=heap_alloc_new (w.alloc (.cells #[.int .i64 id,.bool ans,.bool cut,.int .i64 code,.string name,.int .i64 typ,.slice none 0 0] 38)) (.cells #[.pointer none,.slice none 0 0] 106)
  rw [hw0]
  simpa using h
 have HB0:Hid (Below w.heap.size w w0):=(show Below _ _ _ by rw [hw0];exact ((Below.refl _ _).alloc (Nat.le_refl _) _).alloc (by simp) _)
 have HI0:Hid (IsW (w.heap.size+1) (w.heap.size+1) [] w0):=(show IsW _ _ _ _ from .inl ⟨Nat.le_refl _,.slice none 0 0,hgb,World.ownsRow_nil w0 _ 5 1,by simp [Value.ownBlock]⟩)
 have HM0:Hid (ML w0):=(show ML w0 from hm.below HB0.out)
 clear hw0 hgb hm
 refine (message_none (w.heap.size+1) (w.heap.size+1) [] id code typ ans cut name w0 HM0.out HI0.out (by simp) hn (by omega) (by omega)).mono ?_
 rintro e w1 ⟨rfl,h1,hb1⟩
 have HI1:Hid (IsW (w.heap.size+1) (w.heap.size+1) (Lib.byteCells (wmsgL id code typ ans cut name)) w1):=(show IsW _ _ _ _ by rw [← wmsg_cells];simpa using h1)
 have HB1:Hid (Below w.heap.size w w1):=HB0.out.trans (hb1.bel.mono (by omega))
 have hz1:=HB1.out.size
 have hz2:=hb1.size
 clear h1 hb1
 go_wp2_with fail
 refine (string_any (w.heap.size+1) (w.heap.size+1) _ w1 HI1.out (wmsgL_ne _ _ _ _ _ _)).mono ?_
 rintro e w2 ⟨rfl,hb2⟩
 have HB2:Hid (Below w.heap.size w w2):=HB1.out.trans (hb2.mono (by omega))
 clear hb2
 go_wp2_with fail
 go_ret
 exact ⟨rfl,HB2.out⟩
def wdat (r:Rc.Rec):List Value:=
 if r.typ=1 then nbs r.addr 4
 else if r.typ=16 then nbs r.text.size 1++Lib.strCells r.text
 else if r.typ=33 then nbs 0 2++(nbs 0 2++(nbs r.port 2++wname r.target))
 else []
theorem wname_len {s:ByteArray} (h:chkN s=0):(wname s).length≤249:=by
 obtain ⟨hL8,hL30⟩:=chk_facts h
 unfold wname
 rw [List.length_append,nbs_len]
 have:=flat_len (labs s) hL30
 omega
theorem IsW.keep {B b:Nat} {bs:List Value} {w w':World} (h:IsW B b bs w) (hk:∀ k,k=b∨some k=bufOf w b→w'.heap[k]?=w.heap[k]?):IsW B b bs w':=by
 have go:∀ p,WAt B b p bs w→WAt B b p bs w':=fun p ⟨hB,v,hb,ho,hne⟩=>by
  have e1:bufOf w b=v.ownBlock:=by unfold bufOf;rw [cellsAt hb 1];rfl
  refine ⟨hB,v,(hk b (.inl rfl)).trans hb,?_,hne⟩
  rcases ho.2 with ⟨rfl,h0⟩ | ⟨g,cap,cur,rfl,hbg,hg,r⟩
  ·exact ⟨ho.1,.inl ⟨rfl,h0⟩⟩
  ·exact ⟨ho.1,.inr ⟨g,cap,cur,rfl,hbg,(hk g (.inr (by rw [e1];rfl))).trans hg,r⟩⟩
 rcases h with h | h
 ·exact .inl (go _ h)
 ·exact .inr (go _ h)
theorem IsW.buf {B b:Nat} {bs:List Value} {w:World} (h:IsW B b bs w):∀ k,bufOf w b=some k→B≤k∧k < w.heap.size:=by
 have go:∀ p,WAt B b p bs w→∀ k,bufOf w b=some k→B≤k∧k < w.heap.size:=fun p ⟨hB,v,hb,ho,hne⟩ k hk=>by
  have e1:bufOf w b=v.ownBlock:=by unfold bufOf;rw [cellsAt hb 1];rfl
  rw [e1] at hk
  exact ho.lt k hk
 rcases h with h | h
 ·exact go _ h
 ·exact go _ h
theorem IsW.base {B b:Nat} {bs:List Value} {w:World} (h:IsW B b bs w):B≤b:=by
 rcases h with h | h
 ·exact h.1
 ·exact h.1
theorem IsW.below {B b:Nat} {bs:List Value} {w w':World} (h:IsW B b bs w) (hb:Below w.heap.size w w'):IsW B b bs w':=
 h.keep fun k hk=>by
  rcases hk with rfl | hk
  ·exact hb.block _ h.lt
  ·exact hb.block _ (h.buf k hk.symm).2
set_option maxHeartbeats 1600000 in
set_option maxRecDepth 100000 in
theorem wdata_any (B b:Nat) (bs:List Value) (r:Rc.Rec) (w:World) (hm:ML w) (h:IsW B b bs w) (hlen:bs.length≤40000) (ht:r.text.size≤200) (hn:chkN r.target=0) (hBw:B≤w.heap.size) (hB0:0 < B) :
 Calls Tryz.prog 118 #[.pointer (some ⟨b,0,none⟩),recV r] w fun e w'=>e=.returned (.tuple #[])∧IsW B b (bs++wdat r) w'∧Kp B b w w':=by
 have HI:Hid (IsW B b bs w):=h
 have hbl:=h.lt
 clear h
 obtain ⟨name,typ,lasts,addr,text,port,target⟩:=r
 unfold wdat
 simp only at ht hn ⊢
 obtain ⟨w0,hw0⟩:∃ w0,w0=w.alloc (.cells #[.string name,.int .i64 typ,.int .i64 lasts,.int .i64 addr,.string text,.int .i64 port,.string target] 59):=⟨_,rfl⟩
 have hg0:w0.heap[w.heap.size]?=some (.cells #[.string name,.int .i64 typ,.int .i64 lasts,.int .i64 addr,.string text,.int .i64 port,.string target] 59 (0,0)):=by rw [hw0];exact heap_alloc_new w _
 have HK0:Hid (Kp B b w w0):=(show Kp B b w w0 by rw [hw0];exact Kp.alloc _ hBw)
 have HI0:Hid (IsW B b bs w0):=(show IsW B b bs w0 by rw [hw0];exact HI.out.alloc _)
 have hz0:B≤w0.heap.size:=Nat.le_trans hBw HK0.out.size
 have HM0:Hid (ML w0):=(show ML w0 from hm.kp HK0.out hB0)
 clear hm
 by_cases h1:typ=1
 ·subst h1
  rw [if_pos rfl]
  go_enter Tryz.func118,Tryz.ntmps118
  go_wp2_with fail
  rw [← hw0]
  refine (wnumber_any B b 4 addr bs w0 HI0.out (by omega) (by omega) hz0).mono ?_
  rintro e w1 ⟨rfl,h1,hb1⟩
  have HI1:Hid (IsW B b (bs++nbs addr 4) w1):=h1
  have HK1:Hid (Kp B b w w1):=HK0.out.trans hb1
  clear h1 hb1
  go_wp2_with fail
  simp [bodyPost,results,Tryz.results118]
  exact ⟨HI1.out,HK1.out⟩
 rw [if_neg h1]
 have e1:(typ == 1)=false:=by simpa using h1
 by_cases h2:typ=16
 ·subst h2
  rw [if_pos rfl]
  clear e1
  go_enter Tryz.func118,Tryz.ntmps118
  go_wp2_with fail
  rw [← hw0]
  refine (counted_any B b bs text w0 HI0.out (by omega) (by omega) hz0).mono ?_
  rintro e w1 ⟨rfl,h1,hb1⟩
  have HI1:Hid (IsW B b (bs++(nbs text.size 1++Lib.strCells text)) w1):=h1
  have HK1:Hid (Kp B b w w1):=HK0.out.trans hb1
  clear h1 hb1
  go_wp2_with fail
  simp [bodyPost,results,Tryz.results118]
  exact ⟨by simpa using HI1.out,HK1.out⟩
 rw [if_neg h2]
 have e2:(typ == 16)=false:=by simpa using h2
 by_cases h3:typ=33
 ·subst h3
  rw [if_pos rfl]
  clear e1 e2
  go_enter Tryz.func118,Tryz.ntmps118
  go_wp2_with fail
  rw [← hw0]
  refine (wnumber_any B b 2 0 bs w0 HI0.out (by omega) (by omega) hz0).mono ?_
  rintro e w1 ⟨rfl,h1,hb1⟩
  have HI1:Hid (IsW B b (bs++nbs 0 2) w1):=h1
  have HK1:Hid (Kp B b w0 w1):=hb1
  have hz1:B≤w1.heap.size:=Nat.le_trans hz0 HK1.out.size
  clear h1 hb1
  go_wp2_with fail
  refine (wnumber_any B b 2 0 _ w1 HI1.out (by omega) (by simp [nbs_len];omega) hz1).mono ?_
  rintro e w2 ⟨rfl,h1,hb1⟩
  have HI2:Hid (IsW B b ((bs++nbs 0 2)++nbs 0 2) w2):=h1
  have HK2:Hid (Kp B b w0 w2):=HK1.out.trans hb1
  have hz2:B≤w2.heap.size:=Nat.le_trans hz0 HK2.out.size
  have hg2:w2.heap[w.heap.size]?=some (.cells #[.string name,.int .i64 33,.int .i64 lasts,.int .i64 addr,.string text,.int .i64 port,.string target] 59 (0,0)):=HK2.out.oth _ _ hg0 (by simp;omega) (by simp)
  have f5:w2.cell? ⟨w.heap.size,5,none⟩=some (.int .i64 port):=cellsAt hg2 5
  clear h1 hb1 hg2
  go_wp2_with fail
  refine (wnumber_any B b 2 port _ w2 HI2.out (by omega) (by simp [nbs_len];omega) hz2).mono ?_
  rintro e w3 ⟨rfl,h1,hb1⟩
  have HI3:Hid (IsW B b (((bs++nbs 0 2)++nbs 0 2)++nbs port 2) w3):=h1
  have HK3:Hid (Kp B b w0 w3):=HK2.out.trans hb1
  have hz3:B≤w3.heap.size:=Nat.le_trans hz0 HK3.out.size
  have hg3:w3.heap[w.heap.size]?=some (.cells #[.string name,.int .i64 33,.int .i64 lasts,.int .i64 addr,.string text,.int .i64 port,.string target] 59 (0,0)):=HK3.out.oth _ _ hg0 (by simp;omega) (by simp)
  have f6:w3.cell? ⟨w.heap.size,6,none⟩=some (.string target):=cellsAt hg3 6
  clear h1 hb1 hg3
  go_wp2_with fail
  refine (wname_any B b _ target w3 (HM0.out.kp HK3.out hB0) HI3.out (by simp [nbs_len];omega) hn hz3).mono ?_
  rintro e w4 ⟨rfl,h1,hb1⟩
  have HI4:Hid (IsW B b (bs++(nbs 0 2++(nbs 0 2++(nbs port 2++wname target)))) w4):=(show IsW _ _ _ _ by simpa [List.append_assoc] using h1)
  have HK4:Hid (Kp B b w w4):=HK0.out.trans (HK3.out.trans hb1)
  clear h1 hb1
  go_wp2_with fail
  simp [bodyPost,results,Tryz.results118]
  exact ⟨by simpa using HI4.out,HK4.out⟩
 rw [if_neg h3]
 have e3:(typ == 33)=false:=by simpa using h3
 clear h1 h2 h3
 go_enter Tryz.func118,Tryz.ntmps118
 go_wp2_with fail
 simp [bodyPost,results,Tryz.results118]
 rw [← hw0]
 exact ⟨HI0.out,HK0.out⟩
set_option maxHeartbeats 800000 in
set_option maxRecDepth 100000 in
theorem write1_ok (g:Nat) (id code typ:Int) (ans cut:Bool) (name:ByteArray) (w:World) (hg:w.heap[g]?=some (.cells #[.int .i64 id,.bool ans,.bool cut,.int .i64 code,.string name,.int .i64 typ,.slice none 0 0] 38 (0,0))) (h1:within id 0 65535=true) (h2:within code 0 15=true) (hs:name.size≤maxLen) (hn:chkN name=0) (ht:(decide (typ=1) || decide (typ=16) || decide (typ=33))=true) :
 Calls Tryz.prog 21 #[.pointer (some ⟨g,0,none⟩)] w fun r w'=>r=.returned (.tuple #[])∧Below w.heap.size w w':=by
 have HC:Hid (Calls Tryz.prog 22 #[.agg #[.int .i64 id,.bool ans,.bool cut,.int .i64 code,.string name,.int .i64 typ,.slice none 0 0]] w fun r w'=>r=.returned (.tuple #[])∧Below w.heap.size w w'):=dcheck_none id code typ ans cut name w h1 h2 hs hn ht
 have c0:w.cell? ⟨g,0,none⟩=some (.int .i64 id):=cellsAt hg 0
 have c1:w.cell? ⟨g,1,none⟩=some (.bool ans):=cellsAt hg 1
 have c2:w.cell? ⟨g,2,none⟩=some (.bool cut):=cellsAt hg 2
 have c3:w.cell? ⟨g,3,none⟩=some (.int .i64 code):=cellsAt hg 3
 have c4:w.cell? ⟨g,4,none⟩=some (.string name):=cellsAt hg 4
 have c5:w.cell? ⟨g,5,none⟩=some (.int .i64 typ):=cellsAt hg 5
 have c6:w.cell? ⟨g,6,none⟩=some (.slice none 0 0):=cellsAt hg 6
 clear h1 h2 hs hn ht hg
 go_enter Tryz.func21,Tryz.ntmps21
 go_wp2_with fail
 refine HC.out.mono ?_
 rintro e w1 ⟨rfl,hb1⟩
 have HB1:Hid (Below w.heap.size w w1):=hb1
 clear hb1
 go_wp2_with fail
 simp [bodyPost,results,Tryz.results21]
 exact HB1.out
set_option maxHeartbeats 1600000 in
set_option maxRecDepth 100000 in
theorem write_none (id code typ:Int) (ans cut:Bool) (name:ByteArray) (w:World) (hm:ML w) (h1:within id 0 65535=true) (h2:within code 0 15=true) (hs:name.size≤maxLen) (hn:chkN name=0) (ht:(decide (typ=1) || decide (typ=16) || decide (typ=33))=true) (hl:(wmsgL id code typ ans cut name).length≤512) :
 Calls Tryz.prog 10 #[msgV id code typ ans cut name] w fun e w'=>e=.returned (.tuple #[.string ⟨(wmsgL id code typ ans cut name).toArray⟩,.int .i64 0])∧Below w.heap.size w w':=by
 have HWR:Hid (∀ W,Below w.heap.size w W→Calls Tryz.prog 23 #[msgV id code typ ans cut name] W fun e w'=>e=.returned (.string ⟨(wmsgL id code typ ans cut name).toArray⟩)∧Below W.heap.size W w'):=fun W hW=>written_none id code typ ans cut name W (hm.below hW) hn
 have HW1:Hid (∀ (g:Nat) (W:World),W.heap[g]?=some (.cells #[.int .i64 id,.bool ans,.bool cut,.int .i64 code,.string name,.int .i64 typ,.slice none 0 0] 38 (0,0))→Calls Tryz.prog 21 #[.pointer (some ⟨g,0,none⟩)] W fun r w'=>r=.returned (.tuple #[])∧Below W.heap.size W w'):=fun g W hg=>write1_ok g id code typ ans cut name W hg h1 h2 hs hn ht
 have ef:∀ args W,(callFunc 21 args).run Tryz.prog W=.ok (.enter 21 args) W:=enters_of Tryz.func21 (by kernel_rfl) rfl
 have hlen:((⟨(wmsgL id code typ ans cut name).toArray⟩:ByteArray).size:Int)≤512:=by
  have:(⟨(wmsgL id code typ ans cut name).toArray⟩:ByteArray).size=(wmsgL id code typ ans cut name).length:=by simp [ByteArray.size]
  omega
 generalize (⟨(wmsgL id code typ ans cut name).toArray⟩:ByteArray)=T at *
 clear h1 h2 hs hn ht hl hm
 go_enter Tryz.func10,Tryz.ntmps10
 go_wp2_with fail
 obtain ⟨w0,hw0⟩:∃ w0,w0=w.alloc (.cells #[.int .i64 id,.bool ans,.bool cut,.int .i64 code,.string name,.int .i64 typ,.slice none 0 0] 38):=⟨_,rfl⟩
 rw [← hw0]
 have hg0:w0.heap[w.heap.size]?=some (.cells #[.int .i64 id,.bool ans,.bool cut,.int .i64 code,.string name,.int .i64 typ,.slice none 0 0] 38 (0,0)):=by rw [hw0];exact heap_alloc_new w _
 have HB0:Hid (Below w.heap.size w w0):=(show Below _ _ _ by rw [hw0];exact (Below.refl _ _).alloc (Nat.le_refl _) _)
 have hl0:w.heap.size < w0.heap.size:=(Array.getElem?_eq_some_iff.1 hg0).1
 clear hw0
 have hge:(w0.alloc (.cells #[.int .i64 0] 29)).heap[w0.heap.size]?=some (.cells #[.int .i64 0] 29 (0,0)):=heap_alloc_new w0 _
 have hgm:(w0.alloc (.cells #[.int .i64 0] 29)).heap[w.heap.size]?=some (.cells #[.int .i64 id,.bool ans,.bool cut,.int .i64 code,.string name,.int .i64 typ,.slice none 0 0] 38 (0,0)):=(Lib.alloc_old w0 _ _ hl0).trans hg0
 have hsa:(w0.alloc (.cells #[.int .i64 0] 29)).heap.size=w0.heap.size+1:=by simp
 have HAT:Hid (Calls Tryz.prog 20 #[.func (.func 21) #[] #[.pointer (some ⟨w.heap.size,0,none⟩)]] w0 fun r w'=>r=.returned (.int .i64 0)∧Below w0.heap.size w0 w'):=(show Calls _ _ _ _ _ by
  refine (attempt_ok 21 #[.pointer (some ⟨w.heap.size,0,none⟩)] w0 (fun W=>Below (w0.heap.size+1) (w0.alloc (.cells #[.int .i64 0] 29)) W) ef ?_).mono ?_
  ·refine (HW1.out w.heap.size _ hgm).mono ?_
   rintro r w' ⟨rfl,hb⟩
   rw [hsa] at hb
   have hk:w'.heap[w0.heap.size]?=some (.cells #[.int .i64 0] 29 (0,0)):=(hb.block _ (by omega)).trans hge
   exact ⟨rfl,hb,cellsAt hk 0,by simp [World.frozen?,hk],(Array.getElem?_eq_some_iff.1 hk).1⟩
  ·rintro r w' ⟨rfl,w1,hR,_,rfl⟩
   exact ⟨rfl,(((Below.refl _ _).alloc (Nat.le_refl _) _).trans (hR.mono (by omega))).setCell (p:=⟨w0.heap.size,0,none⟩) (Nat.le_refl _) _⟩)
 have HC:Hid (∀ W,Below w0.heap.size w0 W→W.heap[w.heap.size]?=some (.cells #[.int .i64 id,.bool ans,.bool cut,.int .i64 code,.string name,.int .i64 typ,.slice none 0 0] 38 (0,0))):=fun W hW=>(hW.block _ hl0).trans hg0
 clear hge hgm hsa hg0 HW1 ef
 refine HAT.out.mono ?_
 rintro e w1 ⟨rfl,hb1⟩
 have HB1:Hid (Below w.heap.size w w1):=HB0.out.trans (hb1.mono (Nat.le_of_lt hl0))
 have hg1:=HC.out w1 hb1
 have c0:w1.cell? ⟨w.heap.size,0,none⟩=some (.int .i64 id):=cellsAt hg1 0
 have c1:w1.cell? ⟨w.heap.size,1,none⟩=some (.bool ans):=cellsAt hg1 1
 have c2:w1.cell? ⟨w.heap.size,2,none⟩=some (.bool cut):=cellsAt hg1 2
 have c3:w1.cell? ⟨w.heap.size,3,none⟩=some (.int .i64 code):=cellsAt hg1 3
 have c4:w1.cell? ⟨w.heap.size,4,none⟩=some (.string name):=cellsAt hg1 4
 have c5:w1.cell? ⟨w.heap.size,5,none⟩=some (.int .i64 typ):=cellsAt hg1 5
 have c6:w1.cell? ⟨w.heap.size,6,none⟩=some (.slice none 0 0):=cellsAt hg1 6
 clear hb1 hg1 HAT HC
 go_wp2_with fail
 refine (HWR.out _ HB1.out).mono ?_
 rintro e w2 ⟨rfl,hb2⟩
 have HB2:Hid (Below w.heap.size w w2):=HB1.out.trans (hb2.mono HB1.out.size)
 have hcmp:decide (512 < (T.size:Int))=false:=by simp;omega
 clear hb2
 go_wp2_with fail
 go_ret2
 exact ⟨rfl,HB2.out⟩
end Go.Proofs.YtignmeaeibaejaaGreatDoor
