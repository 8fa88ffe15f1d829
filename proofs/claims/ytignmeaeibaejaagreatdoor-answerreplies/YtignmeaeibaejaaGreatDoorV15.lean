import Derived.Test.YtignmeaeibaejaaGreatDoorV10
import Derived.Test.YtignmeaeibaejaaGreatDoorV8
namespace Go.Proofs.YtignmeaeibaejaaGreatDoor
open Go.RowKit
def allQ (q:Qu):List ByteArray:=[q.service,q.tag,q.node,q.centre]
def wj (q:Qu) (j:Nat):Bool:=if j=2 then isW2 ((allQ q).getD j ByteArray.empty) else isW3 ((allQ q).getD j ByteArray.empty)
theorem wj_all (q:Qu) (h:∀ j,j < 4→wj q j=false):wordB q=false:=by
 have h0:isW3 q.service=false:=h 0 (by omega)
 have h1:isW3 q.tag=false:=h 1 (by omega)
 have h2:isW2 q.node=false:=h 2 (by omega)
 have h3:isW3 q.centre=false:=h 3 (by omega)
 unfold wordB
 rw [h0,h1,h2,h3];rfl
theorem wj_one (q:Qu) (j:Nat) (hj:j < 4) (h:wj q j=true):wordB q=true:=by
 unfold wordB
 match j,hj,h with
 | 0,_,h=>have:isW3 q.service=true:=h
          rw [this];simp
 | 1,_,h=>have:isW3 q.tag=true:=h
          rw [this];simp
 | 2,_,h=>have:isW2 q.node=true:=h
          rw [this];simp
 | 3,_,h=>have:isW3 q.centre=true:=h
          rw [this];simp
theorem isW2_iff (x:ByteArray):isW2 x=true↔x=bServ∨x=bNode:=by
 unfold isW2;rw [Lib.containsS_iff];simp
theorem isW3_iff (x:ByteArray):isW3 x=true↔x=bServ∨x=bNode∨x=bMesh:=by
 unfold isW3;rw [Lib.containsS_iff];simp
theorem ne_lit {s:ByteArray} (l:List UInt8) (h:s≠mk l):(s.toList == l)=false∧¬ s.toList=l:=by
 have h2:¬ s.toList=l:=fun e=>h (by rw [← e,Lib.toList_data,mk_data])
 exact ⟨by simpa using h2,h2⟩
abbrev lServ:List UInt8:=[115,101,114,118,105,99,101]
abbrev lNode:List UInt8:=[110,111,100,101]
abbrev lMesh:List UInt8:=[109,101,115,104]
theorem ne_serv {s:ByteArray} (h:s≠bServ):(s.toList == [115,101,114,118,105,99,101])=false∧¬ s.toList=[115,101,114,118,105,99,101]:=ne_lit lServ h
theorem ne_node {s:ByteArray} (h:s≠bNode):(s.toList == [110,111,100,101])=false∧¬ s.toList=[110,111,100,101]:=ne_lit lNode h
theorem ne_mesh {s:ByteArray} (h:s≠bMesh):(s.toList == [109,101,115,104])=false∧¬ s.toList=[109,101,115,104]:=ne_lit lMesh h
set_option maxHeartbeats 3200000 in
set_option maxRecDepth 100000 in
theorem rCheckQ_any (q:Qu) (w:World) (hq:q.ok) :
 Calls Tryz.prog 42 #[.agg #[.string q.service,.string q.tag,.string q.node,.string q.centre]] w fun e w'=>e=.returned (.int .i64 (chkQ q))∧Below w.heap.size w w':=by
 have HR1:Hid (frmQ q=true→chkQ q=1):=fun h=>by unfold chkQ;rw [if_pos h]
 have HR2:Hid (frmQ q=false→(allQ q).all labE=false→chkQ q=1):=fun h h2=>by unfold chkQ;rw [if_neg (by rw [h];simp)];exact if_pos h2
 have HR3:Hid (frmQ q=false→(allQ q).all labE=true→chkQ q=if wordB q=true then 7 else 0):=fun h h2=>by unfold chkQ;rw [if_neg (by rw [h];simp),if_neg (by rw [show [q.service,q.tag,q.node,q.centre]=allQ q from rfl,h2];simp)]
 have HF:Hid (frmQ q=((decide (q.service.size=0) == decide (q.node.size=0)) || (decide (q.tag.size≠0) && decide (q.service.size=0)))):=rfl
 have HZ:Hid (∀ j,j < 4→((allQ q).getD j ByteArray.empty).size≤maxLen):=fun j hj=>by
  match j,hj with
  | 0,_=>exact hq.1
  | 1,_=>exact hq.2.1
  | 2,_=>exact hq.2.2.1
  | 3,_=>exact hq.2.2.2
 have HAT:Hid ((∀ j,j < 4→labE ((allQ q).getD j ByteArray.empty)=true)→(allQ q).all labE=true):=fun h=>by
  have h0:=h 0 (by omega)
  have h1:=h 1 (by omega)
  have h2:=h 2 (by omega)
  have h3:=h 3 (by omega)
  simp only [allQ,List.getD,List.getElem?_cons_zero,List.getElem?_cons_succ,Option.getD_some] at h0 h1 h2 h3
  simp [allQ,h0,h1,h2,h3]
 have HAF:Hid (∀ j,j < 4→labE ((allQ q).getD j ByteArray.empty)=false→(allQ q).all labE=false):=fun j hj h=>by
  rw [List.all_eq_false]
  refine ⟨(allQ q).getD j ByteArray.empty,?_,by rw [h];simp⟩
  match j,hj with
  | 0,_=>simp [allQ]
  | 1,_=>simp [allQ]
  | 2,_=>simp [allQ]
  | 3,_=>simp [allQ]
 have HWA:Hid ((∀ j,j < 4→wj q j=false)→wordB q=false):=wj_all q
 have HWO:Hid (∀ j,j < 4→wj q j=true→wordB q=true):=wj_one q
 have HWJ:Hid (∀ j,wj q j=if j=2 then isW2 ((allQ q).getD j ByteArray.empty) else isW3 ((allQ q).getD j ByteArray.empty)):=fun j=>rfl
 have HC:Hid (∀ (g:Nat) (W:World),W.heap[g]?=some (.cells #[.string q.service,.string q.tag,.string q.node,.string q.centre] 9 (0,0))→∀ j,j < 4→W.cell? ⟨g,j,none⟩=some (.string ((allQ q).getD j ByteArray.empty))):=fun g W hg j hj=>by
  rw [cellsAt hg]
  match j,hj with
  | 0,_=>rfl
  | 1,_=>rfl
  | 2,_=>rfl
  | 3,_=>rfl
 generalize hwf:wj q=wf at *
 generalize hgf:(fun j=>(allQ q).getD j ByteArray.empty)=gf at *
 have hgf2:∀ j,(allQ q).getD j ByteArray.empty=gf j:=fun j=>by rw [← hgf]
 simp only [hgf2] at HZ HAT HAF HWJ HC
 clear hwf hgf hgf2 hq
 generalize (allQ q).all labE=lb at *
 generalize wordB q=wb at *
 generalize chkQ q=r at *
 generalize frmQ q=fr at *
 obtain ⟨sv,tg,nd,ce⟩:=q
 simp only at HC HF ⊢
 by_cases hs:sv.size=0<;>by_cases hn:nd.size=0<;>by_cases ht:tg.size=0
 all_goals
  have HF2:=HF.out
  simp only [hs,hn,ht,decide_true,decide_false,Bool.or_false,Bool.or_true,beq_self_eq_true,ne_eq,not_true_eq_false,not_false_eq_true,Bool.and_true,Bool.and_false] at HF2
  clear HF
  first | (have es:=isempty hs;subst es) | (obtain ⟨s1,s2⟩:=nempty hs)
  first | (have en:=isempty hn;subst en) | (obtain ⟨n1,n2⟩:=nempty hn)
  first | (have et:=isempty ht;subst et) | (obtain ⟨t1,t2⟩:=nempty ht)
  clear hs hn ht
  go_enter Tryz.func42,Tryz.ntmps42
  go_wp2_with fail
 all_goals first
  | (go_ret
     exact ⟨ret_int (HR1.out HF2).symm,(Below.refl _ _).alloc (Nat.le_refl _) _⟩)
  | (have HF3:Hid (fr=false):=(show fr=false from HF2)
     clear HF2
     generalize hWW:World.alloc (World.alloc w _) _=WW at *
     have HCW:=HC.out (w.heap.size+1) WW (by rw [← hWW];exact new_at _ (by simp))
     have HCC:Hid (∀ j,j < 4→WW.cell? ⟨w.heap.size+1,j,none⟩=some (.string (gf j))):=HCW
     have HBW:Hid (Below w.heap.size w WW):=(show Below w.heap.size w WW by rw [← hWW];exact ((Below.refl _ _).alloc (Nat.le_refl _) _).alloc (by simp) _)
     clear HCW HC hWW
     go_loop [4] (fun i=>∃ k:Nat,k≤4∧i=.int .i64 k∧Hid (∀ j,j < k→labE (gf j)=true)) (fun i=>4 - (intOf i).toNat)
     case atStart=>exact ⟨0,Nat.zero_le _,rfl,fun j h=>absurd h (Nat.not_lt_zero _)⟩
     case round=>
      obtain ⟨k,hk,rfl,hz⟩:=hrel
      by_cases hlt:k < 4
      ·have hc:=HCC.out k hlt
       have hsk:=HZ.out k hlt
       have HZ2:Hid (labE (gf k)=true→∀ j,j < k+1→labE (gf j)=true):=fun h j hj=>by
        rcases Nat.lt_succ_iff_lt_or_eq.1 hj with h2 | rfl
        ·exact hz.out j h2
        ·exact h
       have HFF:Hid (labE (gf k)=false→r=1):=fun h=>HR2.out HF3.out (HAF.out k hlt h)
       generalize gf k=s at *
       by_cases hse:s=ByteArray.empty
       ·subst hse
        have HZ3:Hid (∀ j,j < k+1→labE (gf j)=true):=HZ2.out (by simp [labE])
        clear HZ2 HFF
        go_wp2_with fail
        go_round
        case rel=>exact ⟨k+1,by omega,by go_num,HZ3.out⟩
        case measure=>simp [intOf];omega
       ·have HE:Hid (labE s=labB s):=(show labE s=labB s by simp [labE,hse])
        obtain ⟨h1,h2⟩:=beq_name hse
        have h3:¬ s.toList=[]:=fun e=>h2 (by rw [e,Lib.toList_data];rfl)
        have h4:(s.toList == [])=false:=by simpa using h3
        clear hse
        rcases hl:labB s with _ | _
        ·have HR:Hid (r=1):=HFF.out (by rw [HE.out,hl])
         go_wp2_with (go_at_call 32;refine (isLabel_any _ _ hsk).mono ?_;rintro e w' ⟨rfl,rfl⟩;rw [hl])
         go_ret
         exact ⟨ret_int HR.out.symm,HBW.out⟩
        ·have HZ3:Hid (∀ j,j < k+1→labE (gf j)=true):=HZ2.out (by rw [HE.out,hl])
         clear HZ2 HFF
         go_wp2_with (go_at_call 32;refine (isLabel_any _ _ hsk).mono ?_;rintro e w' ⟨rfl,rfl⟩;rw [hl])
         go_round
         case rel=>exact ⟨k+1,by omega,by go_num,HZ3.out⟩
         case measure=>simp [intOf];omega
      ·have HRW:Hid (r=if wb=true then 7 else 0):=HR3.out HF3.out (HAT.out fun j hj=>hz.out j (by omega))
       clear HR1 HR2 HR3 HAT HAF hz
       go_wp2_with fail
       clear hlt hk
       go_loop [5] (fun i=>∃ k:Nat,k≤4∧i=.int .i64 k∧Hid (∀ j,j < k→wf j=false)) (fun i=>4 - (intOf i).toNat)
       case atStart=>exact ⟨0,Nat.zero_le _,rfl,fun j h=>absurd h (Nat.not_lt_zero _)⟩
       case round=>
        obtain ⟨m,hm,rfl,hz⟩:=hrel
        by_cases hlt:m < 4
        ·have hc:=HCC.out m hlt
         have hw0:=HWJ.out m
         have HZ2:Hid (wf m=false→∀ j,j < m+1→wf j=false):=fun h j hj=>by
          rcases Nat.lt_succ_iff_lt_or_eq.1 hj with h2 | rfl
          ·exact hz.out j h2
          ·exact h
         have HFF:Hid (wf m=true→r=7):=fun h=>by rw [HRW.out,HWO.out m hlt h];rfl
         generalize gf m=s at *
         generalize wf m=b at *
         by_cases h2:m=2
         ·subst h2
          rw [if_pos rfl] at hw0
          rcases hb:isW2 s with _ | _
          ·have hne:=fun h=>(Bool.eq_false_iff.1 hb) ((isW2_iff s).2 h)
           obtain ⟨a1,a2⟩:=ne_serv (fun e=>hne (.inl e))
           obtain ⟨b1,b2⟩:=ne_node (fun e=>hne (.inr e))
           have HZ3:Hid (∀ j,j < 2+1→wf j=false):=HZ2.out (by rw [hw0,hb])
           clear HZ2 HFF hw0 hne hb
           go_wp2_with fail
           go_round
           case rel=>exact ⟨2+1,by omega,by go_num,HZ3.out⟩
           case measure=>simp [intOf]
          ·have HR:Hid (r=7):=HFF.out (by rw [hw0,hb])
           clear HZ2 HFF hw0
           rcases (isW2_iff s).1 hb with rfl | rfl
           all_goals
            clear hb
            go_wp2_with fail
            go_ret
            exact ⟨ret_int HR.out.symm,HBW.out⟩
         ·rw [if_neg h2] at hw0
          have h5:((m:Int) == 2)=false:=by simp;omega
          have h6:¬ (m:Int)=2:=by omega
          rcases hb:isW3 s with _ | _
          ·have hne:=fun h=>(Bool.eq_false_iff.1 hb) ((isW3_iff s).2 h)
           obtain ⟨a1,a2⟩:=ne_serv (fun e=>hne (.inl e))
           obtain ⟨b1,b2⟩:=ne_node (fun e=>hne (.inr (.inl e)))
           obtain ⟨c1,c2⟩:=ne_mesh (fun e=>hne (.inr (.inr e)))
           have HZ3:Hid (∀ j,j < m+1→wf j=false):=HZ2.out (by rw [hw0,hb])
           clear HZ2 HFF hw0 hne hb h2
           go_wp2_with fail
           go_round
           case rel=>exact ⟨m+1,by omega,by go_num,HZ3.out⟩
           case measure=>simp [intOf];omega
          ·have HR:Hid (r=7):=HFF.out (by rw [hw0,hb])
           clear HZ2 HFF hw0 h2
           rcases (isW3_iff s).1 hb with rfl | rfl | rfl
           all_goals
            clear hb
            go_wp2_with fail
            go_ret
            exact ⟨ret_int HR.out.symm,HBW.out⟩
        ·have HR:Hid (r=0):=(show r=0 by rw [HRW.out,HWA.out fun j hj=>hz.out j (by omega)];rfl)
         go_wp2_with fail
         go_ret
         exact ⟨ret_int HR.out.symm,HBW.out⟩)
def bytes (s:ByteArray):List UInt8:=s.data.toList
def opt (s:ByteArray):List (List UInt8):=if s.size=0 then [] else [bytes s]
def pLabs (q:Qu):List (List UInt8):=
 if q.node.size=0 then opt q.tag++(opt q.service++([lServ]++(opt q.centre++[lMesh]))) else opt q.node++([lNode]++(opt q.centre++[lMesh]))
def prt (q:Qu):ByteArray:=mk (jn (pLabs q))
def prE (q:Qu):Int:=if chkQ q=0 then chkN (prt q) else chkQ q
def prS (q:Qu):ByteArray:=if prE q=0 then prt q else ⟨#[]⟩
theorem opt_full {s:ByteArray} (h:s.size≠0):opt s=[bytes s]:=if_neg h
theorem opt_none {s:ByteArray} (h:s.size=0):opt s=[]:=if_pos h
theorem chkQ_zero {q:Qu} (h:chkQ q=0):frmQ q=false∧labE q.service=true∧labE q.tag=true∧labE q.node=true∧labE q.centre=true∧wordB q=false:=by
 unfold chkQ at h
 split at h
 ·omega
 ·rename_i h1
  split at h
  ·omega
  ·rename_i h2
   split at h
   ·omega
   ·rename_i h3
    have h2':[q.service,q.tag,q.node,q.centre].all labE=true:=by simpa using h2
    simp only [List.all_cons,List.all_nil,Bool.and_true,Bool.and_eq_true] at h2'
    exact ⟨by simpa using h1,h2'.1,h2'.2.1,h2'.2.2.1,h2'.2.2.2,by simpa using h3⟩
theorem labE_size {s:ByteArray} (h:labE s=true):s.size≤30:=by
 unfold labE at h
 simp only [Bool.or_eq_true,decide_eq_true_eq] at h
 rcases h with rfl | h
 ·decide
 ·unfold labB at h
  simp only [Bool.and_eq_true,decide_eq_true_eq] at h
  exact h.1.2
theorem ba_app (a b:ByteArray):a++b=mk (bytes a++bytes b):=by
 rw [← mk_data (a++b)]
 simp [bytes]
theorem qbox {w w1:World} {a b c d:Value} {t:TypeId} (h:Below (w.alloc (.cells #[a,b,c,d] t)).heap.size (w.alloc (.cells #[a,b,c,d] t)) w1) :
 w1.cell? ⟨w.heap.size,0,none⟩=some a∧w1.cell? ⟨w.heap.size,1,none⟩=some b∧w1.cell? ⟨w.heap.size,2,none⟩=some c∧w1.cell? ⟨w.heap.size,3,none⟩=some d∧Hid (Below w.heap.size w w1)∧w.heap.size < w1.heap.size:=by
 have hg:w1.heap[w.heap.size]?=some (.cells #[a,b,c,d] t (0,0)):=(h.block _ (by simp)).trans (heap_alloc_new w _)
 exact ⟨cellsAt hg 0,cellsAt hg 1,cellsAt hg 2,cellsAt hg 3,((Below.refl _ _).alloc (Nat.le_refl _) _).trans (h.mono (by simp)),(Array.getElem?_eq_some_iff.1 hg).1⟩
theorem lit1:(ByteArray.mk #[46,115,101,114,118,105,99,101,46]).size=9:=rfl
theorem lit2:(ByteArray.mk #[109,101,115,104]).size=4:=rfl
theorem lit3:(ByteArray.mk #[46]).size=1:=rfl
theorem lit4:(ByteArray.mk #[46,110,111,100,101,46]).size=6:=rfl
theorem ret2_eq {a b:ByteArray} {x y:Int} (h1:a=b) (h2:x=y):Ending.returned (.tuple #[.string a,.int .i64 x])=.returned (.tuple #[.string b,.int .i64 y]):=by rw [h1,h2]
theorem prS_ret {E:Int} {T S:ByteArray} (h:S=if E=0 then T else ⟨#[]⟩) (h0:E=0):S=T:=by rw [h,if_pos h0]
set_option maxHeartbeats 3200000 in
set_option maxRecDepth 100000 in
theorem printOf_any (q:Qu) (w:World) (hq:q.ok) :
 Calls Tryz.prog 41 #[.agg #[.string q.service,.string q.tag,.string q.node,.string q.centre]] w fun e w'=>e=.returned (.tuple #[.string (prS q),.int .i64 (prE q)])∧Below w.heap.size w w':=by
 have HCQ:Hid (∀ W,Calls Tryz.prog 42 #[.agg #[.string q.service,.string q.tag,.string q.node,.string q.centre]] W fun e w'=>e=.returned (.int .i64 (chkQ q))∧Below W.heap.size W w'):=fun W=>rCheckQ_any q W hq
 by_cases h0:chkQ q=0
 ·obtain ⟨zf,z1,z2,z3,z4,_⟩:=chkQ_zero h0
  have hsn:q.node.size=0→q.service.size≠0:=fun hn hs=>by
   unfold frmQ at zf
   simp [hn,hs] at zf
  have y1:=labE_size z1
  have y2:=labE_size z2
  have y3:=labE_size z3
  have y4:=labE_size z4
  clear z1 z2 z3 z4 zf
  have HCN:Hid (∀ (t:ByteArray) W,t=prt q→t.size≤2000000→Calls Tryz.prog 39 #[.string t] W fun e w'=>e=.returned (.int .i64 (chkN (prt q)))∧Below W.heap.size W w'):=fun t W h hz=>by
   rw [← h];exact rCheckName_any t W hz
  have HE:Hid (prE q=chkN (prt q)):=if_pos h0
  have HS:Hid (prS q=if prE q=0 then prt q else ⟨#[]⟩):=rfl
  have HP:Hid (prt q=mk (jn (pLabs q))):=rfl
  have HPL:Hid (pLabs q=if q.node.size=0 then opt q.tag++(opt q.service++([lServ]++(opt q.centre++[lMesh]))) else opt q.node++([lNode]++(opt q.centre++[lMesh]))):=rfl
  rw [h0] at HCQ
  generalize pLabs q=PL at *
  generalize prS q=S at *
  generalize hce:chkN (prt q)=ce' at *
  generalize prt q=T at *
  generalize prE q=E at *
  clear h0 hq hce
  obtain ⟨sv,tg,nd,ce⟩:=q
  simp only at HCQ HPL y1 y2 y3 y4 hsn ⊢
  by_cases hn:nd.size=0<;>by_cases ht:tg.size=0<;>by_cases hc:ce.size=0
  all_goals
   have HPL2:=HPL.out
   simp only [hn,if_true,if_false] at HPL2
   clear HPL
   first | (rw [opt_full (hsn hn)] at HPL2) | (rw [opt_full hn] at HPL2)
   first | (rw [opt_none ht] at HPL2) | (rw [opt_full ht] at HPL2) | skip
   first | (rw [opt_none hc] at HPL2) | (rw [opt_full hc] at HPL2)
   have HT:Hid (T=mk (jn PL)):=HP.out
   rw [HPL2] at HT
   clear HP HPL2 hsn
   first | (have en:=isempty hn;subst en) | (obtain ⟨n1,n2⟩:=nempty hn)
   first | (have et:=isempty ht;subst et) | (obtain ⟨t1,t2⟩:=nempty ht)
   first | (have ec:=isempty hc;subst ec) | (obtain ⟨c1,c2⟩:=nempty hc)
   clear hn ht hc
   go_enter Tryz.func41,Tryz.ntmps41
   go_wp2_with fail
   refine (HCQ.out _).mono ?_
   rintro e w1 ⟨rfl,hb1⟩
   obtain ⟨f0,f1,f2,f3,HB1,hl1⟩:=qbox hb1
   clear hb1
   go_wp2_with fail
   refine (HCN.out _ w1 ?_ ?_).mono ?_
   ·rw [HT.out]
    simp [ba_app,jn,bytes,mk]
   ·simp only [ByteArray.size_append,lit1,lit2,lit3,lit4]
    omega
   rintro e w2 ⟨rfl,hb2⟩
   have HBT:Hid (Below w.heap.size w w2):=HB1.out.trans (hb2.mono (Nat.le_of_lt hl1))
   clear HCN hb2 f0 f1 f2 f3
   by_cases hz:ce'=0
   ·have HS2:Hid (S=T):=prS_ret HS.out (by rw [HE.out];exact hz)
    subst hz
    go_wp2_with fail
    go_ret2
    refine ⟨ret2_eq ?_ HE.out.symm,HBT.out⟩
    rw [HS2.out,HT.out]
    simp [ba_app,jn,bytes,mk]
   ·have HS2:Hid (S=⟨#[]⟩):=(show S=⟨#[]⟩ by rw [HS.out,if_neg (by rw [HE.out];exact hz)])
    have hz2:(ce' == 0)=false:=by simpa using hz
    go_wp2_with fail
    go_ret2
    exact ⟨ret2_eq HS2.out.symm HE.out.symm,HBT.out⟩
 ·have HE:Hid (prE q=chkQ q):=if_neg h0
  have HS:Hid (prS q=⟨#[]⟩):=if_neg (by rw [HE.out];exact h0)
  rw [HE.out,HS.out]
  have h1:(chkQ q == 0)=false:=by simpa using h0
  clear HE HS
  generalize chkQ q=r at *
  go_enter Tryz.func41,Tryz.ntmps41
  go_wp2_with (go_at_call 42;refine (HCQ.out _).mono ?_;rintro e w1 ⟨rfl,hb1⟩)
  go_ret2
  have hz:=hb1.size
  simp at hz
  exact ⟨rfl,((Below.refl _ _).alloc (Nat.le_refl _) _).trans (hb1.mono (by simp))⟩
end Go.Proofs.YtignmeaeibaejaaGreatDoor
