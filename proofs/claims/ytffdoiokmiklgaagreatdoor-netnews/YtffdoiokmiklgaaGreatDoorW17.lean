import Derived.Test.YtffdoiokmiklgaaGreatDoorW1
import Derived.Test.YtffdoiokmiklgaaGreatDoorW16
import Derived.Laws.StructEq
import Derived.Deep.Slices
import Derived.Lib.SmallJoins
import Derived.ProofKit
namespace Go.Proofs.YtffdoiokmiklgaaGreatDoor
open Go.RowKit
set_option maxHeartbeats 800000 in
theorem labels_any (ss:List ByteArray) (b cap:Nat) (w:World) (hb:∀ j,j < ss.length→w.cell? ⟨b,j,none⟩=some (.string (ss.getD j ByteArray.empty))) (hs:∀ j,(ss.getD j ByteArray.empty).size≤maxLen) (hn:ss.length≤1000) :
 Calls Tryz.prog 38 #[.slice (some ⟨b,0,none⟩) ss.length cap] w fun e w'=>e=.returned (.bool (ss.all labB))∧w'=w:=by
 have HB:Hid (∀ j,j < ss.length→w.cell? ⟨b,j,none⟩=some (.string (ss.getD j ByteArray.empty))):=hb
 have HS:Hid (∀ j,(ss.getD j ByteArray.empty).size≤maxLen):=hs
 have H0:Hid ((∀ j,j < ss.length→labB (ss.getD j ByteArray.empty)=true)→ss.all labB=true):=fun h=>by
  rw [List.all_eq_true]
  intro x hx
  obtain ⟨j,hj,rfl⟩:=List.getElem_of_mem hx
  have:=h j hj
  simpa [List.getD,List.getElem?_eq_getElem hj] using this
 have H1:Hid (∀ j,j < ss.length→labB (ss.getD j ByteArray.empty)=false→ss.all labB=false):=fun j hj h=>by
  rw [List.all_eq_false]
  refine ⟨ss[j],List.getElem_mem hj,?_⟩
  rw [show ss.getD j ByteArray.empty=ss[j] by simp [List.getD,List.getElem?_eq_getElem hj]] at h
  simp [h]
 clear hb hs
 generalize ss.all labB=res at *
 generalize hN:ss.length=n at *
 clear hN
 go_enter Tryz.func38,Tryz.ntmps38
 go_wp2_with fail
 go_loop [7] (fun i=>∃ k:Nat,k≤n∧i=.int .i64 k∧Hid (∀ j,j < k→labB (ss.getD j ByteArray.empty)=true)) (fun i=>n - (intOf i).toNat)
 case atStart=>exact ⟨0,Nat.zero_le _,rfl,fun j h=>absurd h (Nat.not_lt_zero _)⟩
 case round=>
  obtain ⟨k,hk,rfl,hz⟩:=hrel
  by_cases hlt:k < n
  ·have hc:=HB.out k hlt
   have hsk:=HS.out k
   have HZ:Hid (labB (ss.getD k ByteArray.empty)=true→∀ j,j < k+1→labB (ss.getD j ByteArray.empty)=true):=fun h j hj=>by
    rcases Nat.lt_succ_iff_lt_or_eq.1 hj with h2 | rfl
    ·exact hz.out j h2
    ·exact h
   have HF:Hid (labB (ss.getD k ByteArray.empty)=false→res=false):=fun h=>H1.out k hlt h
   generalize ss.getD k ByteArray.empty=s at *
   rcases hl:labB s with _ | _
   ·have HR:Hid (res=false):=HF.out hl
    go_wp2_with (go_at_call 75;refine (label_any _ _ hsk).mono ?_;rintro e w' ⟨rfl,rfl⟩;rw [hl])
    go_ret
    exact ⟨ret_bool HR.out.symm,rfl⟩
   ·go_wp2_with (go_at_call 75;refine (label_any _ _ hsk).mono ?_;rintro e w' ⟨rfl,rfl⟩;rw [hl])
    go_round
    case rel=>exact ⟨k+1,by omega,by go_num,HZ.out hl⟩
    case measure=>simp [intOf];omega
  ·have HR:Hid (res=true):=H0.out fun j hj=>hz.out j (by omega)
   go_wp2_with fail
   go_ret
   exact ⟨ret_bool HR.out.symm,rfl⟩
def labE (t:ByteArray):Bool:=decide (t=ByteArray.empty) || labB t
set_option maxHeartbeats 1600000 in
theorem labelsE_any (ss:List ByteArray) (b cap:Nat) (w:World) (hb:∀ j,j < ss.length→w.cell? ⟨b,j,none⟩=some (.string (ss.getD j ByteArray.empty))) (hs:∀ j,(ss.getD j ByteArray.empty).size≤maxLen) (hn:ss.length≤1000) :
 Calls Tryz.prog 231 #[.slice (some ⟨b,0,none⟩) ss.length cap] w fun e w'=>e=.returned (.bool (ss.all labE))∧w'=w:=by
 have HB:Hid (∀ j,j < ss.length→w.cell? ⟨b,j,none⟩=some (.string (ss.getD j ByteArray.empty))):=hb
 have HS:Hid (∀ j,(ss.getD j ByteArray.empty).size≤maxLen):=hs
 have H0:Hid ((∀ j,j < ss.length→labE (ss.getD j ByteArray.empty)=true)→ss.all labE=true):=fun h=>by
  rw [List.all_eq_true]
  intro x hx
  obtain ⟨j,hj,rfl⟩:=List.getElem_of_mem hx
  have:=h j hj
  simpa [List.getD,List.getElem?_eq_getElem hj] using this
 have H1:Hid (∀ j,j < ss.length→labE (ss.getD j ByteArray.empty)=false→ss.all labE=false):=fun j hj h=>by
  rw [List.all_eq_false]
  refine ⟨ss[j],List.getElem_mem hj,?_⟩
  rw [show ss.getD j ByteArray.empty=ss[j] by simp [List.getD,List.getElem?_eq_getElem hj]] at h
  simp [h]
 clear hb hs
 generalize ss.all labE=res at *
 generalize hN:ss.length=n at *
 clear hN
 go_enter Tryz.func231,Tryz.ntmps231
 go_wp2_with fail
 go_loop [7] (fun i=>∃ k:Nat,k≤n∧i=.int .i64 k∧Hid (∀ j,j < k→labE (ss.getD j ByteArray.empty)=true)) (fun i=>n - (intOf i).toNat)
 case atStart=>exact ⟨0,Nat.zero_le _,rfl,fun j h=>absurd h (Nat.not_lt_zero _)⟩
 case round=>
  obtain ⟨k,hk,rfl,hz⟩:=hrel
  by_cases hlt:k < n
  ·have hc:=HB.out k hlt
   have hsk:=HS.out k
   have HZ:Hid (labE (ss.getD k ByteArray.empty)=true→∀ j,j < k+1→labE (ss.getD j ByteArray.empty)=true):=fun h j hj=>by
    rcases Nat.lt_succ_iff_lt_or_eq.1 hj with h2 | rfl
    ·exact hz.out j h2
    ·exact h
   have HF:Hid (labE (ss.getD k ByteArray.empty)=false→res=false):=fun h=>H1.out k hlt h
   generalize ss.getD k ByteArray.empty=s at *
   by_cases hse:s=ByteArray.empty
   ·subst hse
    have HZ2:Hid (∀ j,j < k+1→labE (ss.getD j ByteArray.empty)=true):=HZ.out (by simp [labE])
    clear HZ HF
    go_wp2_with fail
    go_round
    case rel=>exact ⟨k+1,by omega,by go_num,HZ2.out⟩
    case measure=>simp [intOf];omega
   ·have HE:Hid (labE s=labB s):=(show labE s=labB s by simp [labE,hse])
    obtain ⟨h1,h2⟩:=beq_name hse
    have h3:¬ s.toList=[]:=fun e=>h2 (by rw [e,Lib.toList_data];rfl)
    have h4:(s.toList == [])=false:=by simpa using h3
    clear hse
    rcases hl:labB s with _ | _
    ·have HR:Hid (res=false):=HF.out (by rw [HE.out,hl])
     go_wp2_with (go_at_call 75;refine (label_any _ _ hsk).mono ?_;rintro e w' ⟨rfl,rfl⟩;rw [hl])
     go_ret
     exact ⟨ret_bool HR.out.symm,rfl⟩
    ·have HZ2:Hid (∀ j,j < k+1→labE (ss.getD j ByteArray.empty)=true):=HZ.out (by rw [HE.out,hl])
     clear HZ HF
     go_wp2_with (go_at_call 75;refine (label_any _ _ hsk).mono ?_;rintro e w' ⟨rfl,rfl⟩;rw [hl])
     go_round
     case rel=>exact ⟨k+1,by omega,by go_num,HZ2.out⟩
     case measure=>simp [intOf];omega
  ·have HR:Hid (res=true):=H0.out fun j hj=>hz.out j (by omega)
   go_wp2_with fail
   go_ret
   exact ⟨ret_bool HR.out.symm,rfl⟩
theorem labE_any (t:ByteArray) (W:World) (g:Nat) (hs:t.size≤maxLen) (hg:W.heap[g]?=some (.cells #[.string t] 9 (0,0))) :
 Calls Tryz.prog 231 #[.slice (some ⟨g,0,none⟩) 1 1] W fun e w'=>e=.returned (.bool (labE t))∧w'=W:=by
 have h:=labelsE_any [t] g 1 W (fun j hj=>by
  rw [cellsAt hg]
  have:j=0:=by simp at hj;omega
  subst this;rfl) (fun j=>by
  match j with
  | 0=>exact hs
  | _+1=>simp [List.getD]) (by simp)
 simpa using h
end Go.Proofs.YtffdoiokmiklgaaGreatDoor
namespace Go.Proofs.YtffdoiokmiklgaaGreatDoor
namespace Gw
open Go.RowKit
theorem stg_len {a b:List Gwy} (hla:a.length≤6) (hlb:b.length≤6) (k:Nat):(stg a b k).length≤12:=by
 unfold stg
 split
 ·simp
 ·split
  ·omega
  ·have:=joinL_len b a;omega
structure Kth (w:World) (pb:Nat) (a b:List Gwy) (k:Nat) (l:List Gwy) (pk:Option Addr) (ck:Nat):Prop where
 cell:w.cell? ⟨pb,k,none⟩=some (.slice pk l.length ck)
 row:l=[]∨∃ b off,pk=some ⟨b,off,none⟩∧b < w.heap.size∧Row w b off l
 oks:∀ m∈l,(m).ok
 len:l.length≤6
 len0:(stg a b k).length≤6
 rise0:Rise (stg a b k)
 oks0:∀ m∈stg a b k,(m).ok
 step:stg a b (k+1)=joinL (stg a b k) l
theorem kth_of {a b:List Gwy} {va vb:Value} {pb:Nat} {w:World} (ha:Sl w va a) (hb:Sl w vb b) (hc0:w.cell? ⟨pb,0,none⟩=some va) (hc1:w.cell? ⟨pb,1,none⟩=some vb) (hla:a.length≤6) (hlb:b.length≤6) (ra:Rise a) (k:Nat) (hk:k < 2) :
 ∃ l pk ck,Kth w pb a b k l pk ck:=by
 obtain ⟨pa,ca,rfl,nsa,ha⟩:=ha
 obtain ⟨pv,cb,rfl,nsb,hb⟩:=hb
 have hcases:k=0∨k=1:=by omega
 rcases hcases with rfl | rfl
 ·exact ⟨a,pa,ca,hc0,ha,ns_mem nsa,hla,by simp [stg],by simp [stg],by simp [stg],(joinL_nil a ra).symm⟩
 ·exact ⟨b,pv,cb,hc1,hb,ns_mem nsb,hlb,hla,ra,ns_mem nsa,rfl⟩
set_option maxHeartbeats 4000000 in
set_option maxRecDepth 100000 in
theorem rjoin_two (a b:List Gwy) (va vb:Value) (pb cap:Nat) (w:World) (ha:Sl w va a) (hb:Sl w vb b) (hpb:pb < w.heap.size) (hc0:w.cell? ⟨pb,0,none⟩=some va) (hc1:w.cell? ⟨pb,1,none⟩=some vb)
 (hla:a.length≤6) (hlb:b.length≤6) (ra:Rise a) :
 Calls Tryz.prog 201 #[.func (.func 187) #[] #[],.func (.func 202) #[] #[],.slice (some ⟨pb,0,none⟩) 2 cap] w fun e w'=>∃ v',e=.returned v'∧Own w.heap.size w' v' (joinL a b)∧Below w.heap.size w w':=by
 have HK:Hid (∀ k,k < 2→∃ l pk ck,Kth w pb a b k l pk ck):=fun k hk=>kth_of ha hb hc0 hc1 hla hlb ra k hk
 have HL2:Hid (∀ k,(stg a b k).length≤12):=stg_len hla hlb
 clear ha hb hc0 hc1 hla hlb ra
 go_enter Tryz.func201,Tryz.ntmps201
 go_wp2_with fail
 go_loopw [7,16] (fun kn i w'=>∃ k:Nat,k≤2∧i=.int .i64 k∧Below w.heap.size w w'∧Hid (Own w.heap.size w' kn (stg a b k))) (fun _ i _=>2 - (intOf i).toNat)
 case atStart=>exact ⟨0,by omega,rfl,Below.refl _ _,own_nil _ _⟩
 case round=>
  obtain ⟨k,hk,rfl,hbl,HO⟩:=hrel
  obtain ⟨hbc,hbf⟩:=bcell hbl
  have hsz:=hbl.size
  by_cases hk2:k < 2
  ·obtain ⟨l,pk,ck,hKth⟩:=HK.out k hk2
   have HKT:Hid (Kth w pb a b k l pk ck):=hKth
   have hcell:=hKth.cell
   clear hKth
   generalize hnl:l.length=nl at *
   have HNL:Hid (l.length=nl):=hnl
   clear hnl
   have hnl40:nl≤6:=by have:=HKT.out.len;have:=HNL.out;omega
   have hk2':(k:Int) < 2:=by omega
   go_wp2_with fail
   go_loopw [7,22] (fun kn j w'=>∃ q:Nat,q≤nl∧j=.int .i64 q∧Below w.heap.size w w'∧Hid (Own w.heap.size w' kn (joinL (stg a b k) (l.take q)))) (fun _ j _=>nl - (intOf j).toNat)
   case atStart=>exact ⟨0,Nat.zero_le _,rfl,hbl,HO⟩
   case round=>
    clear hbc hbf hsz hbl HO hcell
    obtain ⟨q,hq,rfl,hbl,HO⟩:=hrel
    obtain ⟨hbc,hbf⟩:=bcell hbl
    have hsz:=hbl.size
    by_cases hlt:q < nl
    ·obtain ⟨b2,off,hptr,hpl,hrow⟩:∃ b_1 off,pk=some ⟨b_1,off,none⟩∧b_1 < w.heap.size∧Row w b_1 off l:=by
      rcases HKT.out.row with h | h
      ·have:=HNL.out;rw [h] at this;simp at this;omega
      ·exact h
     subst hptr
     obtain ⟨c0,c1,c2⟩:=hrow q (by rw [HNL.out];exact hlt)
     clear hrow
     have HJ:Hid (joinL (stg a b k) (l.take (q+1))=hearL (joinL (stg a b k) (l.take q)) (l.getD q dm)):=joinL_take (stg a b k) l q (by rw [HNL.out];exact hlt)
     have HR:Hid (Rise (joinL (stg a b k) (l.take q))):=joinL_rise _ _ HKT.out.rise0
     have HNs:Hid (∀ j,((joinL (stg a b k) (l.take q)).getD j dm).ok):=ns_get (ns_join _ _ HKT.out.oks0 (fun x hx=>HKT.out.oks x (List.mem_of_mem_take hx)))
     have HL:Hid ((joinL (stg a b k) (l.take q)).length≤12):=by
      have h1:=joinL_len (l.take q) (stg a b k)
      have h2:(l.take q).length≤q:=List.length_take_le _ _
      have h3:=HKT.out.len0
      show (joinL (stg a b k) (l.take q)).length≤12
      omega
     generalize l.getD q dm=m at *
     generalize joinL (stg a b k) (l.take q)=known at *
     have hl40:known.length≤12:=HL.out
     obtain ⟨W1,hW1⟩:∃ W1,W1=wr.alloc (.cells #[.string m.centre,.int .i64 m.addr,.int .i64 m.version] 107):=⟨_,rfl⟩
     have hb1:Below wr.heap.size wr W1:=by rw [hW1];exact (Below.refl _ _).alloc (Nat.le_refl _) _
     have hs1:W1.heap.size=wr.heap.size+1:=by rw [hW1];simp
     have hg1:W1.heap[wr.heap.size]?=some (.cells #[.string m.centre,.int .i64 m.addr,.int .i64 m.version] 107 (0,0)):=by rw [hW1];exact heap_alloc_new wr _
     have HO1:Hid (Own w.heap.size W1 u7 known):=HO.out.below hb1
     have HF:Hid (Calls Tryz.prog 241 #[u7,.agg #[.string m.centre,.int .i64 m.addr,.int .i64 m.version],.func (.func 187) #[] #[]] W1 fun e w'=>∃ (p:Nat) (f:Bool),e=.returned (.tuple #[.int .i64 p,.bool f])∧Below W1.heap.size W1 w'∧At known m p f):=
      find_any known u7 m W1 (HO1.out.sl HNs.out) HL.out HR.out
     have HB1:Hid (Below w.heap.size w W1):=hbl.trans (hb1.mono hsz)
     have HT:Hid (∀ o,W1.cell? ⟨wr.heap.size,o,none⟩=#[.string m.centre,.int .i64 m.addr,.int .i64 m.version][o]?):=fun o=>cellsAt hg1 o
     have HW1:Hid (W1=wr.alloc (.cells #[.string m.centre,.int .i64 m.addr,.int .i64 m.version] 107)):=hW1
     have hs1':w.heap.size≤W1.heap.size:=by omega
     clear hg1 hb1 HO HL HR hW1
     go_wp2_with fail
     rw [← HW1.out]
     refine HF.out.mono ?_
     rintro e w2 ⟨p,f,rfl,hb2,hat⟩
     have HAT:Hid (At known m p f):=hat
     have hpl2:p≤known.length:=hat.le
     have hsz2:=hb2.size
     have HO2:Hid (Own w.heap.size w2 u7 known):=HO1.out.below hb2
     have HB2:Hid (Below w.heap.size w w2):=HB1.out.trans (hb2.mono hs1')
     have t0:w2.cell? ⟨wr.heap.size,0,none⟩=some (.string m.centre):=(hb2.cell (p:=⟨wr.heap.size,0,none⟩) (by show wr.heap.size < W1.heap.size;omega)).trans (HT.out 0)
     have t1:w2.cell? ⟨wr.heap.size,1,none⟩=some (.int .i64 m.addr):=(hb2.cell (p:=⟨wr.heap.size,1,none⟩) (by show wr.heap.size < W1.heap.size;omega)).trans (HT.out 1)
     have t2:w2.cell? ⟨wr.heap.size,2,none⟩=some (.int .i64 m.version):=(hb2.cell (p:=⟨wr.heap.size,2,none⟩) (by show wr.heap.size < W1.heap.size;omega)).trans (HT.out 2)
     have hs2:w.heap.size≤w2.heap.size:=by omega
     have hs2':wr.heap.size < w2.heap.size:=by omega
     clear hat HF hbc hbf c0 c1 c2 hb2 HO1 HB1 HT
     cases f
     ·have hne:Hid (u7.ownBlock≠some w2.heap.size):=fun e=>by have:=HO2.out.lt _ e;omega
      have HO3:Hid (Own w.heap.size (w2.alloc (.cells #[.string m.centre,.int .i64 m.addr,.int .i64 m.version] 107)) u7 known):=HO2.out.below ((Below.refl _ _).alloc (Nat.le_refl _) _)
      have hvb:Hid ((w2.alloc (.cells #[.string m.centre,.int .i64 m.addr,.int .i64 m.version] 107)).heap[w2.heap.size]?=some (.cells m.cs.toArray 107 (0,0))):=heap_alloc_new w2 _
      go_wp2_with (go_at_call 242;refine (insert_any w.heap.size p w2.heap.size u7 known m _ HO3.out HAT.out.le (by omega) (by simp;omega) hvb.out hne.out).mono ?_;rintro e w4 ⟨v',rfl,g1,g2⟩)
      go_roundw
      case rel=>
       have hfin:∃ q_1:Nat,q_1≤nl∧Value.int .i64 ((q:Int)+1)=.int .i64 q_1∧Below w.heap.size w w4∧Hid (Own w.heap.size w4 v' (joinL (stg a b k) (l.take q_1))):=⟨q+1,by omega,by go_num,below_grown (HB2.out.alloc hs2 _) HO3.out g2 (by simp;omega),by rw [HJ.out,hearL_at known m p false HAT.out];exact g1⟩
       first | exact hfin | ((repeat apply Exists.intro);exact ⟨hfin,rfl⟩)
      case measure=>simp [intOf];omega
     ·have hp:p < known.length:=(HAT.out.is.1 rfl).1
      obtain ⟨g,c,hu⟩:=own_form HO2.out p hp
      subst hu
      obtain ⟨c0,c1,c2⟩:=own_cells HO2.out p hp
      have hgl:=HO2.out.lt g rfl
      have hgl2:g < w2.heap.size:=hgl.2
      generalize hm:known.getD p dm=m2 at *
      have Hm:Hid (known.getD p dm=m2):=hm
      clear hm
      have hN:∀ d os,Calls Tryz.prog 202 #[.agg #[.string m.centre,.int .i64 m.addr,.int .i64 m.version],.agg #[.string m2.centre,.int .i64 m2.addr,.int .i64 m2.version]] (Go.Sort.grow (redrawn w2 d) os) fun e w''=>e=.returned (.bool (newE m m2))∧∃ p:Regrown,w''=Go.Sort.grow (redrawn w2 p.d) p.os:=fun d os=>Calls.regrown_of (newerE_any m m2 _)
      have F0:∀ d os,(Go.Sort.grow (redrawn w2 d) os).cell? ⟨g,p * 3,none⟩=some (.string m2.centre):=cell_regrown c0
      have F1:∀ d os,(Go.Sort.grow (redrawn w2 d) os).cell? ⟨g,p * 3+1,none⟩=some (.int .i64 m2.addr):=cell_regrown c1
      have F2:∀ d os,(Go.Sort.grow (redrawn w2 d) os).cell? ⟨g,p * 3+2,none⟩=some (.int .i64 m2.version):=cell_regrown c2
      have G0:∀ d os,(Go.Sort.grow (redrawn w2 d) os).cell? ⟨wr.heap.size,0,none⟩=some (.string m.centre):=cell_regrown t0
      have G1:∀ d os,(Go.Sort.grow (redrawn w2 d) os).cell? ⟨wr.heap.size,1,none⟩=some (.int .i64 m.addr):=cell_regrown t1
      have G2:∀ d os,(Go.Sort.grow (redrawn w2 d) os).cell? ⟨wr.heap.size,2,none⟩=some (.int .i64 m.version):=cell_regrown t2
      have hfz:∀ o,w2.frozen? ⟨g,o,none⟩=false:=fun o=>World.ownsRow.frozenAt HO2.out o
      have HFZ:Hid (∀ o,w2.frozen? ⟨g,o,none⟩=false):=hfz
      clear c0 c1 c2 hfz
      have HT:Hid (w2.cell? ⟨wr.heap.size,0,none⟩=some (.string m.centre)∧w2.cell? ⟨wr.heap.size,1,none⟩=some (.int .i64 m.addr)∧w2.cell? ⟨wr.heap.size,2,none⟩=some (.int .i64 m.version)):=⟨t0,t1,t2⟩
      clear t0 t1 t2
      generalize hnw:newE m m2=nw at *
      have Hnw:Hid (newE m m2=nw):=hnw
      clear hnw
      cases nw
      ·go_wp2_with fail
       refine wp_region_quiet_below (by kernel_rfl) (by kernel_rfl) ?_
       repeat (quiet_step (exact hN _ _))
       refine wpQuiet_nil ?_
       intro _ hw'
       obtain ⟨⟨dq,osq⟩,hw''⟩:=hw'
       subst hw''
       have HBQ:Hid (Below w2.heap.size w2 (Go.Sort.grow (redrawn w2 dq) osq)):=below_regrown w2 dq osq
       clear hN F0 F1 F2 G0 G1 G2
       go_wp2_with fail
       go_roundw
       case rel=>
        have hfin:∃ q_1:Nat,q_1≤nl∧Value.int .i64 ((q:Int)+1)=.int .i64 q_1∧Below w.heap.size w (Go.Sort.grow (redrawn w2 dq) osq)∧Hid (Own w.heap.size (Go.Sort.grow (redrawn w2 dq) osq) (.slice (some ⟨g,0,none⟩) known.length c) (joinL (stg a b k) (l.take q_1))):=⟨q+1,by omega,by go_num,HB2.out.trans (HBQ.out.mono hs2),by rw [HJ.out,hearL_at known m p true HAT.out,if_pos rfl,Hm.out,if_neg (fun h=>Bool.false_ne_true (Hnw.out.symm.trans h))];exact HO2.out.below HBQ.out⟩
        first | exact hfin | ((repeat apply Exists.intro);exact ⟨hfin,rfl⟩)
       case measure=>simp [intOf];omega
      ·go_wp2_with fail
       refine wp_region_quiet_below (by kernel_rfl) (by kernel_rfl) ?_
       repeat (quiet_step (exact hN _ _))
       refine wpQuiet_nil ?_
       intro _ hw'
       obtain ⟨⟨dq,osq⟩,hw''⟩:=hw'
       subst hw''
       have HBQ:Hid (Below w2.heap.size w2 (Go.Sort.grow (redrawn w2 dq) osq)):=below_regrown w2 dq osq
       clear hN F0 F1 F2 G0 G1 G2
       generalize Go.Sort.grow (redrawn w2 dq) osq=w3 at *
       have HO3:Hid (Own w.heap.size w3 (.slice (some ⟨g,0,none⟩) known.length c) known):=HO2.out.below HBQ.out
       obtain ⟨c0,c1,c2⟩:=own_cells HO3.out p hp
       rw [Hm.out] at c0 c1 c2
       have hg3:g < w3.heap.size:=(HO3.out.lt g rfl).2
       have hfz:∀ o,w3.frozen? ⟨g,o,none⟩=false:=fun o=>World.ownsRow.frozenAt HO3.out o
       obtain ⟨t0,t1,t2⟩:=HT.out
       have s0:w3.cell? ⟨wr.heap.size,0,none⟩=some (.string m.centre):=(HBQ.out.cell (p:=⟨wr.heap.size,0,none⟩) hs2').trans t0
       have s1:w3.cell? ⟨wr.heap.size,1,none⟩=some (.int .i64 m.addr):=(HBQ.out.cell (p:=⟨wr.heap.size,1,none⟩) hs2').trans t1
       have s2:w3.cell? ⟨wr.heap.size,2,none⟩=some (.int .i64 m.version):=(HBQ.out.cell (p:=⟨wr.heap.size,2,none⟩) hs2').trans t2
       clear t0 t1 t2
       go_wp2_with fail
       refine ⟨⟨q+1,by omega,by go_num,?_,?_⟩,by simp [intOf];omega⟩
       ·exact ((((HB2.out.trans (HBQ.out.mono hs2)).setCell (p:=⟨g,p * 3,none⟩) hgl.1 (.string m.centre)).setCell (p:=⟨g,p * 3+1,none⟩) hgl.1 (.int .i64 m.addr)).setCell (p:=⟨g,p * 3+2,none⟩) hgl.1 (.int .i64 m.version))
       ·rw [HJ.out,hearL_at known m p true HAT.out,if_pos rfl,Hm.out,if_pos Hnw.out]
        exact own_set HO3.out hp m
    ·have hqn:q=nl:=by omega
     subst hqn
     have HO3:Hid (Own w.heap.size wr u7 (stg a b (k+1))):=by
      have h:=HO.out
      rw [List.take_of_length_le (by rw [HNL.out];exact Nat.le_refl _)] at h
      rw [HKT.out.step];exact h
     go_wp2_with fail
     go_roundw
     case rel=>exact ⟨k+1,by omega,by go_num,hbl,HO3⟩
     case measure=>simp [intOf];omega
  ·have hk3:k=2:=by omega
   subst hk3
   go_wp2_with fail
   go_ret
   exact ⟨_,rfl,HO.out,hbl⟩
end Gw
namespace Gw
open Go.RowKit
set_option maxHeartbeats 800000 in
theorem checkOneE_any (m:Gwy) (w:World) (hm:m.ok) :
 Calls Tryz.prog 185 #[.agg #[.string m.centre,.int .i64 m.addr,.int .i64 m.version]] w fun e w'=>e=.returned (.int .i64 m.e)∧Below w.heap.size w w':=by
 have hs:m.centre.size≤maxLen:=hm
 have hB:Hid (Below w.heap.size w (w.alloc (.cells #[.string m.centre,.int .i64 m.addr,.int .i64 m.version] 107))):=(Below.refl _ _).alloc (Nat.le_refl _) _
 clear hm
 rcases h1:labB m.centre with _ | _
 ·go_enter Tryz.func185,Tryz.ntmps185
  go_wp2_with (go_at_call 75;refine (label_any _ _ hs).mono ?_;rintro e w' ⟨rfl,rfl⟩;rw [h1])
  go_ret
  exact ⟨ret_int (by simp [Gwy.e,h1]),hB.out⟩
 ·rcases h2:within m.addr 0 4294967295 with _ | _
  ·go_enter Tryz.func185,Tryz.ntmps185
   go_wp2_with (first | (go_at_call 75;refine (label_any _ _ hs).mono ?_;rintro e w' ⟨rfl,rfl⟩;rw [h1]) | (go_at_call 39;refine (address_any _ _).mono ?_;rintro e w' ⟨rfl,rfl⟩;rw [h2]))
   go_ret
   exact ⟨ret_int (by simp [Gwy.e,h1,h2]),hB.out⟩
  ·rcases h3:within m.version 1 1000000 with _ | _
   all_goals
    go_enter Tryz.func185,Tryz.ntmps185
    go_wp2_with (first | (go_at_call 75;refine (label_any _ _ hs).mono ?_;rintro e w' ⟨rfl,rfl⟩;rw [h1]) | (go_at_call 39;refine (address_any _ _).mono ?_;rintro e w' ⟨rfl,rfl⟩;rw [h2]) | (go_at_call 76;refine (within_any _ _ _ _).mono ?_;rintro e w' ⟨rfl,rfl⟩;rw [h3]))
    go_ret
    exact ⟨ret_int (by simp [Gwy.e,h1,h2,h3]),hB.out⟩
set_option maxHeartbeats 800000 in
theorem check_row (ms:List Gwy) (b off cap:Nat) (w:World) (hr:Row w b off ms) (hb:b < w.heap.size) (hn:ms.length≤6) (hs:∀ j,(ms.getD j dm).ok) :
 Calls Tryz.prog 128 #[.slice (some ⟨b,off,none⟩) ms.length cap] w fun e w'=>e=.returned (.int .i64 (chk ms))∧Below w.heap.size w w':=by
 have HR:Hid (Row w b off ms):=hr
 have HE:Hid (∀ k,k < ms.length→(∀ j,j < k→(ms.getD j dm).e=0)→(ms.getD k dm).e≠0→chk ms=(ms.getD k dm).e):=fun k h1 h2 h3=>chk_e ms k hn h1 h2 h3
 have H4:Hid ((∀ j,j < ms.length→(ms.getD j dm).e=0)→chk ms=if risesB ms=true then 0 else 4):=fun h1=>chk_r ms hn h1
 have HSl:Hid (∀ w',Below w.heap.size w w'→Calls Tryz.prog 186 #[.slice (some ⟨b,off,none⟩) ms.length cap,.func (.func 187) #[] #[]] w' fun e w''=>e=.returned (.bool (risesB ms))∧Below w'.heap.size w' w''):=fun w' hbw=>rises_row ms b off cap w' (hr.later hbw hb) (Nat.lt_of_lt_of_le hb hbw.size) hn
 clear hr
 generalize hN:ms.length=n at *
 have HN:Hid (ms.length=n):=hN
 clear hN
 have HS:Hid (∀ j,(ms.getD j dm).ok):=hs
 clear hs
 generalize hC:chk ms=res at *
 have HC:Hid (chk ms=res):=hC
 clear hC
 generalize hRB:risesB ms=rb at *
 have HRB:Hid (risesB ms=rb):=hRB
 clear hRB
 go_enter Tryz.func128,Tryz.ntmps128
 go_wp2_with fail
 go_loopw [11] (fun i w'=>∃ k:Nat,k≤n∧i=.int .i64 k∧Below w.heap.size w w'∧Hid (∀ j,j < k→(ms.getD j dm).e=0)) (fun i _=>n - (intOf i).toNat)
 case atStart=>exact ⟨0,Nat.zero_le _,rfl,Below.refl _ _,fun j h=>absurd h (Nat.not_lt_zero _)⟩
 case round=>
  obtain ⟨k,hk,rfl,hbl,hz⟩:=hrel
  obtain ⟨hbc,hbf⟩:=bcell hbl
  have hsz:=hbl.size
  by_cases hlt:k < n
  ·obtain ⟨c0,c1,c2⟩:=HR.out k (by rw [HN.out];exact hlt)
   have HSK:Hid ((ms.getD k dm).ok):=HS.out k
   have HK:Hid ((ms.getD k dm).e≠0→res=(ms.getD k dm).e):=fun h=>HE.out k hlt hz.out h
   have HZ:Hid ((ms.getD k dm).e=0→∀ j,j < k+1→(ms.getD j dm).e=0):=fun h j hj=>by
    rcases Nat.lt_succ_iff_lt_or_eq.1 hj with h2 | rfl
    ·exact hz.out j h2
    ·exact h
   generalize ms.getD k dm=m at *
   have HO:Hid (∀ w,Calls Tryz.prog 185 #[.agg #[.string m.centre,.int .i64 m.addr,.int .i64 m.version]] w fun e w'=>e=.returned (.int .i64 m.e)∧Below w.heap.size w w'):=fun w=>checkOneE_any m w HSK.out
   generalize m.e=me at *
   rcases he:decide (me=0) with _ | _
   ·have he':(me != 0)=true:=by simpa using he
    clear he
    go_wp2_with (go_at_call 185;refine (HO.out _).mono ?_;rintro e w' ⟨rfl,hb2⟩)
    go_ret
    have hne:me≠0:=by simpa using he'
    have hres:res=me:=HK.out hne
    exact ⟨ret_int hres.symm,(hbl.alloc hsz _).trans (hb2.mono (by simp;omega))⟩
   ·have he':(me != 0)=false:=by simpa using he
    clear he
    go_wp2_with (go_at_call 185;refine (HO.out _).mono ?_;rintro e w' ⟨rfl,hb2⟩)
    go_roundw
    case rel=>
     have he0:me=0:=by simpa using he'
     exact ⟨k+1,by omega,by go_num,(hbl.alloc hsz _).trans (hb2.mono (by simp;omega)),HZ.out he0⟩
    case measure=>simp [intOf];omega
  ·have hall:Hid (∀ j,j < n→(ms.getD j dm).e=0):=fun j hj=>hz.out j (by omega)
   have HRes:Hid (res=if rb=true then 0 else 4):=H4.out hall.out
   clear hz hall H4 HE HC HRB
   cases rb
   ·go_wp2_with (go_at_call 186;refine (HSl.out _ hbl).mono ?_;rintro e w' ⟨rfl,hb2⟩)
    go_ret
    exact ⟨ret_int (by rw [HRes.out];rfl),hbl.trans (hb2.mono hsz)⟩
   ·go_wp2_with (go_at_call 186;refine (HSl.out _ hbl).mono ?_;rintro e w' ⟨rfl,hb2⟩)
    go_ret
    exact ⟨ret_int (by rw [HRes.out];rfl),hbl.trans (hb2.mono hsz)⟩
set_option maxHeartbeats 400000 in
theorem check_many (a:Option Addr) (n cap:Nat) (w:World) (hn:6 < n) :
 Calls Tryz.prog 128 #[.slice a n cap] w fun e w'=>e=.returned (.int .i64 2)∧w'=w:=by
 go_enter Tryz.func128,Tryz.ntmps128
 go_wp2_with fail
 go_ret
 exact ⟨rfl,rfl⟩
set_option maxHeartbeats 400000 in
theorem check_none (a:Option Addr) (cap:Nat) (w:World) :
 Calls Tryz.prog 128 #[.slice a 0 cap] w fun e w'=>e=.returned (.int .i64 0)∧w'=w:=by
 go_enter Tryz.func128,Tryz.ntmps128
 go_wp2_with fail
 go_loop [11] (fun i=>i=.int .i64 0) (fun _=>0)
 case atStart=>rfl
 case round=>
  subst hrel
  go_wp2_with (go_at_call 186;refine (rises_none _ _ _ _).mono ?_;rintro e w' ⟨rfl,rfl⟩)
  go_ret
  exact ⟨rfl,rfl⟩
theorem check_any (ms:List Gwy) (v:Value) (w:World) (h:Sl w v ms) :
 Calls Tryz.prog 128 #[v] w fun e w'=>e=.returned (.int .i64 (chk ms))∧Below w.heap.size w w':=by
 obtain ⟨a,cap,rfl,hs,h⟩:=h
 by_cases hn:6 < ms.length
 ·refine (check_many a ms.length cap w hn).mono ?_
  rintro e w' ⟨rfl,rfl⟩
  exact ⟨ret_int (by rw [chk,if_pos hn]),Below.refl _ _⟩
 ·rcases h with rfl | ⟨b,off,rfl,hb,hr⟩
  ·refine (check_none a cap w).mono ?_
   rintro e w' ⟨rfl,rfl⟩
   exact ⟨rfl,Below.refl _ _⟩
  ·exact check_row ms b off cap w hr hb (by omega) hs
set_option maxHeartbeats 800000 in
theorem checkAll_two (a b:List Gwy) (va vb:Value) (pb cap:Nat) (w:World) (ha:Sl w va a) (hb:Sl w vb b) (hpb:pb < w.heap.size) (hc0:w.cell? ⟨pb,0,none⟩=some va) (hc1:w.cell? ⟨pb,1,none⟩=some vb) :
 Calls Tryz.prog 200 #[.slice (some ⟨pb,0,none⟩) 2 cap] w fun e w'=>e=.returned (.int .i64 (chkTwo a b))∧Below w.heap.size w w':=by
 have HA:Hid (Sl w va a):=ha
 have HB:Hid (Sl w vb b):=hb
 clear ha hb
 go_enter Tryz.func200,Tryz.ntmps200
 go_wp2_with fail
 go_loopw [8] (fun i w'=>∃ k:Nat,k≤2∧i=.int .i64 k∧Below w.heap.size w w'∧Hid (0 < k→chk a=0)∧Hid (1 < k→chk b=0)) (fun i _=>2 - (intOf i).toNat)
 case atStart=>exact ⟨0,by omega,rfl,Below.refl _ _,fun h=>by omega,fun h=>by omega⟩
 case round=>
  obtain ⟨k,hk,rfl,hbl,hz0,hz1⟩:=hrel
  obtain ⟨hbc,hbf⟩:=bcell hbl
  have hsz:=hbl.size
  have HA':Hid (Sl wr va a):=HA.out.below hbl
  have HB':Hid (Sl wr vb b):=HB.out.below hbl
  have hcases:k=0∨k=1∨k=2:=by omega
  rcases hcases with rfl | rfl | rfl
  ·rcases he:decide (chk a=0) with _ | _
   ·have he':(chk a != 0)=true:=by simpa using he
    clear he
    go_wp2_with (go_at_call 128;refine (check_any a _ _ HA'.out).mono ?_;rintro e w' ⟨rfl,hb2⟩)
    go_ret
    exact ⟨ret_int (by have h0:chk a≠0:=(by simpa using he');rw [chkTwo,if_neg h0]),hbl.trans (hb2.mono hsz)⟩
   ·have he':(chk a != 0)=false:=by simpa using he
    clear he
    go_wp2_with (go_at_call 128;refine (check_any a _ _ HA'.out).mono ?_;rintro e w' ⟨rfl,hb2⟩)
    go_roundw
    case rel=>exact ⟨1,by omega,by go_num,hbl.trans (hb2.mono hsz),fun _=>(by simpa using he'),fun h=>by omega⟩
    case measure=>simp [intOf]
  ·have h0:Hid (chk a=0):=hz0.out (by omega)
   rcases he:decide (chk b=0) with _ | _
   ·have he':(chk b != 0)=true:=by simpa using he
    clear he
    go_wp2_with (go_at_call 128;refine (check_any b _ _ HB'.out).mono ?_;rintro e w' ⟨rfl,hb2⟩)
    go_ret
    exact ⟨ret_int (by rw [chkTwo,if_pos h0.out]),hbl.trans (hb2.mono hsz)⟩
   ·have he':(chk b != 0)=false:=by simpa using he
    clear he
    go_wp2_with (go_at_call 128;refine (check_any b _ _ HB'.out).mono ?_;rintro e w' ⟨rfl,hb2⟩)
    go_roundw
    case rel=>exact ⟨2,by omega,by go_num,hbl.trans (hb2.mono hsz),fun _=>h0.out,fun _=>(by simpa using he')⟩
    case measure=>simp [intOf]
  ·go_wp2_with fail
   go_ret
   exact ⟨ret_int (by rw [chkTwo,if_pos (hz0.out (by omega)),hz1.out (by omega)]),hbl⟩
set_option maxHeartbeats 400000 in
theorem join_bad (a b:List Gwy) (va vb:Value) (pb cap:Nat) (w:World) (ha:Sl w va a) (hb:Sl w vb b) (hpb:pb < w.heap.size) (hc0:w.cell? ⟨pb,0,none⟩=some va) (hc1:w.cell? ⟨pb,1,none⟩=some vb) (hne:chkTwo a b≠0) :
 Calls Tryz.prog 138 #[.slice (some ⟨pb,0,none⟩) 2 cap] w fun e w'=>e=.returned (.tuple #[.slice none 0 0,.int .i64 (joinE a b)])∧Below w.heap.size w w':=by
 have he:(chkTwo a b != 0)=true:=by simpa using hne
 have HE:Hid (joinE a b=chkTwo a b):=if_neg hne
 have hcon:=checkAll_two a b va vb pb cap w ha hb hpb hc0 hc1
 have HC:Hid (Calls Tryz.prog 200 #[.slice (some ⟨pb,0,none⟩) 2 cap] w fun e w'=>e=.returned (.int .i64 (chkTwo a b))∧Below w.heap.size w w'):=hcon
 clear hcon ha hb hne
 go_enter Tryz.func138,Tryz.ntmps138
 go_wp2_with (go_at_call 200;refine HC.out.mono ?_;rintro e w' ⟨rfl,hb2⟩)
 go_ret2
 exact ⟨by rw [HE.out];rfl,hb2⟩
set_option maxHeartbeats 1600000 in
set_option maxRecDepth 100000 in
theorem join_good (a b:List Gwy) (va vb:Value) (pb cap:Nat) (w:World) (ha:Sl w va a) (hb:Sl w vb b) (hpb:pb < w.heap.size) (hc0:w.cell? ⟨pb,0,none⟩=some va) (hc1:w.cell? ⟨pb,1,none⟩=some vb) (h0:chkTwo a b=0) :
 Calls Tryz.prog 138 #[.slice (some ⟨pb,0,none⟩) 2 cap] w fun e w'=>∃ v',e=.returned (.tuple #[v',.int .i64 (joinE a b)])∧Below w.heap.size w w' ∧
  (6 < (joinL a b).length→v'=.slice none 0 0)∧((joinL a b).length≤6→Own w.heap.size w' v' (joinL a b)):=by
 have he:(chkTwo a b != 0)=false:=by simpa using h0
 have hca:chk a=0:=by unfold chkTwo at h0;split at h0<;>assumption
 have hcb:chk b=0:=by unfold chkTwo at h0;rw [if_pos hca] at h0;exact h0
 have za:=chk_zero hca
 have zb:=chk_zero hcb
 have HE:Hid (joinE a b=if 6 < (joinL a b).length then 2 else 0):=if_pos h0
 have HC:Hid (Calls Tryz.prog 200 #[.slice (some ⟨pb,0,none⟩) 2 cap] w fun e w'=>e=.returned (.int .i64 (chkTwo a b))∧Below w.heap.size w w'):=checkAll_two a b va vb pb cap w ha hb hpb hc0 hc1
 have HJ:Hid (∀ w1,Below w.heap.size w w1→Calls Tryz.prog 201 #[.func (.func 187) #[] #[],.func (.func 202) #[] #[],.slice (some ⟨pb,0,none⟩) 2 cap] w1 fun e w'=>∃ v',e=.returned v'∧Own w1.heap.size w' v' (joinL a b)∧Below w1.heap.size w1 w'):=fun w1 hb1=>
  rjoin_two a b va vb pb cap w1 (ha.below hb1) (hb.below hb1) (Nat.lt_of_lt_of_le hpb hb1.size) ((bcell hb1).1 pb 0 hpb |>.trans hc0) ((bcell hb1).1 pb 1 hpb |>.trans hc1) za.1 zb.1 za.2.1
 have hl40:(joinL a b).length≤12:=by have h1:=joinL_len b a;have h2:=za.1;have h3:=zb.1;omega
 clear h0 hca hcb za zb ha hb hc0 hc1
 generalize joinL a b=jl at *
 generalize hgn:jl.length=n at *
 have HGN:Hid (jl.length=n):=hgn
 clear hgn
 go_enter Tryz.func138,Tryz.ntmps138
 go_wp2_with (go_at_call 200;refine HC.out.mono ?_;rintro e w1 ⟨rfl,hb1⟩)
 refine (HJ.out w1 hb1).mono ?_
 rintro e w2 ⟨v',rfl,ho,hb2⟩
 have hform:∃ p c,v'=.slice p n c:=by
  have hn:=HGN.out
  rcases ho.2 with ⟨h,h0⟩ | ⟨g,c,cur,h,_⟩
  ·exact ⟨none,0,by rw [h];congr 1;omega⟩
  ·exact ⟨_,c,by rw [h,hn]⟩
 obtain ⟨p,c,rfl⟩:=hform
 have HBx:Hid (Below w.heap.size w w2):=hb1.trans (hb2.mono hb1.size)
 have HO3:Hid (Own w.heap.size w2 (.slice p n c) jl):=ho.mono hb1.size
 clear ho hb1 hb2 HC HJ
 by_cases hlt:6 < n
 ·go_wp2_with fail
  go_ret2
  refine ⟨_,by rw [HE.out,if_pos hlt];rfl,HBx.out,fun _=>rfl,fun h=>by omega⟩
 ·go_wp2_with fail
  go_ret2
  refine ⟨.slice p n c,by rw [HE.out,if_neg hlt];rfl,HBx.out,fun h=>by omega,fun _=>HO3.out⟩
end Gw
namespace Gw
open Go.RowKit
theorem join_any (a b:List Gwy) (va vb:Value) (pb cap:Nat) (w:World) (ha:Sl w va a) (hb:Sl w vb b) (hpb:pb < w.heap.size) (hc0:w.cell? ⟨pb,0,none⟩=some va) (hc1:w.cell? ⟨pb,1,none⟩=some vb) :
 Calls Tryz.prog 138 #[.slice (some ⟨pb,0,none⟩) 2 cap] w fun e w'=>∃ v',e=.returned (.tuple #[v',.int .i64 (joinE a b)])∧Below w.heap.size w w' ∧
  (joinE a b≠0→v'=.slice none 0 0)∧(joinE a b=0→Own w.heap.size w' v' (joinL a b)):=by
 by_cases h0:chkTwo a b=0
 ·refine (join_good a b va vb pb cap w ha hb hpb hc0 hc1 h0).mono ?_
  rintro e w' ⟨v',rfl,h1,h2,h3⟩
  have hE:joinE a b=if 6 < (joinL a b).length then 2 else 0:=if_pos h0
  refine ⟨v',rfl,h1,fun hne=>h2 ?_,fun hz=>h3 ?_⟩
  ·rw [hE] at hne;split at hne
   ·assumption
   ·exact absurd rfl hne
  ·rw [hE] at hz;split at hz
   ·cases hz
   ·omega
 ·refine (join_bad a b va vb pb cap w ha hb hpb hc0 hc1 h0).mono ?_
  rintro e w' ⟨rfl,h1⟩
  have hE:joinE a b=chkTwo a b:=if_neg h0
  exact ⟨_,rfl,h1,fun _=>rfl,fun hz=>absurd (hE▸hz) h0⟩
set_option maxHeartbeats 800000 in
theorem join2_any (a b:List Gwy) (va vb:Value) (w:World) (ha:Sl w va a) (hb:Sl w vb b) :
 Calls Tryz.prog 91 #[va,vb] w fun e w'=>∃ v',e=.returned (.tuple #[v',.int .i64 (joinE a b)])∧Below w.heap.size w w' ∧
  (joinE a b≠0→v'=.slice none 0 0)∧(joinE a b=0→Own w.heap.size w' v' (joinL a b)):=by
 have HA:=ha
 have HB:=hb
 obtain ⟨pa,ca,rfl,_,_⟩:=ha
 obtain ⟨pv,cb,rfl,_,_⟩:=hb
 have hb0:Below w.heap.size w (w.alloc (.cells #[.slice pa a.length ca,.slice pv b.length cb] 48)):=(Below.refl _ _).alloc (Nat.le_refl _) _
 have HA':Hid (Sl (w.alloc (.cells #[.slice pa a.length ca,.slice pv b.length cb] 48)) (.slice pa a.length ca) a):=HA.below hb0
 have HB':Hid (Sl (w.alloc (.cells #[.slice pa a.length ca,.slice pv b.length cb] 48)) (.slice pv b.length cb) b):=HB.below hb0
 clear HA HB
 generalize a.length=na at *
 generalize b.length=nb at *
 go_enter Tryz.func91,Tryz.ntmps91
 go_wp2_with fail
 refine (join_any a b (.slice pa na ca) (.slice pv nb cb) w.heap.size 2 _ HA'.out HB'.out (by simp) (cellsAt (heap_alloc_new w _) 0) (cellsAt (heap_alloc_new w _) 1)).mono ?_
 rintro e w2 ⟨v',rfl,h1,h2,h3⟩
 have H2:Hid (joinE a b≠0→v'=.slice none 0 0):=h2
 have H3:Hid (joinE a b=0→Own (w.alloc (.cells #[.slice pa na ca,.slice pv nb cb] 48)).heap.size w2 v' (joinL a b)):=h3
 clear h2 h3
 go_wp2_with fail
 go_ret2
 exact ⟨v',rfl,hb0.trans (h1.mono (by simp)),H2.out,fun h=>(H3.out h).mono (by simp)⟩
def sameM (x y:Gwy):Bool:=x.centre.toList == y.centre.toList && (x.addr == y.addr && (x.version == y.version))
theorem sameM_iff (x y:Gwy):sameM x y=true↔x=y:=by
 obtain ⟨x_centre,x_addr,x_version⟩:=x
 obtain ⟨y_centre,y_addr,y_version⟩:=y
 simp only [sameM,Bool.and_eq_true,beq_iff_eq,Gwy.mk.injEq,Lib.toList_data]
 constructor
 ·rintro ⟨h0,h1,h2⟩;exact ⟨ba_ext h0,h1,h2⟩
 ·rintro ⟨h0,h1,h2⟩;exact ⟨by rw [h0],h1,h2⟩
theorem eqInE (m1 m2:Gwy) (w:World):(Op.equalIn 10000 107 (.agg #[.string m1.centre,.int .i64 m1.addr,.int .i64 m1.version]) (.agg #[.string m2.centre,.int .i64 m2.addr,.int .i64 m2.version])).run Tryz.prog w=.ok (sameM m1 m2) w:=by
 have u3:=Tryz.underlying3
 have u9:=Tryz.underlying9
 have a3:=Tryz.isAgg3
 have z3:=Tryz.sizeOf3
 have a9:=Tryz.isAgg9
 have z9:=Tryz.sizeOf9
 have hS:Tryz.prog.underlying 107=some (.struct (Tryz.prog.fieldsOf 107)):=by kernel_rfl
 have hp:Tryz.prog.stoodInHeld 107=false:=by kernel_rfl
 rw [show (10000:Nat)=9999+1 from rfl,run_equalIn_agg w 9999 107 _ _ hS hp]
 simp only [Program.fieldsOf,Tryz.underlying107]
 go_simp
 unfold sameM
 by_cases h0:m1.centre.toList=m2.centre.toList
 case neg=>simp [h0]
 by_cases h1:m1.addr=m2.addr
 case neg=>simp [h0,h1]
 by_cases h2:m1.version=m2.version
 case neg=>simp [h0,h1,h2]
 simp [h0,h1,h2]
theorem neqE (m1 m2:Gwy) (w:World):Sem.run Tryz.prog (binOp .neq 107 (.agg #[.string m1.centre,.int .i64 m1.addr,.int .i64 m1.version]) (.agg #[.string m2.centre,.int .i64 m2.addr,.int .i64 m2.version])) w=.ok (.bool (!sameM m1 m2)) w:=by
 rw [run_neq_struct,eqInE]
 rfl
set_option maxHeartbeats 800000 in
theorem same_any (a b:List Gwy) (va vb:Value) (w:World) (ha:Sl w va a) (hb:Sl w vb b) (hsm:a.length≤1000) :
 Calls Tryz.prog 30 #[va,vb] w fun e w'=>∃ r:Bool,e=.returned (.bool r)∧(r=true↔a=b)∧Below w.heap.size w w':=by
 obtain ⟨pa,ca,rfl,_,ha⟩:=ha
 obtain ⟨pv,cb,rfl,_,hb⟩:=hb
 by_cases hl:a.length=b.length
 ·have HA:Hid (a=[]∨∃ b off,pa=some ⟨b,off,none⟩∧b < w.heap.size∧Row w b off a):=ha
  have HB:Hid (b=[]∨∃ b_1 off,pv=some ⟨b_1,off,none⟩∧b_1 < w.heap.size∧Row w b_1 off b):=hb
  have HL:Hid (a.length=b.length):=hl
  clear ha hb
  rw [← hl]
  clear hl
  generalize hna:a.length=n at *
  have HN:Hid (a.length=n):=hna
  clear hna
  have hg28:Tryz.prog.eqGuardType Tryz.prog.depth 107=false:=by kernel_rfl
  go_enter Tryz.func30,Tryz.ntmps30
  go_wp2_with fail
  go_loopw [5] (fun i w'=>∃ k:Nat,k≤n∧i=.int .i64 k∧Below w.heap.size w w'∧Hid (∀ j,j < k→a.getD j dm=b.getD j dm)) (fun i _=>n - (intOf i).toNat)
  case atStart=>exact ⟨0,Nat.zero_le _,rfl,Below.refl _ _,fun j h=>absurd h (Nat.not_lt_zero _)⟩
  case round=>
   obtain ⟨k,hk,rfl,hbl,hz⟩:=hrel
   obtain ⟨hbc,hbf⟩:=bcell hbl
   have hsz:=hbl.size
   by_cases hlt:k < n
   ·obtain ⟨b1,o1,hp1,hl1,hr1⟩:∃ b off,pa=some ⟨b,off,none⟩∧b < w.heap.size∧Row w b off a:=by
     rcases HA.out with h | h
     ·have:=HN.out;rw [h] at this;simp at this;omega
     ·exact h
    obtain ⟨b2,o2,hp2,hl2,hr2⟩:∃ b_1 off,pv=some ⟨b_1,off,none⟩∧b_1 < w.heap.size∧Row w b_1 off b:=by
     rcases HB.out with h | h
     ·have h2:=HN.out;have h3:=HL.out;rw [h] at h3;simp at h3;omega
     ·exact h
    subst hp1
    subst hp2
    obtain ⟨c0,c1,c2⟩:=hr1 k (by rw [HN.out];exact hlt)
    obtain ⟨d0,d1,d2⟩:=hr2 k (by have h2:=HN.out;have h3:=HL.out;omega)
    clear hr1 hr2
    have HF:Hid (a.getD k dm≠b.getD k dm→a≠b):=fun h e=>h (by rw [e])
    have HZ:Hid (a.getD k dm=b.getD k dm→∀ j,j < k+1→a.getD j dm=b.getD j dm):=fun h j hj=>by
     rcases Nat.lt_succ_iff_lt_or_eq.1 hj with h2 | rfl
     ·exact hz.out j h2
     ·exact h
    have hneq:=neqE (a.getD k dm) (b.getD k dm)
    generalize a.getD k dm=m1 at *
    generalize b.getD k dm=m2 at *
    rcases hs:sameM m1 m2 with _ | _
    ·rw [hs] at hneq
     have hne:Hid (a≠b):=HF.out (fun e=>by rw [← sameM_iff,hs] at e;cases e)
     go_wp2_with fail
     go_quiet (fail)
     go_wp2_with fail
     go_ret
     exact ⟨false,rfl,⟨fun h=>(by cases h),fun h=>absurd h hne.out⟩,below_drewN hbl _⟩
    ·rw [hs] at hneq
     have heq:Hid (m1=m2):=(sameM_iff m1 m2).1 hs
     go_wp2_with fail
     go_quiet (fail)
     go_wp2_with fail
     go_roundw
     case rel=>exact ⟨k+1,by omega,by go_num,below_drewN hbl _,HZ.out heq.out⟩
     case measure=>simp [intOf];omega
   ·have hfin:Hid (a=b):=by
     apply List.ext_getElem (HN.out.trans HL.out)
     intro j h1 h2
     have:=hz.out j (by have:=HN.out;omega)
     simpa [List.getD,List.getElem?_eq_getElem h1,List.getElem?_eq_getElem h2] using this
    go_wp2_with fail
    go_ret
    exact ⟨true,rfl,⟨fun _=>hfin.out,fun _=>rfl⟩,hbl⟩
 ·have hne:((a.length:Int) != (b.length:Int))=true:=by rw [bne_iff_ne];omega
  have HF:Hid (a≠b):=fun e=>hl (by rw [e])
  clear ha hb
  go_enter Tryz.func30,Tryz.ntmps30
  go_wp2_with fail
  go_ret
  exact ⟨false,rfl,⟨fun h=>(by cases h),fun h=>absurd h HF.out⟩,Below.refl _ _⟩
section
open Go.ChangeShapes Go.WideShapes Go.ChangeAt
variable {H:Type} {enc:TypeId × Value→H} {w:World} {base:Nat} {spare:Nat→Bool} {held:Bool}
end
end Gw
namespace Gw
open Go.RowKit
end Gw
namespace Gw
open Go.RowKit
theorem e_zero {m:Gwy} (h:m.e=0):labB m.centre=true∧0≤m.addr∧m.addr≤4294967295∧1≤m.version∧m.version≤1000000:=by
 unfold Gwy.e at h
 split at h
 ·rename_i h1
  split at h
  ·rename_i h2
   split at h
   ·rename_i h3
    simp [within] at h2 h3
    exact ⟨h1,h2.1,h2.2,h3.1,h3.2⟩
   ·omega
  ·omega
 ·omega
end Gw
namespace Gw
open Go.RowKit
end Gw
namespace Gw
open Go.RowKit
end Gw
end Go.Proofs.YtffdoiokmiklgaaGreatDoor
