import Derived.Test.YtignmeaeibaejaaGreatDoorV11
import Derived.Test.YtignmeaeibaejaaGreatDoorV20
import Derived.Deep.RegionLawGrows
namespace Go.Proofs.YtignmeaeibaejaaGreatDoor
open Go.RowKit Go.WideMaps Go.Maps
def dN (p:Pl) (ms:List Wh.Whe) (s:ByteArray):Int:=(dstO (farW p) ms s).getD (-1)
theorem dN_dV (p:Pl) (ms:List Wh.Whe) (s:ByteArray) (hp:OkP p) (hok:∀ j,j < ms.length→OkP (toPl (plc (ms.getD j Wh.dm)))) :
 (dN p ms s = -1∧dV (Dd (farW p) ms ms.length) s=9223372036854775807)∨(0≤dN p ms s∧dN p ms s≤1000000000∧dV (Dd (farW p) ms ms.length) s=dN p ms s):=by
 rw [dV_is]
 unfold dN
 cases h:dstO (farW p) ms s with
 | none=>exact .inl ⟨rfl,rfl⟩
 | some d=>
   obtain ⟨m,hm,_,hd⟩:=dstO_mem h
   obtain ⟨j,hj,rfl⟩:=List.getElem_of_mem hm
   have hk:=hok j hj
   rw [show ms.getD j Wh.dm=ms[j] by simp [List.getD,List.getElem?_eq_getElem hj]] at hk
   have hb:=farW_bd hp hk
   rw [hd] at hb
   exact .inr ⟨hb.1,hb.2,rfl⟩
def aheadB (x y:Int) (a b:ByteArray):Bool:=(decide (x < 0) && decide (0≤y)) || ((decide (x < 0) == decide (y < 0)) && (decide (y < x) || (decide (y=x) && !Op.bytesLess b.toList a.toList)))
set_option maxHeartbeats 3200000 in
set_option maxRecDepth 100000 in
theorem farName_any (p:Pl) (ms:List Wh.Whe) (v:Value) (s:ByteArray) (w:World) (hv:Wh.Sl w v ms) (hn:ms.length≤100) (hp:OkP p) (hok:∀ j,j < ms.length→OkP (toPl (plc (ms.getD j Wh.dm)))) :
 Calls Tryz.prog 79 #[.agg #[.int .i64 p.x,.int .i64 p.y,.int .i64 p.z,.int .i64 p.h,.int .i64 p.s],v,.string s] w fun e w'=>e=.returned (.int .i64 (dN p ms s))∧Below w.heap.size w w':=by
 obtain ⟨pa,ca,rfl,_,ha⟩:=hv
 have HA:Hid (ms=[]∨∃ b off,pa=some ⟨b,off,none⟩∧b < w.heap.size∧Wh.Row w b off ms):=ha
 have HOK:Hid (∀ j,j < ms.length→OkP (toPl (plc (ms.getD j Wh.dm)))):=hok
 have HPO:Hid (OkP p):=hp
 have HNO:Hid ((∀ j,j < ms.length→(ms.getD j Wh.dm).node≠s)→dN p ms s = -1):=fun h=>by
  unfold dN dstO
  have:ms.find? (fun m=>decide (m.node=s))=none:=by
   rw [List.find?_eq_none]
   intro x hx
   obtain ⟨j,hj,rfl⟩:=List.getElem_of_mem hx
   have:=h j hj
   rw [show ms.getD j Wh.dm=ms[j] by simp [List.getD,List.getElem?_eq_getElem hj]] at this
   simpa using this
  rw [this];rfl
 have HYE:Hid (∀ k,k < ms.length→(∀ j,j < k→(ms.getD j Wh.dm).node≠s)→(ms.getD k Wh.dm).node=s→dN p ms s=farW p (ms.getD k Wh.dm)):=fun k hk h1 h2=>by
  unfold dN dstO
  have:ms.find? (fun m=>decide (m.node=s))=some (ms.getD k Wh.dm):=by
   rw [show ms.getD k Wh.dm=ms[k] by simp [List.getD,List.getElem?_eq_getElem hk]] at h2 ⊢
   rw [List.find?_eq_some_iff_getElem]
   refine ⟨by simpa using h2,k,hk,rfl,fun j hj=>?_⟩
   have:=h1 j hj
   rw [show ms.getD j Wh.dm=ms[j]'(by omega) by simp [List.getD,List.getElem?_eq_getElem (show j < ms.length by omega)]] at this
   simpa using this
  rw [this];rfl
 clear ha hok hp
 generalize dN p ms s=res at *
 generalize hN:ms.length=n at *
 have HN:Hid (ms.length=n):=hN
 clear hN
 go_enter Tryz.func79,Tryz.ntmps79
 go_wp2_with fail
 obtain ⟨W,hW⟩:∃ W,W=w.alloc (.cells #[.int .i64 p.x,.int .i64 p.y,.int .i64 p.z,.int .i64 p.h,.int .i64 p.s] 25):=⟨_,rfl⟩
 rw [← hW]
 have hbW:Below w.heap.size w W:=by rw [hW];exact (Below.refl _ _).alloc (Nat.le_refl _) _
 have hga:W.heap[w.heap.size]?=some (.cells #[.int .i64 p.x,.int .i64 p.y,.int .i64 p.z,.int .i64 p.h,.int .i64 p.s] 25 (0,0)):=by rw [hW];exact heap_alloc_new w _
 have n0:W.cell? ⟨w.heap.size,0,none⟩=some (.int .i64 p.x):=cellsAt hga 0
 have n1:W.cell? ⟨w.heap.size,1,none⟩=some (.int .i64 p.y):=cellsAt hga 1
 have n2:W.cell? ⟨w.heap.size,2,none⟩=some (.int .i64 p.z):=cellsAt hga 2
 have n3:W.cell? ⟨w.heap.size,3,none⟩=some (.int .i64 p.h):=cellsAt hga 3
 have n4:W.cell? ⟨w.heap.size,4,none⟩=some (.int .i64 p.s):=cellsAt hga 4
 have HBW:Hid (Below w.heap.size w W):=hbW
 clear hga hW
 go_loopw [7] (fun i wr=>∃ k:Nat,k≤n∧i=.int .i64 k∧wr=W∧Hid (∀ j,j < k→(ms.getD j Wh.dm).node≠s)) (fun i _=>n - (intOf i).toNat)
 case atStart=>exact ⟨0,Nat.zero_le _,rfl,rfl,fun j h=>absurd h (Nat.not_lt_zero _)⟩
 case round=>
  obtain ⟨k,hk,rfl,hwr,HZ⟩:=hrel
  subst hwr
  by_cases hlt:k < n
  ·obtain ⟨b,off,hp1,hl1,hr⟩:∃ b off,pa=some ⟨b,off,none⟩∧b < w.heap.size∧Wh.Row w b off ms:=by
    rcases HA.out with h | h
    ·have:=HN.out;rw [h] at this;simp at this;omega
    ·exact h
   subst hp1
   obtain ⟨c0,c1,c2,c3,c4,c5⟩:=hr.later HBW.out hl1 k (by rw [HN.out];exact hlt)
   have HOM:Hid (OkP (toPl (plc (ms.getD k Wh.dm)))):=HOK.out k hlt
   have HZ2:Hid ((ms.getD k Wh.dm).node≠s→∀ j,j < k+1→(ms.getD j Wh.dm).node≠s):=fun h j hj=>by
    rcases Nat.lt_succ_iff_lt_or_eq.1 hj with h2 | rfl
    ·exact HZ.out j h2
    ·exact h
   have HY2:Hid ((ms.getD k Wh.dm).node=s→res=farW p (ms.getD k Wh.dm)):=fun h=>HYE.out k hlt HZ.out h
   clear hr
   generalize ms.getD k Wh.dm=m at *
   by_cases hse:m.node=s
   ·have HR:Hid (res=farW p m):=HY2.out hse
    have HFO:Hid (∀ W,Calls Tryz.prog 105 #[.agg #[.int .i64 p.x,.int .i64 p.y,.int .i64 p.z,.int .i64 p.h,.int .i64 p.s],.agg #[.int .i64 m.x,.int .i64 m.y,.int .i64 m.z,.int .i64 m.h,.int .i64 m.s]] W fun e w'=>e=.returned (.int .i64 (farW p m))∧Below W.heap.size W w'):=fun W=>farOf_any p (toPl (plc m)) W HPO.out HOM.out
    rw [hse] at c0
    clear HY2 HZ2 hse
    generalize farW p m=fd at *
    obtain ⟨nd,x,y,z,h,s2⟩:=m
    simp only at *
    have hlb:b < wr.heap.size:=Nat.lt_of_lt_of_le hl1 HBW.out.size
    have hlw:w.heap.size < wr.heap.size:=World.block_lt_of_cell? wr ⟨w.heap.size,0,none⟩ n0
    have hk0:(0:Int)≤(k:Int):=Int.natCast_nonneg _
    have hk1:(k:Int) < (n:Int):=by omega
    go_wp2_with fail
    go_region_held3 (fun w'=>w'.cell? ⟨w.heap.size,0,none⟩=some (.int .i64 p.x)∧w'.cell? ⟨w.heap.size,1,none⟩=some (.int .i64 p.y)∧w'.cell? ⟨w.heap.size,2,none⟩=some (.int .i64 p.z)∧w'.cell? ⟨w.heap.size,3,none⟩=some (.int .i64 p.h)∧w'.cell? ⟨w.heap.size,4,none⟩=some (.int .i64 p.s)∧w'.cell? ⟨b,off+k * 6+1,none⟩=some (.int .i64 x)∧w'.cell? ⟨b,off+k * 6+2,none⟩=some (.int .i64 y)∧w'.cell? ⟨b,off+k * 6+3,none⟩=some (.int .i64 z)∧w'.cell? ⟨b,off+k * 6+4,none⟩=some (.int .i64 h)∧w'.cell? ⟨b,off+k * 6+5,none⟩=some (.int .i64 s2))
     (first
       | go_keep
       | (go_split_ands
          refine ⟨?_,?_,?_,?_,?_,?_,?_,?_,?_,?_⟩
          all_goals ((rw [hb8.cell (by first | exact hlw | exact hlb | (show w.heap.size < _;simp;omega) | (show b < _;simp;omega))];first | assumption | simp [*]))))
     (first
       | (go_at_call 105;refine (HFO.out _).mono ?_;rintro e w8 ⟨rfl,hb8⟩))
    have HB8:Hid (Below w.heap.size w w8):=HBW.out.drew.trans (hb8.mono (by simp;omega))
    clear hb8
    go_wp2_with fail
    go_ret
    exact ⟨ret_int HR.out.symm,HB8.out⟩
   ·have HZ3:Hid (∀ j,j < k+1→(ms.getD j Wh.dm).node≠s):=HZ2.out hse
    obtain ⟨g1,g2⟩:=beq_name hse
    clear HY2 HZ2 hse
    generalize m.node=nd at *
    go_wp2_with fail
    exact ⟨⟨k+1,by omega,by go_num,by first | rfl | trivial,HZ3⟩,by simp [intOf];omega⟩
  ·have HR:Hid (res = -1):=HNO.out fun j hj=>HZ.out j (by omega)
   go_wp2_with fail
   go_ret
   exact ⟨ret_int HR.out.symm,HBW.out⟩
theorem ahead_is {D:ByteArray→Int} {x y:Int} {a b:ByteArray} (hx:(x = -1∧D b=9223372036854775807)∨(0≤x∧x≤1000000000∧D b=x)) (hy:(y = -1∧D a=9223372036854775807)∨(0≤y∧y≤1000000000∧D a=y)) :
 aheadB x y a b = !ltN D b a:=by
 rw [Bool.eq_iff_iff]
 have hl:(!ltN D b a)=true↔¬ (D b < D a∨(D b=D a∧cmpI b a < 0)):=by
  rw [Bool.not_eq_true',ltN_false]
 rw [hl]
 have hc:(!Op.bytesLess b.toList a.toList)=true↔¬ cmpI b a < 0:=by
  rw [Bool.not_eq_true',cmpI_lt,Bool.not_eq_true];rfl
 unfold aheadB
 simp only [Bool.or_eq_true,Bool.and_eq_true,decide_eq_true_eq,beq_iff_eq,hc]
 have hd:(decide (x < 0)=decide (y < 0))↔(x < 0↔y < 0):=by rw [decide_eq_decide]
 rw [hd]
 omega
theorem own_tsl {base:Nat} {w:World} {v:Value} {l:List ByteArray} (h:OwnS base w v l) (hs:∀ s∈l,s.size≤maxLen):TSl w v l:=by
 have hz:∀ j,(l.getD j ByteArray.empty).size≤maxLen:=fun j=>by
  by_cases hj:j < l.length
  ·rw [show l.getD j ByteArray.empty=l[j] by simp [List.getD,List.getElem?_eq_getElem hj]];exact hs _ (List.getElem_mem hj)
  ·rw [show l.getD j ByteArray.empty=ByteArray.empty by simp [List.getD,List.getElem?_eq_none (by omega:l.length≤j)]];decide
 rcases h.2 with ⟨hv,h0⟩ | ⟨g,c,cur,hv,_,hg,_⟩
 ·exact ⟨none,0,by rw [hv,h0],hz,.inl (List.length_eq_zero_iff.1 h0)⟩
 ·refine ⟨some ⟨g,0,none⟩,c,hv,hz,.inr ⟨g,0,rfl,(Array.getElem?_eq_some_iff.1 hg).1,fun j hj=>?_⟩⟩
  subst hv
  rw [Nat.zero_add,World.ownsRow.cellAt h j (by omega)]
  simp [List.getD,List.getElem?_eq_getElem hj]
theorem ownS_mono {base base':Nat} {w:World} {v:Value} {n:Nat} {xs:List Value} (h:w.ownsRow base 9 1 v n xs) (hb:base'≤base):w.ownsRow base' 9 1 v n xs:=by
 obtain ⟨h1,h2⟩:=h
 refine ⟨h1,?_⟩
 rcases h2 with h2 | ⟨g,c,cur,hv,hbg,hr⟩
 ·exact .inl h2
 ·exact .inr ⟨g,c,cur,hv,by omega,hr⟩
theorem own_cap {base:Nat} {w:World} {v:Value} {l:List ByteArray} (h:OwnS base w v l) {a:Option Addr} {k c:Nat} (hv:v=.slice a k c):k≤c∧(∀ ad,a=some ad→∃ g,ad=⟨g,0,none⟩∧base≤g)∧(a=none→k=0∧c=0):=by
 rcases h.2 with ⟨hv2,h0⟩ | ⟨g,c',cur,hv2,hb,hg,hnc,_⟩
 ·rw [hv] at hv2
  simp only [Value.slice.injEq] at hv2
  obtain ⟨rfl,rfl,rfl⟩:=hv2
  exact ⟨Nat.le_refl _,fun ad e=>by (cases e),fun _=>⟨rfl,rfl⟩⟩
 ·rw [hv] at hv2
  simp only [Value.slice.injEq] at hv2
  obtain ⟨rfl,rfl,rfl⟩:=hv2
  exact ⟨hnc,fun ad e=>by (cases e;exact ⟨g,rfl,hb⟩),fun e=>by cases e⟩
theorem ins_cells {lt:ByteArray→ByteArray→Bool} {x:ByteArray} {L:List ByteArray} {a:Nat} (h:So.pos lt x L=a):(L.take a).map Value.string++([.string x]++(L.drop a).map Value.string)=(So.ins lt x L).map Value.string:=by
 unfold So.ins
 rw [h]
 simp
theorem ins_len {lt:ByteArray→ByteArray→Bool} {x:ByteArray} {L:List ByteArray}:(So.ins lt x L).length=L.length+1:=by
 have:=(So.ins_perm lt x L).length_eq
 simpa using this
theorem own_one {X:World} {s:ByteArray} {b base:Nat} (hX:X.heap[b]?=some (.cells #[.string s] 9 (0,0))) (hb:base≤b):X.ownsRow base 9 1 (.slice (some ⟨b,0,none⟩) 1 1) 1 [.string s]:=
 ⟨rfl,.inr ⟨b,1,_,rfl,hb,hX,Nat.le_refl _,by decide,rfl,rfl⟩⟩
theorem leq_is (a b:ByteArray):(Op.bytesLess a.toList b.toList || a.toList == b.toList) = !Op.bytesLess b.toList a.toList:=by
 rcases Int.lt_trichotomy (cmpI a b) 0 with h | h | h
 ·have h1:Op.bytesLess a.toList b.toList=true:=(cmpI_lt a b).1 h
  have h2:Op.bytesLess b.toList a.toList=false:=less_asymm h1
  rw [h1,h2];rfl
 ·have h1:=(cmpI_eq a b).1 h
  subst h1
  rw [bl_irrefl];simp
 ·have h1:Op.bytesLess b.toList a.toList=true:=(cmpI_gt a b).1 h
  have h2:Op.bytesLess a.toList b.toList=false:=less_asymm h1
  have h3:(a.toList == b.toList)=false:=(beq_name (fun e=>by have:=(cmpI_eq a b).2 e;omega)).1
  rw [h1,h2,h3];rfl
theorem step_append_nothing {P:Program} {ops:Array Oper} {o:Oper} {a:Act} {w:World} {K:Act→World→Prop} {Q:Exit→Act→World→Prop} {E:Prop}
 (hg:o.guard=none) (s x:Operand) (t:TypeId) (hop:o.op=Op.call { callee:=Callee.builtin Builtin.append,args:=#[s,x],argTypes:=#[t,t] })
 (e:TypeId) (i:TypeInfo) (h1:P.underlying t=some (.slice e)) (h2:P.info? e=some i) (ao:Option Addr) (n cap:Nat) (hle:n≤cap) (hs:a.eval s=.slice ao n cap)
 (ax:Option Addr) (c:Nat) (hx:a.eval x=.slice ax 0 c) (hK:K (a.put o.dst (.slice ao n cap)) w) :
 if Region.wanted o (yielded ops a.tmps)=true then Oper.wp P o a w K Q else E:=by
 have hw:Region.wanted o (yielded ops a.tmps)=true:=by simp [Region.wanted,hg]
 rw [if_pos hw]
 have hrun:(Builtin.append_ #[t,t] o.type #[.slice ao n cap,.slice ax 0 c]).run P w=.ok (.slice ao n cap) w:=by
  cases ax with
  | none=>cases ao<;>simp [Builtin.append_,run_underlying h1,Go.sizeOf,typeInfo,h2,Builtin.lenOf,Builtin.firstCells,hle,storeCells]
  | some ad=>
    have hf:=run_firstCells_some (P:=P) w i.size 0 ad 0 c [] (by simp) (by simp)
    cases ao<;>simp [Builtin.append_,run_underlying h1,Go.sizeOf,typeInfo,h2,Builtin.lenOf,hf,hle,storeCells]
 unfold Oper.wp
 simp [execOp,hop,resolve,invoke,builtin,hs,hx,hrun,Result.andThen]
 exact hK
set_option maxHeartbeats 6400000 in
set_option maxRecDepth 100000 in
theorem sortOf_any (p:Pl) (ms:List Wh.Whe) (v vn:Value) (ns:List ByteArray) (w:World) (hv:Wh.Sl w v ms) (ht:TSl w vn ns) (hn:ms.length≤100) (hm:ns.length≤100) (hp:OkP p) (hok:∀ j,j < ms.length→OkP (toPl (plc (ms.getD j Wh.dm)))) :
 Calls Tryz.prog 46 #[.agg #[.int .i64 p.x,.int .i64 p.y,.int .i64 p.z,.int .i64 p.h,.int .i64 p.s],v,vn] w fun e w'=>∃ v',e=.returned v'∧TSl w' v' (srt p ms ns)∧Below w.heap.size w w':=by
 obtain ⟨i0,hi0,hz0,hzs,hzb⟩:=info_parts Tryz.info9
 have HV:Hid (Wh.Sl w v ms):=hv
 have HTN:Hid (TSl w vn ns):=ht
 have HFN:Hid (∀ s W,Wh.Sl W v ms→Calls Tryz.prog 79 #[.agg #[.int .i64 p.x,.int .i64 p.y,.int .i64 p.z,.int .i64 p.h,.int .i64 p.s],v,.string s] W fun e w'=>e=.returned (.int .i64 (dN p ms s))∧Below W.heap.size W w'):=fun s W h=>farName_any p ms v s W h hn hp hok
 have HDD:Hid (∀ s,(dN p ms s = -1∧dV (Dd (farW p) ms ms.length) s=9223372036854775807)∨(0≤dN p ms s∧dN p ms s≤1000000000∧dV (Dd (farW p) ms ms.length) s=dN p ms s)):=fun s=>dN_dV p ms s hp hok
 have HLT:Hid (srt p ms ns=So.insAll (ltN (dV (Dd (farW p) ms ms.length))) (ns.take ns.length)):=by
  show srt p ms ns=_
  rw [List.take_length];rfl
 have HSW:Hid (Go.Sort.SWO (ltN (dV (Dd (farW p) ms ms.length)))):=swoN _
 have HAH:Hid (∀ a b,aheadB (dN p ms b) (dN p ms a) a b = !ltN (dV (Dd (farW p) ms ms.length)) b a):=fun a b=>ahead_is (HDD.out b) (HDD.out a)
 have HXB:Hid (∀ s,dN p ms s = -1∨(0≤dN p ms s∧dN p ms s≤1000000000)):=fun s=>by
  rcases HDD.out s with h | h
  ·exact .inl h.1
  ·exact .inr ⟨h.1,h.2.1⟩
 clear HDD
 generalize ltN (dV (Dd (farW p) ms ms.length))=lt at *
 obtain ⟨pa,ca,hvv,_,_⟩:=hv
 obtain ⟨pn,cn,hvn,hszn,hrn⟩:=ht
 have HRN:Hid (ns=[]∨∃ b off,pn=some ⟨b,off,none⟩∧b < w.heap.size∧TRow w b off ns):=hrn
 subst hvv hvn
 have HSZN:Hid (∀ s∈ns,s.size≤maxLen):=fun s hs=>by
  obtain ⟨j,hj,rfl⟩:=List.getElem_of_mem hs
  have:=hszn j
  rwa [show ns.getD j ByteArray.empty=ns[j] by simp [List.getD,List.getElem?_eq_getElem hj]] at this
 clear hok hp hszn hrn
 generalize hna:ms.length=n at *
 clear hna
 generalize hnb:ns.length=nl at *
 have HNL:Hid (ns.length=nl):=hnb
 clear hnb
 go_enter Tryz.func46,Tryz.ntmps46
 go_wp2_with fail
 have hga:(w.alloc (.cells #[.int .i64 p.x,.int .i64 p.y,.int .i64 p.z,.int .i64 p.h,.int .i64 p.s] 25)).heap[w.heap.size]?=some (.cells #[.int .i64 p.x,.int .i64 p.y,.int .i64 p.z,.int .i64 p.h,.int .i64 p.s] 25 (0,0)):=heap_alloc_new w _
 go_loopw [7,8] (fun o i wr=>∃ k:Nat,k≤nl∧i=.int .i64 k∧Hid (Below w.heap.size w wr)∧Hid (wr.heap[w.heap.size]?=some (.cells #[.int .i64 p.x,.int .i64 p.y,.int .i64 p.z,.int .i64 p.h,.int .i64 p.s] 25 (0,0)))∧Hid (TSl wr o (So.insAll lt (ns.take k)))∧Hid (OwnS w.heap.size wr o (So.insAll lt (ns.take k)))) (fun _ i _=>nl - (intOf i).toNat)
 case atStart=>exact ⟨0,Nat.zero_le _,rfl,(Below.refl _ _).alloc (Nat.le_refl _) _,hga,⟨none,0,rfl,fun j=>by simp [So.insAll],.inl rfl⟩,ownS_nil _ _⟩
 case round=>
  obtain ⟨k,hk,rfl,HB,HG,HT,HOW⟩:=hrel
  clear hga
  by_cases hlt:k < nl
  ·obtain ⟨b,off,hp1,hl1,hr⟩:∃ b off,pn=some ⟨b,off,none⟩∧b < w.heap.size∧TRow w b off ns:=by
    rcases HRN.out with h | h
    ·have:=HNL.out;rw [h] at this;simp at this;omega
    ·exact h
   subst hp1
   have hsz:=HB.out.size
   have HC:Hid (∀ W,Below wr.heap.size wr W→W.cell? ⟨b,off+k,none⟩=some (.string (ns.getD k ByteArray.empty))∧W.heap[w.heap.size]?=some (.cells #[.int .i64 p.x,.int .i64 p.y,.int .i64 p.z,.int .i64 p.h,.int .i64 p.s] 25 (0,0))):=fun W hW=>by
    have hlw:w.heap.size < wr.heap.size:=(Array.getElem?_eq_some_iff.1 HG.out).1
    exact ⟨(hW.cell (p:=⟨b,off+k,none⟩) (by show b < _;omega)).trans ((HB.out.cell (p:=⟨b,off+k,none⟩) hl1).trans (hr k (by rw [HNL.out];exact hlt))),(hW.block _ hlw).trans HG.out⟩
   have hlw:w.heap.size < wr.heap.size:=(Array.getElem?_eq_some_iff.1 HG.out).1
   have HINS:Hid (So.insAll lt (ns.take (k+1))=So.ins lt (ns.getD k ByteArray.empty) (So.insAll lt (ns.take k))):=So.insAll_snoc lt ns k ByteArray.empty (by rw [HNL.out];exact hlt)
   have HMEM:Hid (∀ s∈So.insAll lt (ns.take (k+1)),s.size≤maxLen):=fun s hs=>HSZN.out s (List.mem_of_mem_take ((So.insAll_ok HSW.out ns (k+1)).2.mem_iff.1 hs))
   have HLEN:Hid ((So.insAll lt (ns.take k)).length=k):=So.insAll_len lt ns HSW.out k (by rw [HNL.out];omega)
   obtain ⟨c0,hg0⟩:=HC.out wr (Below.refl _ _)
   have f0:wr.cell? ⟨w.heap.size,0,none⟩=some (.int .i64 p.x):=cellsAt hg0 0
   have f1:wr.cell? ⟨w.heap.size,1,none⟩=some (.int .i64 p.y):=cellsAt hg0 1
   have f2:wr.cell? ⟨w.heap.size,2,none⟩=some (.int .i64 p.z):=cellsAt hg0 2
   have f3:wr.cell? ⟨w.heap.size,3,none⟩=some (.int .i64 p.h):=cellsAt hg0 3
   have f4:wr.cell? ⟨w.heap.size,4,none⟩=some (.int .i64 p.s):=cellsAt hg0 4
   clear hr hg0
   generalize ns.getD k ByteArray.empty=nk at *
   generalize hL2:So.insAll lt (ns.take (k+1))=L2 at *
   have HL2:Hid (So.insAll lt (ns.take (k+1))=L2):=hL2
   clear hL2
   generalize So.insAll lt (ns.take k)=L at *
   have hN:∀ d os,Calls Tryz.prog 79 #[.agg #[.int .i64 p.x,.int .i64 p.y,.int .i64 p.z,.int .i64 p.h,.int .i64 p.s],.slice pa n ca,.string nk] (Go.Sort.grow (redrawn wr d) os) fun e w''=>e=.returned (.int .i64 (dN p ms nk))∧∃ p:Regrown,w''=Go.Sort.grow (redrawn wr p.d) p.os:=fun d os=>Calls.regrown_of (HFN.out nk _ ((HV.out.below HB.out).below (below_regrown wr d os)))
   have F0:∀ d os,(Go.Sort.grow (redrawn wr d) os).cell? ⟨w.heap.size,0,none⟩=some (.int .i64 p.x):=cell_regrown f0
   have F1:∀ d os,(Go.Sort.grow (redrawn wr d) os).cell? ⟨w.heap.size,1,none⟩=some (.int .i64 p.y):=cell_regrown f1
   have F2:∀ d os,(Go.Sort.grow (redrawn wr d) os).cell? ⟨w.heap.size,2,none⟩=some (.int .i64 p.z):=cell_regrown f2
   have F3:∀ d os,(Go.Sort.grow (redrawn wr d) os).cell? ⟨w.heap.size,3,none⟩=some (.int .i64 p.h):=cell_regrown f3
   have F4:∀ d os,(Go.Sort.grow (redrawn wr d) os).cell? ⟨w.heap.size,4,none⟩=some (.int .i64 p.s):=cell_regrown f4
   have G0:∀ d os,(Go.Sort.grow (redrawn wr d) os).cell? ⟨b,off+k,none⟩=some (.string nk):=cell_regrown c0
   have hi1:(k:Int) < (nl:Int):=by omega
   have hi2:(0:Int)≤(k:Int):=by omega
   have hi3:((k:Int)).toNat=k:=by omega
   have hwk:IntKind.i64.wrap (k:Int)=(k:Int):=by rw [IntKind.wrap_i64];omega
   go_wp2_with fail
   refine wp_region_quiet_below (by kernel_rfl) (by kernel_rfl) ?_
   repeat (quiet_step (exact hN _ _))
   refine wpQuiet_nil ?_
   intro _ hw'
   obtain ⟨⟨dq,osq⟩,hw''⟩:=hw'
   subst hw''
   have HB5:Hid (Below wr.heap.size wr (Go.Sort.grow (redrawn wr dq) osq)):=below_regrown wr dq osq
   clear hN F0 F1 F2 F3 F4 G0 f0 f1 f2 f3 f4 c0
   generalize Go.Sort.grow (redrawn wr dq) osq=w5 at *
   obtain ⟨ao,co,ho,hoz,hor⟩:=HT.out
   have HOR:Hid (L=[]∨∃ b off,ao=some ⟨b,off,none⟩∧b < wr.heap.size∧TRow wr b off L):=hor
   rw [HLEN.out] at ho
   obtain ⟨hkc,hao,hno⟩:=own_cap HOW.out ho
   subst ho
   clear hor
   generalize hdk:dN p ms nk=dk at *
   have HDK:Hid (dN p ms nk=dk):=hdk
   clear hdk
   obtain ⟨wo,hwo⟩:∃ wo,wo=wr:=⟨_,rfl⟩
   subst hwo
   go_wp2_with fail
   go_loopw [10] (fun av wx=>∃ a:Nat,a≤k∧av=.int .i64 a∧Hid (Below wo.heap.size wo wx)∧Hid (∀ j,j < a→lt nk (L.getD j ByteArray.empty)=false)) (fun av _=>k - (intOf av).toNat)
   case atStart=>exact ⟨0,Nat.zero_le _,rfl,HB5,fun j h=>absurd h (Nat.not_lt_zero _)⟩
   case round=>
    obtain ⟨a,hak,rfl,HX,HZ⟩:=hrel
    by_cases hal:a < k
    ·obtain ⟨bo,oo,hpo,hlo,hro⟩:∃ b off,ao=some ⟨b,off,none⟩∧b < wo.heap.size∧TRow wo b off L:=by
      rcases HOR.out with h | h
      ·have:=HLEN.out;rw [h] at this;simp at this;omega
      ·exact h
     subst hpo
     have hsx:=HX.out.size
     have HC2:Hid (∀ W,Below wo.heap.size wo W→W.cell? ⟨bo,oo+a,none⟩=some (.string (L.getD a ByteArray.empty))):=fun W hW=>(hW.cell (p:=⟨bo,oo+a,none⟩) hlo).trans (hro a (by rw [HLEN.out];exact hal))
     have HZ2:Hid (lt nk (L.getD a ByteArray.empty)=false→∀ j,j < a+1→lt nk (L.getD j ByteArray.empty)=false):=fun h j hj=>by
      rcases Nat.lt_succ_iff_lt_or_eq.1 hj with h2 | rfl
      ·exact HZ.out j h2
      ·exact h
     have HPOS:Hid (lt nk (L.getD a ByteArray.empty)=true→So.pos lt nk L=a):=fun h=>So.pos_is (d:=ByteArray.empty) (by rw [HLEN.out];omega) HZ.out (fun _=>h)
     have HAA:=HAH.out (L.getD a ByteArray.empty) nk
     rw [HDK.out] at HAA
     have hxb:=HXB.out nk
     rw [HDK.out] at hxb
     have hyb:=HXB.out (L.getD a ByteArray.empty)
     clear hro
     generalize hla:L.getD a ByteArray.empty=la at *
     clear hla
     obtain ⟨c0,hg0⟩:=HC.out wr HX.out
     have c1:=HC2.out wr HX.out
     have hN:∀ d os,Calls Tryz.prog 79 #[.agg #[.int .i64 p.x,.int .i64 p.y,.int .i64 p.z,.int .i64 p.h,.int .i64 p.s],.slice pa n ca,.string la] (Go.Sort.grow (redrawn wr d) os) fun e w''=>e=.returned (.int .i64 (dN p ms la))∧∃ p:Regrown,w''=Go.Sort.grow (redrawn wr p.d) p.os:=fun d os=>Calls.regrown_of (HFN.out la _ (((HV.out.below HB.out).below HX.out).below (below_regrown wr d os)))
     have F0:∀ d os,(Go.Sort.grow (redrawn wr d) os).cell? ⟨w.heap.size,0,none⟩=some (.int .i64 p.x):=cell_regrown (cellsAt hg0 0)
     have F1:∀ d os,(Go.Sort.grow (redrawn wr d) os).cell? ⟨w.heap.size,1,none⟩=some (.int .i64 p.y):=cell_regrown (cellsAt hg0 1)
     have F2:∀ d os,(Go.Sort.grow (redrawn wr d) os).cell? ⟨w.heap.size,2,none⟩=some (.int .i64 p.z):=cell_regrown (cellsAt hg0 2)
     have F3:∀ d os,(Go.Sort.grow (redrawn wr d) os).cell? ⟨w.heap.size,3,none⟩=some (.int .i64 p.h):=cell_regrown (cellsAt hg0 3)
     have F4:∀ d os,(Go.Sort.grow (redrawn wr d) os).cell? ⟨w.heap.size,4,none⟩=some (.int .i64 p.s):=cell_regrown (cellsAt hg0 4)
     have G0:∀ d os,(Go.Sort.grow (redrawn wr d) os).cell? ⟨bo,oo+a,none⟩=some (.string la):=cell_regrown c1
     have ha1:(a:Int) < (k:Int):=by omega
     have ha2:(0:Int)≤(a:Int):=by omega
     have ha3:((a:Int)).toNat=a:=by omega
     have hwa:IntKind.i64.wrap (a:Int)=(a:Int):=by rw [IntKind.wrap_i64];omega
     clear c0 c1 hg0
     go_wp2_with fail
     refine wp_region_quiet_below (by kernel_rfl) (by kernel_rfl) ?_
     repeat (quiet_step (exact hN _ _))
     refine wpQuiet_nil ?_
     intro _ hw'
     obtain ⟨⟨dq2,osq2⟩,hw''⟩:=hw'
     subst hw''
     have HX6:Hid (Below wo.heap.size wo (Go.Sort.grow (redrawn wr dq2) osq2)):=HX.out.trans ((below_regrown wr dq2 osq2).mono HX.out.size)
     clear hN F0 F1 F2 F3 F4 G0
     generalize Go.Sort.grow (redrawn wr dq2) osq2=w6 at *
     obtain ⟨c0,_⟩:=HC.out w6 HX6.out
     have c1:=HC2.out w6 HX6.out
     generalize dN p ms la=dy at *
     have HXD:Hid (∀ m,Below wo.heap.size wo (w6.drewN m)):=fun m=>HX6.out.trans ((show Below w6.heap.size w6 (w6.drewN m) from ⟨rfl,rfl,rfl,Nat.le_refl _,fun _ _=>rfl⟩).mono HX6.out.size)
     have hcase:(aheadB dk dy la nk=true∧((decide (dk < 0)=true∧decide (0≤dy)=true)∨(decide (dk < 0)=true∧decide (0≤dy)=false∧decide (dy < 0)=true∧decide (dy < dk)=false∧(dy == dk)=true∧(Op.bytesLess la.toList nk.toList || la.toList == nk.toList)=true)∨(decide (dk < 0)=false∧decide (dy < 0)=false∧decide (dy < dk)=true)∨(decide (dk < 0)=false∧decide (dy < 0)=false∧decide (dy < dk)=false∧(dy == dk)=true∧(Op.bytesLess la.toList nk.toList || la.toList == nk.toList)=true))) ∨
      (aheadB dk dy la nk=false∧((decide (dk < 0)=true∧decide (0≤dy)=false∧decide (dy < 0)=true∧decide (dy < dk)=false∧(dy == dk)=true∧(Op.bytesLess la.toList nk.toList || la.toList == nk.toList)=false)∨(decide (dk < 0)=false∧decide (dy < 0)=true)∨(decide (dk < 0)=false∧decide (dy < 0)=false∧decide (dy < dk)=false∧(dy == dk)=true∧(Op.bytesLess la.toList nk.toList || la.toList == nk.toList)=false)∨(decide (dk < 0)=false∧decide (dy < 0)=false∧decide (dy < dk)=false∧(dy == dk)=false))):=by
      rw [leq_is]
      unfold aheadB
      cases hbl:Op.bytesLess nk.toList la.toList<;>rcases hxb with hx | ⟨hx,_⟩<;>rcases hyb with hy | ⟨hy,_⟩<;>rcases Int.lt_trichotomy dy dk with h3 | h3 | h3<;>simp<;>omega
     clear hxb hyb
     rcases hcase with ⟨hah,hcs⟩ | ⟨hah,hcs⟩
     ·have HZ3:Hid (∀ j,j < a+1→lt nk (L.getD j ByteArray.empty)=false):=HZ2.out (by rw [hah] at HAA;simpa using HAA.symm)
      clear HZ2 HPOS HAA hah
      rcases hcs with ⟨g1,g2⟩ | ⟨g1,g2,g3,g4,g5,g6⟩ | ⟨g1,g2,g3⟩ | ⟨g1,g2,g3,g4,g5⟩
      all_goals
       go_wp2_with fail
       go_quiet (fail)
       go_wp2_with fail
       exact ⟨⟨a+1,by omega,by go_num,HXD.out _,HZ3⟩,by simp [intOf];omega⟩
     ·have HPA:Hid (So.pos lt nk L=a):=HPOS.out (by rw [hah] at HAA;simpa using HAA.symm)
      clear HZ2 HPOS HAA hah
      rcases hcs with ⟨g1,g2,g3,g4,g5,g6⟩ | ⟨g1,g2⟩ | ⟨g1,g2,g3,g4,g5⟩ | ⟨g1,g2,g3,g4⟩
      all_goals
       go_wp2_with fail
       go_quiet (fail)
       go_wp2_with fail
       have HX7:Hid (Below wo.heap.size wo (w6.drewN nq)):=HXD.out nq
       clear HXD c0 c1
       generalize w6.drewN nq=w7 at *
       obtain ⟨c0,_⟩:=HC.out w7 HX7.out
       have hs7:=HX7.out.size
       obtain ⟨gz,hgz,hgb⟩:=hao _ rfl
       have hoo:oo=0:=by simp only [Addr.mk.injEq] at hgz;exact hgz.2.1
       have hbo:bo=gz:=by simp only [Addr.mk.injEq] at hgz;exact hgz.1
       subst hoo
       subst hbo
       clear hgz
       have hlo7:bo < w7.heap.size:=by omega
       have HCE:Hid (∀ j,j < k→w7.cell? ⟨bo,0+j,none⟩=some (.string (L.getD j ByteArray.empty))):=fun j hj=>by
        rcases HOR.out with h | ⟨b',off',h1,h2,h3⟩
        ·have:=HLEN.out;rw [h] at this;simp at this;omega
        ·simp only [Option.some.injEq,Addr.mk.injEq] at h1
         obtain ⟨rfl,rfl,_⟩:=h1
         exact (HX7.out.cell (p:=⟨bo,0+j,none⟩) hlo).trans (h3 j (by rw [HLEN.out];exact hj))
       have e0:=World.new_ne w7 _ c0
       have ha4:(a:Int)≤(co:Int):=by omega
       have ha5:(a:Int)≤(k:Int):=by omega
       have hk5:(k:Int)≤(co:Int):=by omega
       have hca:¬ co=a:=by omega
       have hb63:1+(k - a)≤maxLen:=by unfold maxLen;omega
       have hbb:(1+(k - a)) * 16≤140737488355328:=by omega
       have hc63:a+(1+(k - a))≤maxLen:=by unfold maxLen;omega
       have hcb:(a+(1+(k - a))) * 16≤140737488355328:=by omega
       have HLL:Hid (L.length=k):=HLEN.out
       have hbw:b < w.heap.size:=hl1
       have hnews1:Hid (∀ (Y:World),Below w7.heap.size w7 Y→∀ j u,((L.drop a).map Value.string)[j]?=some u→Y.cell? (Addr.add ⟨bo,a,none⟩ j)=some u):=fun Y hY j u hj=>by
        have hl:j < (L.drop a).length:=by have:=(List.getElem?_eq_some_iff.1 hj).1;simpa using this
        have hl2:a+j < k:=by rw [List.length_drop,HLL.out] at hl;omega
        rw [Addr.add_lit,hY.cell (p:=⟨bo,a+j,none⟩) hlo7]
        have h:=HCE.out (a+j) hl2
        rw [Nat.zero_add] at h
        rw [h]
        simpa [List.getD,List.getElem?_eq_getElem (show a+j < L.length by rw [HLL.out];exact hl2)] using hj
       have hnews2:Hid (∀ (Y:World),Below w7.heap.size w7 Y→∀ ad:Addr,some (⟨bo,0,none⟩:Addr)=some ad→∀ j u,((L.take a).map Value.string)[j]?=some u→Y.cell? (ad.add j)=some u):=fun Y hY ad had j u hj=>by
        cases had
        have hl:j < (L.take a).length:=by have:=(List.getElem?_eq_some_iff.1 hj).1;simpa using this
        have hl2:j < a:=by rw [List.length_take] at hl;omega
        rw [Addr.add_lit,hY.cell (p:=⟨bo,0+j,none⟩) hlo7,HCE.out j (by omega)]
        have h3:j < L.length:=by rw [HLL.out];omega
        simpa [List.getD,List.getElem?_eq_getElem h3,List.getElem?_take_of_lt hl2] using hj
       go_region_held3 (fun w'=>w'.cell? ⟨b,off+k,none⟩=some (.string nk)) (first | go_keep | ((rw [hgrow9.cell_far _ (by show b < _;have h8:=hgrow8.size;simp at h8;omega) (by simp)];assumption)) | ((rw [hgrow8.cell_far _ (by show b < _;simp;omega) (by simp [Value.ownBlock];omega)];assumption)) | (trace_state;fail))
        (first
          | (refine step_append_lies _ (by rfl) _ _ _ (by rfl) w.heap.size 9 i0 _ 1 16 Tryz.underlying81 hi0 hz0 hzs hzb rfl (by omega) (.slice (some ⟨w7.heap.size,0,none⟩) 1 1) 1 [.string nk] (by rfl) ((own_one (heap_alloc_new w7 _) (by omega)).drew) ⟨bo,a,none⟩ (k - a) (co - a) ((L.drop a).map Value.string) (by rfl) (by rw [List.length_map,List.length_drop,HLL.out,Nat.mul_one]) (hnews1.out _ ((Below.refl _ _).alloc (Nat.le_refl _) _).drew) (strs_one _) (by omega) hb63 hbb (by simp;omega) _ rfl ?_
             intro g1 c1' w8 hown8 hgrow8 hat8 hlt8)
          | (refine step_append_grows rfl (.tmp 78) (.tmp 87) 81 (by rfl) 9 i0 _ 1 16 Tryz.underlying81 hi0 hz0 hzs hzb rfl (by omega) (some ⟨bo,0,none⟩) a a ((L.take a).map Value.string) (by rfl) (fun h=>by cases h) (by rw [List.length_map,List.length_take,HLL.out,Nat.mul_one];omega) (hnews2.out _ ?_) ⟨g1,0,none⟩ (1+(k - a)) c1' ([.string nk]++(L.drop a).map Value.string) (by rfl) hown8.1 (own_news hown8) ?_ (by omega) hc63 hcb ?_
             (focus (exact ((Below.refl _ _).alloc (Nat.le_refl _) _).drew.grown hgrow8 (by simp) (fun j hj=>by simp [Value.ownBlock] at hj;omega)))
             (focus (exact strs_one (nk :: L.drop a)))
             intro v9 w9 hown9 hgrow9)
          | (trace_state;fail))
       have hz8:w7.heap.size+1≤w8.heap.size:=by have h8:=hgrow8.size;simpa using h8
       have HB8:Hid (Below wo.heap.size wo w8):=(HX7.out.alloc (by omega) _).drew.grown hgrow8 (by simp;omega) (fun j hj=>by simp [Value.ownBlock] at hj;omega)
       have HB9:Hid (Below wo.heap.size wo w9):=HB8.out.grown hgrow9 (by omega) (fun j hj=>by cases hj)
       have HBW9:Hid (Below w.heap.size w w9):=HB.out.trans (HB9.out.mono HB.out.size)
       have HG9:=(HC.out w9 HB9.out).2
       have HO9:Hid (OwnS w.heap.size w9 v9 L2):=by
        show World.ownsRow _ _ _ _ _ _ _
        have h:=ownS_mono hown9 (base':=w.heap.size) (by omega)
        rw [ins_cells HPA.out] at h
        rw [HINS.out]
        have e:(So.ins lt nk L).length=a+(1+(k - a)):=by rw [ins_len,HLL.out];omega
        rw [e]
        exact h
       have HT9:Hid (TSl w9 v9 L2):=own_tsl HO9.out HMEM.out
       clear hown8 hown9 hgrow8 hgrow9 hat8 hlt8 c0
       go_wp2_with fail
       exact ⟨⟨k+1,by omega,by go_num,HBW9,HG9,by rw [HL2.out];exact HT9,by rw [HL2.out];exact HO9⟩,by simp [intOf];omega⟩
    ·have hak2:a=k:=by omega
     have HPA:Hid (So.pos lt nk L=k):=by
      show So.pos lt nk L=k
      refine So.pos_is (d:=ByteArray.empty) (by rw [HLEN.out];exact Nat.le_refl _) (fun j hj=>HZ.out j (by omega)) (fun h=>by rw [HLEN.out] at h;omega)
     subst hak2
     obtain ⟨c0,_⟩:=HC.out wr HX.out
     have hs7:=HX.out.size
     have e0:=World.new_ne wr _ c0
     have HLL:Hid (L.length=a):=HLEN.out
     have hc63:a+1≤maxLen:=by unfold maxLen;omega
     have hcb:(a+1) * 16≤140737488355328:=by omega
     have hbw:b < w.heap.size:=hl1
     have HCE:Hid (∀ (Y:World),Below wr.heap.size wr Y→∀ ad:Addr,ao=some ad→∀ j u,(L.map Value.string)[j]?=some u→Y.cell? (ad.add j)=some u):=fun Y hY ad had j u hj=>by
      subst had
      have hl:j < L.length:=by have:=(List.getElem?_eq_some_iff.1 hj).1;simpa using this
      rcases HOR.out with h | ⟨b',off',h1,h2,h3⟩
      ·rw [h] at hl;simp at hl
      ·simp only [Option.some.injEq] at h1
       subst h1
       rw [Addr.add_lit,hY.cell (p:=⟨b',off'+j,none⟩) (by show b' < _;omega),HX.out.cell (p:=⟨b',off'+j,none⟩) h2,h3 j hl]
       simpa [List.getD,List.getElem?_eq_getElem hl] using hj
     have HFIN:Hid (∀ (v9:Value) (w9:World),w9.ownsRow (wr.heap.size+1) 9 1 v9 (a+1) (L.map Value.string++[.string nk])→Below wo.heap.size wo w9→(Below w.heap.size w w9∧w9.heap[w.heap.size]?=some (.cells #[.int .i64 p.x,.int .i64 p.y,.int .i64 p.z,.int .i64 p.h,.int .i64 p.s] 25 (0,0))∧TSl w9 v9 L2∧OwnS w.heap.size w9 v9 L2)):=fun v9 w9 h1 h2=>by
      have hO:OwnS w.heap.size w9 v9 L2:=by
       show World.ownsRow _ _ _ _ _ _ _
       have h:=ownS_mono h1 (base':=w.heap.size) (by omega)
       have e2:=ins_cells HPA.out
       rw [List.take_of_length_le (by rw [HLL.out];exact Nat.le_refl _),List.drop_of_length_le (by rw [HLL.out];exact Nat.le_refl _)] at e2
       simp only [List.map_nil,List.append_nil] at e2
       rw [e2] at h
       rw [HINS.out]
       have e:(So.ins lt nk L).length=a+1:=by rw [ins_len,HLL.out]
       rw [e]
       exact h
      exact ⟨HB.out.trans (h2.mono HB.out.size),(HC.out w9 h2).2,own_tsl hO HMEM.out,hO⟩
     cases ao with
     | none=>
       obtain ⟨ha0,hc0⟩:=hno rfl
       subst ha0 hc0
       rw [Nat.add_zero] at c0
       go_wp2_with fail
       go_region_held3 (fun w'=>w'.cell? ⟨b,off,none⟩=some (.string nk)) (first | go_keep | ((rw [hgrow9.cell_far _ (by show b < _;simp;omega) (by simp)];assumption)))
        (first
          | (refine step_append_nothing (by rfl) (.tmp 83) (.tmp 86) 81 (by rfl) 9 i0 Tryz.underlying81 hi0 (some ⟨wr.heap.size,0,none⟩) 1 1 (Nat.le_refl _) (by rfl) _ _ (by rfl) ?_)
          | (refine step_append_grows rfl (.tmp 78) (.tmp 87) 81 (by rfl) 9 i0 _ 1 16 Tryz.underlying81 hi0 hz0 hzs hzb rfl (by omega) none 0 0 (L.map Value.string) (by rfl) (fun _=>⟨rfl,rfl⟩) (by rw [List.length_map,HLL.out,Nat.mul_one]) (HCE.out _ ((Below.refl _ _).alloc (Nat.le_refl _) _).drew) ⟨wr.heap.size,0,none⟩ 1 1 [.string nk] (by rfl) rfl (own_news ((own_one (base:=0) (heap_alloc_new wr _) (Nat.zero_le _)).drew)) (strs_one [nk]) (by omega) hc63 hcb ?_
             intro v9 w9 hown9 hgrow9))
       have HB9:Below wo.heap.size wo w9:=((HX.out.alloc (by omega) _).drew).grown hgrow9 (by simp;omega) (fun j hj=>by cases hj)
       obtain ⟨r1,r2,r3,r4⟩:=HFIN.out v9 w9 (by simpa using hown9) HB9
       clear hown9 hgrow9 c0 HB9
       go_wp2_with fail
       exact ⟨⟨0+1,by omega,by go_num,r1,r2,by rw [HL2.out];exact r3,by rw [HL2.out];exact r4⟩,by simp [intOf];omega⟩
     | some ad=>
       obtain ⟨gz,rfl,hgb⟩:=hao ad rfl
       have ha4:(a:Int)≤(co:Int):=by omega
       by_cases hck:co=a
       ·subst hck
        go_wp2_with fail
        go_region_held3 (fun w'=>w'.cell? ⟨b,off+co,none⟩=some (.string nk)) (first | go_keep | ((rw [hgrow9.cell_far _ (by show b < _;simp;omega) (by simp)];assumption)))
         (first
           | (refine step_append_nothing (by rfl) (.tmp 83) (.tmp 86) 81 (by rfl) 9 i0 Tryz.underlying81 hi0 (some ⟨wr.heap.size,0,none⟩) 1 1 (Nat.le_refl _) (by rfl) _ _ (by rfl) ?_)
           | (refine step_append_grows rfl (.tmp 78) (.tmp 87) 81 (by rfl) 9 i0 _ 1 16 Tryz.underlying81 hi0 hz0 hzs hzb rfl (by omega) (some ⟨gz,0,none⟩) co co (L.map Value.string) (by rfl) (fun h=>by cases h) (by rw [List.length_map,HLL.out,Nat.mul_one]) (HCE.out _ ((Below.refl _ _).alloc (Nat.le_refl _) _).drew) ⟨wr.heap.size,0,none⟩ 1 1 [.string nk] (by rfl) rfl (own_news ((own_one (base:=0) (heap_alloc_new wr _) (Nat.zero_le _)).drew)) (strs_one [nk]) (by omega) hc63 hcb ?_
              intro v9 w9 hown9 hgrow9)
           | fail)
        have HB9:Below wo.heap.size wo w9:=((HX.out.alloc (by omega) _).drew).grown hgrow9 (by simp;omega) (fun j hj=>by cases hj)
        obtain ⟨r1,r2,r3,r4⟩:=HFIN.out v9 w9 (by simpa using hown9) HB9
        clear hown9 hgrow9 c0 HB9
        go_wp2_with fail
        exact ⟨⟨co+1,by omega,by go_num,r1,r2,by rw [HL2.out];exact r3,by rw [HL2.out];exact r4⟩,by simp [intOf];omega⟩
       ·go_wp2_with fail
        go_region_held3 (fun w'=>w'.cell? ⟨b,off+a,none⟩=some (.string nk)) (first | go_keep | ((rw [hgrow9.cell_far _ (by show b < _;simp;omega) (by simp)];assumption)))
         (first
           | (refine step_append_nothing (by rfl) (.tmp 83) (.tmp 86) 81 (by rfl) 9 i0 Tryz.underlying81 hi0 (some ⟨wr.heap.size,0,none⟩) 1 1 (Nat.le_refl _) (by rfl) _ _ (by rfl) ?_)
           | (refine step_append_grows rfl (.tmp 78) (.tmp 87) 81 (by rfl) 9 i0 _ 1 16 Tryz.underlying81 hi0 hz0 hzs hzb rfl (by omega) (some ⟨gz,0,none⟩) a a (L.map Value.string) (by rfl) (fun h=>by cases h) (by rw [List.length_map,HLL.out,Nat.mul_one]) (HCE.out _ ((Below.refl _ _).alloc (Nat.le_refl _) _).drew) ⟨wr.heap.size,0,none⟩ 1 1 [.string nk] (by rfl) rfl (own_news ((own_one (base:=0) (heap_alloc_new wr _) (Nat.zero_le _)).drew)) (strs_one [nk]) (by omega) hc63 hcb ?_
              intro v9 w9 hown9 hgrow9)
           | fail)
        have HB9:Below wo.heap.size wo w9:=((HX.out.alloc (by omega) _).drew).grown hgrow9 (by simp;omega) (fun j hj=>by cases hj)
        obtain ⟨r1,r2,r3,r4⟩:=HFIN.out v9 w9 (by simpa using hown9) HB9
        clear hown9 hgrow9 c0 HB9
        go_wp2_with fail
        exact ⟨⟨a+1,by omega,by go_num,r1,r2,by rw [HL2.out];exact r3,by rw [HL2.out];exact r4⟩,by simp [intOf];omega⟩
  ·have hkn:k=nl:=by omega
   subst hkn
   go_wp2_with fail
   go_ret
   exact ⟨u7,rfl,by rw [HLT.out];exact HT.out,HB.out⟩
end Go.Proofs.YtignmeaeibaejaaGreatDoor
