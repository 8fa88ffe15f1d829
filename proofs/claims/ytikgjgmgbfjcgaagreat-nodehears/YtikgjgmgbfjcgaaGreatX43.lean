import Derived.Test.YtikgjgmgbfjcgaaGreatX42
import Derived.Test.YtikgjgmgbfjcgaaGreatX27
namespace Go.Proofs.YtikgjgmgbfjcgaaGreat
open Go.RowKit
def whI (l:List Wh.Whe) (t:ByteArray):Int:=if l.findIdx (fun y=>decide (y.node=t)) < l.length then (l.findIdx (fun y=>decide (y.node=t)):Nat) else -1
theorem whI_some {l:List Wh.Whe} {t:ByteArray} {k:Nat} (hk:k < l.length) (h1:∀ j,j < k→(l.getD j Wh.dm).node≠t) (h2:(l.getD k Wh.dm).node=t):whI l t=k:=by
 have e:∀ j (h:j < l.length),l.getD j Wh.dm=l[j]:=fun j h=>by simp [List.getD,List.getElem?_eq_getElem h]
 have h3:l.findIdx (fun y=>decide (y.node=t))=k:=by
  rw [List.findIdx_eq hk]
  refine ⟨by rw [← e k hk];simpa using h2,fun j hj=>?_⟩
  have:=h1 j hj
  rw [e j (by omega)] at this
  simpa using this
 unfold whI
 rw [h3,if_pos hk]
theorem whI_none {l:List Wh.Whe} {t:ByteArray} (h1:∀ j,j < l.length→(l.getD j Wh.dm).node≠t):whI l t = -1:=by
 unfold whI
 rw [if_neg]
 intro h
 have h2:=List.findIdx_getElem (w:=h)
 have h3:=h1 _ h
 rw [show l.getD (l.findIdx fun y=>decide (y.node=t)) Wh.dm=l[l.findIdx fun y=>decide (y.node=t)] by simp [List.getD,List.getElem?_eq_getElem h]] at h3
 exact h3 (by simpa using h2)
theorem whI_any (l:List Wh.Whe) (t:ByteArray):((l.any fun y=>decide (y.node=t))=false∧whI l t = -1)∨((l.any fun y=>decide (y.node=t))=true∧decide (whI l t < 0)=false):=by
 rcases h:(l.any fun y=>decide (y.node=t)) with _ | _
 ·refine .inl ⟨rfl,whI_none fun j hj e=>?_⟩
  rw [List.any_eq_false] at h
  have h2:=h _ (List.getElem_mem hj)
  rw [show l.getD j Wh.dm=l[j] by simp [List.getD,List.getElem?_eq_getElem hj]] at e
  exact h2 (by simpa using e)
 ·refine .inr ⟨rfl,?_⟩
  obtain ⟨y,hy,he⟩:=List.any_eq_true.1 h
  have hl:l.findIdx (fun y=>decide (y.node=t)) < l.length:=List.findIdx_lt_length.2 ⟨y,hy,he⟩
  unfold whI
  rw [if_pos hl]
  apply decide_eq_false
  omega
set_option maxHeartbeats 800000 in
theorem whereAt_any (ms:List Wh.Whe) (v:Value) (t:ByteArray) (w:World) (hv:Wh.Sl w v ms) (hn:ms.length≤1000) :
 Calls Tryz.prog 72 #[v,.string t] w fun e w'=>e=.returned (.int .i64 (whI ms t))∧w'=w:=by
 obtain ⟨pa,ca,rfl,_,ha⟩:=hv
 have HA:Hid (ms=[]∨∃ b off,pa=some ⟨b,off,none⟩∧b < w.heap.size∧Wh.Row w b off ms):=ha
 clear ha
 generalize hna:ms.length=n at *
 have HN:Hid (ms.length=n):=hna
 clear hna
 have HW:Hid (∃ x,x=whI ms t):=⟨_,rfl⟩
 have HWI:Hid ((∀ k,k < ms.length→(∀ j,j < k→(ms.getD j Wh.dm).node≠t)→(ms.getD k Wh.dm).node=t→whI ms t=k)∧((∀ j,j < ms.length→(ms.getD j Wh.dm).node≠t)→whI ms t = -1)):=⟨fun k hk=>whI_some hk,whI_none⟩
 generalize whI ms t=R at *
 go_enter Tryz.func72,Tryz.ntmps72
 go_wp2_with fail
 go_loop [5] (fun i=>∃ k:Nat,k≤n∧i=.int .i64 k∧Hid (∀ j,j < k→(ms.getD j Wh.dm).node≠t)) (fun i=>n - (intOf i).toNat)
 case atStart=>exact ⟨0,Nat.zero_le _,rfl,fun j h=>absurd h (Nat.not_lt_zero _)⟩
 case round=>
  obtain ⟨k,hk,rfl,hz⟩:=hrel
  by_cases hlt:k < n
  ·obtain ⟨b1,o1,hp1,hl1,hr1⟩:∃ b off,pa=some ⟨b,off,none⟩∧b < w.heap.size∧Wh.Row w b off ms:=by
    rcases HA.out with h | h
    ·have:=HN.out;rw [h] at this;simp at this;omega
    ·exact h
   subst hp1
   obtain ⟨c0,_,_,_,_,_⟩:=hr1 k (by rw [HN.out];exact hlt)
   clear hr1
   have HF:Hid ((ms.getD k Wh.dm).node=t→R=k):=fun h=>HWI.out.1 k (by rw [HN.out];exact hlt) hz.out h
   have HZ:Hid ((ms.getD k Wh.dm).node≠t→∀ j,j < k+1→(ms.getD j Wh.dm).node≠t):=fun h j hj=>by
    rcases Nat.lt_succ_iff_lt_or_eq.1 hj with h2 | rfl
    ·exact hz.out j h2
    ·exact h
   generalize (ms.getD k Wh.dm).node=nm at *
   by_cases he:nm=t
   ·subst he
    have HF2:Hid (R=k):=HF.out rfl
    clear HF HZ
    go_wp2_with fail
    go_ret
    exact ⟨ret_int HF2.out.symm,rfl⟩
   ·obtain ⟨h1,h2⟩:=beq_name he
    have HE:Hid (nm≠t):=he
    clear he
    go_wp2_with fail
    go_round
    case rel=>exact ⟨k+1,by omega,by go_num,HZ.out HE.out⟩
    case measure=>simp [intOf];omega
  ·have HF2:Hid (R = -1):=HWI.out.2 fun j hj=>hz.out j (by have:=HN.out;omega)
   go_wp2_with fail
   go_ret
   exact ⟨ret_int HF2.out.symm,rfl⟩
theorem IsNd.set_sv {W:World} {b:Nat} {N:Nd} {J:List Sv.Svc} {t0 t1:ByteArray} {p2 p3 p4 p5 p11 a:Option Addr} {k2 c2 k3 c3 k4 c4 k5 c5 k11 c11 k c:Nat} {i6 i7 i8 i9 i10:Int} (h:IsNd W N #[.string t0,.string t1,.slice p2 k2 c2,.slice p3 k3 c3,.slice p4 k4 c4,.slice p5 k5 c5,.int .i64 i6,.int .i64 i7,.int .i64 i8,.int .i64 i9,.int .i64 i10,.slice p11 k11 c11]) (hb:W.heap[b]?=some (.cells #[.string t0,.string t1,.slice p2 k2 c2,.slice p3 k3 c3,.slice p4 k4 c4,.slice p5 k5 c5,.int .i64 i6,.int .i64 i7,.int .i64 i8,.int .i64 i9,.int .i64 i10,.slice p11 k11 c11] 30 (0,0))) (hs:Sv.Sl W (.slice a k c) J) :
 IsNd (W.setCell ⟨b,4,none⟩ (.slice a k c)) { N with sv:=J } #[.string t0,.string t1,.slice p2 k2 c2,.slice p3 k3 c3,.slice a k c,.slice p5 k5 c5,.int .i64 i6,.int .i64 i7,.int .i64 i8,.int .i64 i9,.int .i64 i10,.slice p11 k11 c11]:=by
 obtain ⟨vm,vr,vs,vg,vw,hA,hi⟩:=h
 have hn:=NBox.of hb
 have hsh:Sh (fun k=>k=b) W (W.setCell ⟨b,4,none⟩ (.slice a k c)):=(Sh.refl _ _).setCell (S:=fun k=>k=b) rfl _
 simp only [ndA,Array.mk.injEq,List.cons.injEq,and_true] at hA
 obtain ⟨e0,e1,e2,e3,e4,e5,e6,e7,e8,e9,e10,e11⟩:=hA
 refine ⟨vm,vr,.slice a k c,vg,vw,?_,⟨sl_sh1 hi.ms hn hsh,rsl_sh1 hi.rs hn hsh,svl_sh1 hs hn hsh,gwl_sh1 hi.gw hn hsh,whl_sh1 hi.wh hn hsh,hi.name,hi.centre⟩⟩
 simp only [ndA,e0,e1,e2,e3,e5,e6,e7,e8,e9,e10,e11]
theorem IsNd.set_gw {W:World} {b:Nat} {N:Nd} {J:List Gw.Gwy} {t0 t1:ByteArray} {p2 p3 p4 p5 p11 a:Option Addr} {k2 c2 k3 c3 k4 c4 k5 c5 k11 c11 k c:Nat} {i6 i7 i8 i9 i10:Int} (h:IsNd W N #[.string t0,.string t1,.slice p2 k2 c2,.slice p3 k3 c3,.slice p4 k4 c4,.slice p5 k5 c5,.int .i64 i6,.int .i64 i7,.int .i64 i8,.int .i64 i9,.int .i64 i10,.slice p11 k11 c11]) (hb:W.heap[b]?=some (.cells #[.string t0,.string t1,.slice p2 k2 c2,.slice p3 k3 c3,.slice p4 k4 c4,.slice p5 k5 c5,.int .i64 i6,.int .i64 i7,.int .i64 i8,.int .i64 i9,.int .i64 i10,.slice p11 k11 c11] 30 (0,0))) (hs:Gw.Sl W (.slice a k c) J) :
 IsNd (W.setCell ⟨b,5,none⟩ (.slice a k c)) { N with gw:=J } #[.string t0,.string t1,.slice p2 k2 c2,.slice p3 k3 c3,.slice p4 k4 c4,.slice a k c,.int .i64 i6,.int .i64 i7,.int .i64 i8,.int .i64 i9,.int .i64 i10,.slice p11 k11 c11]:=by
 obtain ⟨vm,vr,vs,vg,vw,hA,hi⟩:=h
 have hn:=NBox.of hb
 have hsh:Sh (fun k=>k=b) W (W.setCell ⟨b,5,none⟩ (.slice a k c)):=(Sh.refl _ _).setCell (S:=fun k=>k=b) rfl _
 simp only [ndA,Array.mk.injEq,List.cons.injEq,and_true] at hA
 obtain ⟨e0,e1,e2,e3,e4,e5,e6,e7,e8,e9,e10,e11⟩:=hA
 refine ⟨vm,vr,vs,.slice a k c,vw,?_,⟨sl_sh1 hi.ms hn hsh,rsl_sh1 hi.rs hn hsh,svl_sh1 hi.sv hn hsh,gwl_sh1 hs hn hsh,whl_sh1 hi.wh hn hsh,hi.name,hi.centre⟩⟩
 simp only [ndA,e0,e1,e2,e3,e4,e6,e7,e8,e9,e10,e11]
theorem IsNd.set_wh {W:World} {b:Nat} {N:Nd} {J:List Wh.Whe} {t0 t1:ByteArray} {p2 p3 p4 p5 p11 a:Option Addr} {k2 c2 k3 c3 k4 c4 k5 c5 k11 c11 k c:Nat} {i6 i7 i8 i9 i10:Int} (h:IsNd W N #[.string t0,.string t1,.slice p2 k2 c2,.slice p3 k3 c3,.slice p4 k4 c4,.slice p5 k5 c5,.int .i64 i6,.int .i64 i7,.int .i64 i8,.int .i64 i9,.int .i64 i10,.slice p11 k11 c11]) (hb:W.heap[b]?=some (.cells #[.string t0,.string t1,.slice p2 k2 c2,.slice p3 k3 c3,.slice p4 k4 c4,.slice p5 k5 c5,.int .i64 i6,.int .i64 i7,.int .i64 i8,.int .i64 i9,.int .i64 i10,.slice p11 k11 c11] 30 (0,0))) (hs:Wh.Sl W (.slice a k c) J) :
 IsNd (W.setCell ⟨b,11,none⟩ (.slice a k c)) { N with wh:=J } #[.string t0,.string t1,.slice p2 k2 c2,.slice p3 k3 c3,.slice p4 k4 c4,.slice p5 k5 c5,.int .i64 i6,.int .i64 i7,.int .i64 i8,.int .i64 i9,.int .i64 i10,.slice a k c]:=by
 obtain ⟨vm,vr,vs,vg,vw,hA,hi⟩:=h
 have hn:=NBox.of hb
 have hsh:Sh (fun k=>k=b) W (W.setCell ⟨b,11,none⟩ (.slice a k c)):=(Sh.refl _ _).setCell (S:=fun k=>k=b) rfl _
 simp only [ndA,Array.mk.injEq,List.cons.injEq,and_true] at hA
 obtain ⟨e0,e1,e2,e3,e4,e5,e6,e7,e8,e9,e10,e11⟩:=hA
 refine ⟨vm,vr,vs,vg,.slice a k c,?_,⟨sl_sh1 hi.ms hn hsh,rsl_sh1 hi.rs hn hsh,svl_sh1 hi.sv hn hsh,gwl_sh1 hi.gw hn hsh,whl_sh1 hs hn hsh,hi.name,hi.centre⟩⟩
 simp only [ndA,e0,e1,e2,e3,e4,e5,e6,e7,e8,e9,e10]
end Go.Proofs.YtikgjgmgbfjcgaaGreat
