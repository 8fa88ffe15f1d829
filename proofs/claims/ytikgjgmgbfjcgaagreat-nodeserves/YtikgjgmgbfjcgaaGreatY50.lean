import Derived.Test.YtikgjgmgbfjcgaaGreatY44
import Derived.Test.YtikgjgmgbfjcgaaGreatY25
import Derived.Test.YtikgjgmgbfjcgaaGreatY49
import Derived.Test.YtikgjgmgbfjcgaaGreatY46
import Derived.Test.YtikgjgmgbfjcgaaGreatY29
import Derived.Test.YtikgjgmgbfjcgaaGreatY43
import Derived.Test.YtikgjgmgbfjcgaaGreatY36
import Derived.Test.YtikgjgmgbfjcgaaGreatY8
namespace Go.Proofs.YtikgjgmgbfjcgaaGreat
open Go.RowKit
def NBox (W:World) (b:Nat):Prop:=∃ t0 t1 p2 k2 c2 p3 k3 c3 p4 k4 c4 p5 k5 c5 i6 i7 i8 i9 i10 p11 k11 c11 T f,W.heap[b]?=some (.cells (ndV t0 t1 p2 k2 c2 p3 k3 c3 p4 k4 c4 p5 k5 c5 i6 i7 i8 i9 i10 p11 k11 c11) T f)
theorem cell_same {W W':World} {g:Nat} (h:W'.heap[g]?=W.heap[g]?) (o:Nat):W'.cell? ⟨g,o,none⟩=W.cell? ⟨g,o,none⟩:=by
 simp only [World.cell?,h]
theorem NBox.str {W:World} {b off:Nat} {s:ByteArray} (h:NBox W b) (h1:W.cell? ⟨b,off,none⟩=some (.string s)):off=0∨off=1:=by
 obtain ⟨t0,t1,p2,k2,c2,p3,k3,c3,p4,k4,c4,p5,k5,c5,i6,i7,i8,i9,i10,p11,k11,c11,T,f,hg⟩:=h
 rw [cellsAt hg] at h1
 match off,h1 with
 | 0,_=>exact .inl rfl
 | 1,_=>exact .inr rfl
 | 2,h1=>simp [ndV] at h1
 | 3,h1=>simp [ndV] at h1
 | 4,h1=>simp [ndV] at h1
 | 5,h1=>simp [ndV] at h1
 | 6,h1=>simp [ndV] at h1
 | 7,h1=>simp [ndV] at h1
 | 8,h1=>simp [ndV] at h1
 | 9,h1=>simp [ndV] at h1
 | 10,h1=>simp [ndV] at h1
 | 11,h1=>simp [ndV] at h1
 | k+12,h1=>simp [ndV] at h1
theorem NBox.int {W:World} {b off:Nat} {s:ByteArray} {i:Int} (h:NBox W b) (h1:W.cell? ⟨b,off,none⟩=some (.string s)) (h2:W.cell? ⟨b,off+1,none⟩=some (.int .i64 i)):False:=by
 have h3:=h.str h1
 obtain ⟨t0,t1,p2,k2,c2,p3,k3,c3,p4,k4,c4,p5,k5,c5,i6,i7,i8,i9,i10,p11,k11,c11,T,f,hg⟩:=h
 rw [cellsAt hg] at h2
 rcases h3 with rfl | rfl
 ·simp [ndV] at h2
 ·simp [ndV] at h2
theorem NBox.two {W:World} {b off:Nat} {s t:ByteArray} (h:NBox W b) (h1:W.cell? ⟨b,off,none⟩=some (.string s)) (h2:W.cell? ⟨b,off+2,none⟩=some (.string t)):False:=by
 have h3:=h.str h1
 obtain ⟨t0,t1,p2,k2,c2,p3,k3,c3,p4,k4,c4,p5,k5,c5,i6,i7,i8,i9,i10,p11,k11,c11,T,f,hg⟩:=h
 rw [cellsAt hg] at h2
 rcases h3 with rfl | rfl
 ·simp [ndV] at h2
 ·simp [ndV] at h2
theorem sl_sh1 {W W':World} {b:Nat} {v:Value} {L:List Mem} (h:Sl W v L) (hn:NBox W b) (hs:Sh (fun k=>k=b) W W'):Sl W' v L:=by
 obtain ⟨a,c,hv,hz,h⟩:=h
 refine ⟨a,c,hv,hz,?_⟩
 rcases h with h | ⟨g,off,ha,hlt,hr⟩
 ·exact .inl h
 ·by_cases h0:L=[]
  ·exact .inl h0
  ·have hp:0 < L.length:=List.length_pos_iff.2 h0
   have hne:g≠b:=fun e=>by
    subst e
    have h1:=(hr 0 hp).1
    have h2:=(hr 0 hp).2.1
    simp only [Nat.zero_mul,Nat.add_zero] at h1 h2
    exact hn.int h1 h2
   have hb:=hs.block g hlt hne
   have hsz:=hs.size
   refine .inr ⟨g,off,ha,by omega,fun j hj=>?_⟩
   obtain ⟨c0,c1,c2,c3,c4⟩:=hr j hj
   exact ⟨(cell_same hb _).trans c0,(cell_same hb _).trans c1,(cell_same hb _).trans c2,(cell_same hb _).trans c3,(cell_same hb _).trans c4⟩
theorem rsl_sh1 {W W':World} {b:Nat} {v:Value} {L:List Rum} (h:RSl W v L) (hn:NBox W b) (hs:Sh (fun k=>k=b) W W'):RSl W' v L:=by
 obtain ⟨a,c,hv,hz,h⟩:=h
 refine ⟨a,c,hv,hz,?_⟩
 rcases h with h | ⟨g,off,ha,hlt,hr⟩
 ·exact .inl h
 ·by_cases h0:L=[]
  ·exact .inl h0
  ·have hp:0 < L.length:=List.length_pos_iff.2 h0
   have hne:g≠b:=fun e=>by
    subst e
    have h1:=(hr 0 hp).1
    have h2:=(hr 0 hp).2.1
    simp only [Nat.zero_mul,Nat.add_zero] at h1 h2
    exact hn.int h1 h2
   have hb:=hs.block g hlt hne
   have hsz:=hs.size
   refine .inr ⟨g,off,ha,by omega,fun j hj=>?_⟩
   obtain ⟨c0,c1,c2,c3,c4,c5⟩:=hr j hj
   exact ⟨(cell_same hb _).trans c0,(cell_same hb _).trans c1,(cell_same hb _).trans c2,(cell_same hb _).trans c3,(cell_same hb _).trans c4,(cell_same hb _).trans c5⟩
theorem svl_sh1 {W W':World} {b:Nat} {v:Value} {L:List Sv.Svc} (h:Sv.Sl W v L) (hn:NBox W b) (hs:Sh (fun k=>k=b) W W'):Sv.Sl W' v L:=by
 obtain ⟨a,c,hv,hz,h⟩:=h
 refine ⟨a,c,hv,hz,?_⟩
 rcases h with h | ⟨g,off,ha,hlt,hr⟩
 ·exact .inl h
 ·by_cases h0:L=[]
  ·exact .inl h0
  ·have hp:0 < L.length:=List.length_pos_iff.2 h0
   have hne:g≠b:=fun e=>by
    subst e
    have h1:=(hr 0 hp).1
    have h2:=(hr 0 hp).2.2.1
    simp only [Nat.zero_mul,Nat.add_zero] at h1 h2
    exact hn.two h1 h2
   have hb:=hs.block g hlt hne
   have hsz:=hs.size
   refine .inr ⟨g,off,ha,by omega,fun j hj=>?_⟩
   obtain ⟨c0,c1,c2,c3,c4,c5,c6,c7,c8⟩:=hr j hj
   exact ⟨(cell_same hb _).trans c0,(cell_same hb _).trans c1,(cell_same hb _).trans c2,(cell_same hb _).trans c3,(cell_same hb _).trans c4,(cell_same hb _).trans c5,(cell_same hb _).trans c6,(cell_same hb _).trans c7,(cell_same hb _).trans c8⟩
theorem gwl_sh1 {W W':World} {b:Nat} {v:Value} {L:List Gw.Gwy} (h:Gw.Sl W v L) (hn:NBox W b) (hs:Sh (fun k=>k=b) W W'):Gw.Sl W' v L:=by
 obtain ⟨a,c,hv,hz,h⟩:=h
 refine ⟨a,c,hv,hz,?_⟩
 rcases h with h | ⟨g,off,ha,hlt,hr⟩
 ·exact .inl h
 ·by_cases h0:L=[]
  ·exact .inl h0
  ·have hp:0 < L.length:=List.length_pos_iff.2 h0
   have hne:g≠b:=fun e=>by
    subst e
    have h1:=(hr 0 hp).1
    have h2:=(hr 0 hp).2.1
    simp only [Nat.zero_mul,Nat.add_zero] at h1 h2
    exact hn.int h1 h2
   have hb:=hs.block g hlt hne
   have hsz:=hs.size
   refine .inr ⟨g,off,ha,by omega,fun j hj=>?_⟩
   obtain ⟨c0,c1,c2⟩:=hr j hj
   exact ⟨(cell_same hb _).trans c0,(cell_same hb _).trans c1,(cell_same hb _).trans c2⟩
theorem whl_sh1 {W W':World} {b:Nat} {v:Value} {L:List Wh.Whe} (h:Wh.Sl W v L) (hn:NBox W b) (hs:Sh (fun k=>k=b) W W'):Wh.Sl W' v L:=by
 obtain ⟨a,c,hv,hz,h⟩:=h
 refine ⟨a,c,hv,hz,?_⟩
 rcases h with h | ⟨g,off,ha,hlt,hr⟩
 ·exact .inl h
 ·by_cases h0:L=[]
  ·exact .inl h0
  ·have hp:0 < L.length:=List.length_pos_iff.2 h0
   have hne:g≠b:=fun e=>by
    subst e
    have h1:=(hr 0 hp).1
    have h2:=(hr 0 hp).2.1
    simp only [Nat.zero_mul,Nat.add_zero] at h1 h2
    exact hn.int h1 h2
   have hb:=hs.block g hlt hne
   have hsz:=hs.size
   refine .inr ⟨g,off,ha,by omega,fun j hj=>?_⟩
   obtain ⟨c0,c1,c2,c3,c4,c5⟩:=hr j hj
   exact ⟨(cell_same hb _).trans c0,(cell_same hb _).trans c1,(cell_same hb _).trans c2,(cell_same hb _).trans c3,(cell_same hb _).trans c4,(cell_same hb _).trans c5⟩
theorem IsNd.sh1 {W W':World} {b:Nat} {n:Nd} {A:Array Value} (h:IsNd W n A) (hn:NBox W b) (hs:Sh (fun k=>k=b) W W'):IsNd W' n A:=by
 obtain ⟨v1,v2,v3,v4,v5,h1,h2⟩:=h
 exact ⟨v1,v2,v3,v4,v5,h1,sl_sh1 h2.ms hn hs,rsl_sh1 h2.rs hn hs,svl_sh1 h2.sv hn hs,gwl_sh1 h2.gw hn hs,whl_sh1 h2.wh hn hs,h2.name,h2.centre⟩
theorem IsNd.setAll {W:World} {b:Nat} {n:Nd} {A:Array Value} (h:IsNd W n A) (hn:NBox W b) (L:List Value) (j:Nat):IsNd (setAll b L j W) n A:=h.sh1 hn (setAll_sh (S:=fun k=>k=b) rfl L j (Sh.refl _ _))
theorem NBox.of {W:World} {b:Nat} {T:TypeId} {f:Nat × Nat} {t0 t1:ByteArray} {p2 p3 p4 p5 p11:Option Addr} {k2 c2 k3 c3 k4 c4 k5 c5 k11 c11:Nat} {i6 i7 i8 i9 i10:Int} (h:W.heap[b]?=some (.cells #[.string t0,.string t1,.slice p2 k2 c2,.slice p3 k3 c3,.slice p4 k4 c4,.slice p5 k5 c5,.int .i64 i6,.int .i64 i7,.int .i64 i8,.int .i64 i9,.int .i64 i10,.slice p11 k11 c11] T f)):NBox W b:=⟨_,_,_,_,_,_,_,_,_,_,_,_,_,_,_,_,_,_,_,_,_,_,_,_,h⟩
abbrev svA (s:Sv.Svc):Value:=.agg #[.string s.node,.string s.idn,.string s.name,.string s.tag,.int .i64 s.addr,.int .i64 s.port,.bool s.passing,.int .i64 s.version,.bool s.gone]
theorem drp_ok {ms:List Sv.Svc} (h:∀ x∈ms,x.ok) (p:Nat) (f:Bool):(Sv.drp ms p f).ok:=by
 have hd:(Sv.dm).ok:=by simp [Sv.dm,Sv.Svc.ok]
 have hg:(Sv.fnd ms p f).ok:=by
  unfold Sv.fnd
  split
  ·exact Sv.ns_get h p
  ·exact hd
 exact hg
theorem reg_both (ms:List Sv.Svc) (s:Sv.Svc) (hs:s.ok) (hms:∀ x∈ms,x.ok) (hc:Sv.chk ms=0):∃ (E:Int) (L:List Sv.Svc),L.length≤1000∧(∀ x∈L,x.ok) ∧
 (∀ v W,Sv.Sl W v ms→Calls Tryz.prog 135 #[v,svA s] W fun e w'=>∃ p l c,e=.returned (.tuple #[.slice p l c,.int .i64 E])∧Hid (Sv.Own W.heap.size w' (.slice p l c) L)∧Below W.heap.size W w') ∧
 (∀ v W,Sv.Sl W v ms→Calls Tryz.prog 89 #[v,svA s] W fun e w'=>∃ a k c,e=.returned (.tuple #[.slice a k c,.int .i64 E])∧Hid (E=0→Sv.Sl w' (.slice a k c) L)∧Below W.heap.size W w'):=by
 obtain ⟨p,f,hat⟩:=Sv.at_any ms (Sv.chk_zero hc).2.1 (Sv.keyOf s)
 have hlen:=(Sv.chk_zero hc).1
 obtain ⟨hj1,hj2⟩:=Sv.reg_join (s:=s) hc hat
 have hpl:(RL.put ms (Sv.reg ms p f s) p f).length≤1000:=by
  have h:=RL.put_len Sv.ord Sv.dm (Sv.at_key (t:=Sv.reg ms p f s) (by rfl) (by rfl) hat)
  rw [h];split<;>omega
 refine ⟨Sv.regE ms p f s,if Sv.regE ms p f s=0 then RL.put ms (Sv.reg ms p f s) p f else [],?_,?_,fun v W h=>?_,fun v W h=>?_⟩
 ·split
  ·exact hpl
  ·simp
 ·split
  ·exact Sv.put_ok hms (Sv.reg_ok hs)
  ·intro x hx;cases hx
 ·refine (Sv.register_good ms v s W h hc hs p f hat).mono ?_
  rw [hj1,hj2]
  rintro e w' ⟨v',rfl,h1,h2,h3⟩
  have ho:Sv.Own W.heap.size w' v' (if Sv.regE ms p f s=0 then RL.put ms (Sv.reg ms p f s) p f else []):=by
   by_cases h0:Sv.regE ms p f s=0
   ·rw [if_pos h0];exact h3 h0
   ·rw [if_neg h0,h2 h0];exact Sv.own_nil _ _
  obtain ⟨q,c,rfl,_⟩:=own_slice ho
  exact ⟨q,_,c,rfl,ho,h1⟩
 ·refine (Sv.refReg_sl ms v s W h hc hs p f hat).mono ?_
  rintro e w' ⟨v',rfl,⟨a,k,c,rfl⟩,h1,h2⟩
  exact ⟨a,k,c,rfl,fun h0=>by rw [if_pos h0];exact h2.out h0,h1⟩
theorem drop_both (ms:List Sv.Svc) (node idn:ByteArray) (hs:node.size≤maxLen) (ht:idn.size≤maxLen) (hms:∀ x∈ms,x.ok) (hc:Sv.chk ms=0):∃ (E:Int) (L:List Sv.Svc),L.length≤1000∧(∀ x∈L,x.ok) ∧
 (∀ v W,Sv.Sl W v ms→Calls Tryz.prog 136 #[v,.string node,.string idn] W fun e w'=>∃ p l c,e=.returned (.tuple #[.slice p l c,.int .i64 E])∧Hid (Sv.Own W.heap.size w' (.slice p l c) L)∧Below W.heap.size W w') ∧
 (∀ v W,Sv.Sl W v ms→Calls Tryz.prog 90 #[v,.string node,.string idn] W fun e w'=>∃ a k c,e=.returned (.tuple #[.slice a k c,.int .i64 E])∧Hid (E=0→Sv.Sl w' (.slice a k c) L)∧Below W.heap.size W w'):=by
 obtain ⟨p,f,hat⟩:=Sv.at_any ms (Sv.chk_zero hc).2.1 ⟨node,idn,⟨#[]⟩,⟨#[]⟩,0,0,false,0,false⟩
 have hlen:=(Sv.chk_zero hc).1
 have hpl:(RL.put ms (Sv.drp ms p f) p f).length≤1000:=by
  unfold RL.put
  simp only [List.length_append,List.length_take,List.length_cons,List.length_drop]
  omega
 refine ⟨Sv.dropE ms p f node idn,if Sv.dropE ms p f node idn=0 then RL.put ms (Sv.drp ms p f) p f else [],?_,?_,fun v W h=>?_,fun v W h=>?_⟩
 ·split
  ·exact hpl
  ·simp
 ·split
  ·exact Sv.put_ok hms (drp_ok hms p f)
  ·intro x hx;cases hx
 ·refine (Sv.drop_good ms v node idn W h hc hs ht p f hat).mono ?_
  rintro e w' ⟨v',rfl,h1,h23⟩
  obtain ⟨h2,h3⟩:=h23.out
  have ho:Sv.Own W.heap.size w' v' (if Sv.dropE ms p f node idn=0 then RL.put ms (Sv.drp ms p f) p f else []):=by
   by_cases h0:Sv.dropE ms p f node idn=0
   ·rw [if_pos h0];exact h3 h0
   ·rw [if_neg h0,h2 h0];exact Sv.own_nil _ _
  obtain ⟨q,c,rfl,_⟩:=own_slice ho
  exact ⟨q,_,c,rfl,ho,h1⟩
 ·refine (Sv.refDrop_sl ms v node idn W h hc hs ht p f hat).mono ?_
  rintro e w' ⟨v',rfl,⟨a,k,c,rfl⟩,h1,h2⟩
  exact ⟨a,k,c,rfl,fun h0=>by rw [if_pos h0];exact h2.out h0,h1⟩
theorem open_both (gs:List Gw.Gwy) (name:ByteArray) (addr:Int) (hs:name.size≤maxLen) (hgs:∀ x∈gs,x.ok) (hc:Gw.chk gs=0):∃ (E:Int) (L:List Gw.Gwy),L.length≤1000∧(∀ x∈L,x.ok) ∧
 (∀ v W,Gw.Sl W v gs→Calls Tryz.prog 137 #[v,.string name,.int .i64 addr] W fun e w'=>∃ p l c,e=.returned (.tuple #[.slice p l c,.int .i64 E])∧Hid (Gw.Own W.heap.size w' (.slice p l c) L)∧Below W.heap.size W w') ∧
 (∀ v W,Gw.Sl W v gs→Calls Tryz.prog 91 #[v,.string name,.int .i64 addr] W fun e w'=>∃ a k c,e=.returned (.tuple #[.slice a k c,.int .i64 E])∧Hid (E=0→Gw.Sl w' (.slice a k c) L)∧Below W.heap.size W w'):=by
 obtain ⟨p,f,hat⟩:=Gw.at_any gs (Gw.chk_zero hc).2.1 ⟨name,0,0⟩
 have hlen:=(Gw.chk_zero hc).1
 obtain ⟨hj1,hj2⟩:=Gw.openE_join (addr:=addr) hc hat
 have hpl:(RL.put gs (Gw.opn gs p f name addr) p f).length≤1000:=by
  have h:=RL.put_len Gw.ord Gw.dm (Gw.at_key (t:=Gw.opn gs p f name addr) (by rfl) hat)
  rw [h];split<;>omega
 refine ⟨Gw.openE gs p f name addr,if Gw.openE gs p f name addr=0 then RL.put gs (Gw.opn gs p f name addr) p f else [],?_,?_,fun v W h=>?_,fun v W h=>?_⟩
 ·split
  ·exact hpl
  ·simp
 ·split
  ·exact Gw.put_ok hgs hs
  ·intro x hx;cases hx
 ·refine (Gw.open_good gs v name addr W h hc hs p f hat).mono ?_
  rw [hj1,hj2]
  rintro e w' ⟨v',rfl,h1,h2,h3⟩
  have ho:Gw.Own W.heap.size w' v' (if Gw.openE gs p f name addr=0 then RL.put gs (Gw.opn gs p f name addr) p f else []):=by
   by_cases h0:Gw.openE gs p f name addr=0
   ·rw [if_pos h0];exact h3 h0
   ·rw [if_neg h0,h2 h0];exact Gw.own_nil _ _
  obtain ⟨q,c,rfl,_⟩:=own_slice ho
  exact ⟨q,_,c,rfl,ho,h1⟩
 ·refine (Gw.refOpen_sl gs v name addr W h hc hs p f hat).mono ?_
  rintro e w' ⟨v',rfl,⟨a,k,c,rfl⟩,h1,h2⟩
  exact ⟨a,k,c,rfl,fun h0=>by rw [if_pos h0];exact h2.out h0,h1⟩
def svcE (n:Nd) (s:Sv.Svc) (E:Int):Int:=if s.node=n.name then E else 4
set_option maxHeartbeats 6400000 in
set_option maxRecDepth 100000 in
theorem wserve_any (L b:Nat) (n:Nd) (s:Sv.Svc) (E:Int) (X:List Sv.Svc) (w:World) (h:Wk L w b n) (hL:L≤b) (hX:∀ x∈X,x.ok)
 (HC0:∀ v W,Sv.Sl W v n.sv→Calls Tryz.prog 135 #[v,svA s] W fun e w'=>∃ p l c,e=.returned (.tuple #[.slice p l c,.int .i64 E])∧Hid (Sv.Own W.heap.size w' (.slice p l c) X)∧Below W.heap.size W w') :
 Calls Tryz.prog 84 #[.pointer (some ⟨b,0,none⟩),svA s] w fun e w'=>e=.returned (.int .i64 (svcE n s E))∧Sh (fun k=>k=b) w w'∧Hid (svcE n s E=0→Wk L w' b { n with sv:=X }):=by
 have HWK:Hid (Wk L w b n):=h
 have hbl:=h.lt
 obtain ⟨vm,vr,vs,vg,vw,h1,h2,h3,h4⟩:=h
 have HIS:Hid (NdIs w n vm vr vs vg vw):=h2.is h4
 obtain ⟨as_,cs,hvs,_⟩:=own_slice h2.sv
 subst hvs
 have HPT:Hid (∀ W,Below w.heap.size w W→Calls Tryz.prog 135 #[.slice as_ n.sv.length cs,svA s] W fun e w'=>∃ p l c,e=.returned (.tuple #[.slice p l c,.int .i64 E])∧Hid (Sv.Own W.heap.size w' (.slice p l c) X)∧Below W.heap.size W w'):=fun W hW=>HC0 _ W (HIS.out.sv.below hW)
 have HFIN:Hid (∀ W w1 a k c,Below w.heap.size w W→Below W.heap.size W w1→Sv.Own W.heap.size w1 (.slice a k c) X→Wk L (w1.setCell ⟨b,4,none⟩ (.slice a k c)) b { n with sv:=X }):=fun W w1 a k c hW h1 h2=>
  (HWK.out.below hW).set_sv (by have:=hW.size;omega) h1 h2 hX
 have HX:Hid (∀ W,Below w.heap.size w W→W.heap[b]?=some (.cells (ndA n vm vr (.slice as_ n.sv.length cs) vg vw) 72 (0,0))):=fun W hW=>(hW.block _ hbl).trans h1
 have HE:Hid (svcE n s E=if s.node=n.name then E else 4):=rfl
 generalize svcE n s E=res at *
 generalize hkr:n.sv.length=kr at *
 clear hkr h1 h2 h3 h4 hX HC0
 obtain ⟨s0,s1,s2,s3,s4,s5,s6,s7,s8⟩:=s
 simp only [svA] at HPT HE ⊢
 obtain ⟨W2,hW2⟩:∃ W2,W2=w.alloc (.cells #[.string s0,.string s1,.string s2,.string s3,.int .i64 s4,.int .i64 s5,.bool s6,.int .i64 s7,.bool s8] 62):=⟨_,rfl⟩
 have hb2:Below w.heap.size w W2:=by rw [hW2];exact (Below.refl _ _).alloc (Nat.le_refl _) _
 have HB2:Hid (Below w.heap.size w W2):=hb2
 have hg2:W2.heap[w.heap.size]?=some (.cells #[.string s0,.string s1,.string s2,.string s3,.int .i64 s4,.int .i64 s5,.bool s6,.int .i64 s7,.bool s8] 62 (0,0)):=by rw [hW2];exact heap_alloc_new w _
 have x0:W2.cell? ⟨w.heap.size,0,none⟩=some (.string s0):=cellsAt hg2 0
 have x1:W2.cell? ⟨w.heap.size,1,none⟩=some (.string s1):=cellsAt hg2 1
 have x2:W2.cell? ⟨w.heap.size,2,none⟩=some (.string s2):=cellsAt hg2 2
 have x3:W2.cell? ⟨w.heap.size,3,none⟩=some (.string s3):=cellsAt hg2 3
 have x4:W2.cell? ⟨w.heap.size,4,none⟩=some (.int .i64 s4):=cellsAt hg2 4
 have x5:W2.cell? ⟨w.heap.size,5,none⟩=some (.int .i64 s5):=cellsAt hg2 5
 have x6:W2.cell? ⟨w.heap.size,6,none⟩=some (.bool s6):=cellsAt hg2 6
 have x7:W2.cell? ⟨w.heap.size,7,none⟩=some (.int .i64 s7):=cellsAt hg2 7
 have x8:W2.cell? ⟨w.heap.size,8,none⟩=some (.bool s8):=cellsAt hg2 8
 have y0:W2.cell? ⟨b,0,none⟩=some (.string n.name):=cellsAt (HX.out W2 hb2) 0
 have y3:W2.cell? ⟨b,4,none⟩=some (.slice as_ kr cs):=cellsAt (HX.out W2 hb2) 4
 have hb2':b < W2.heap.size:=by have:=HB2.out.size;omega
 go_enter Tryz.func84,Tryz.ntmps84
 go_upto_region 1 with fail
 rw [← hW2]
 clear hW2 hb2 hg2
 by_cases hnm:s0=n.name
 ·have HR:Hid (res=E):=HE.out.trans (if_pos hnm)
  have hq:(s0.toList == n.name.toList)=true:=by rw [hnm];simp
  have hq2:s0.toList=n.name.toList:=by rw [hnm]
  clear HE hnm
  go_quiet (fail)
  go_wp2_with fail
  generalize hV:W2.drewN _=V
  have HBV:Hid (Below w.heap.size w V):=by rw [← hV];exact below_drewN HB2.out _
  have u0:V.cell? ⟨w.heap.size,0,none⟩=some (.string s0):=by rw [← hV];exact x0
  have u1:V.cell? ⟨w.heap.size,1,none⟩=some (.string s1):=by rw [← hV];exact x1
  have u2:V.cell? ⟨w.heap.size,2,none⟩=some (.string s2):=by rw [← hV];exact x2
  have u3:V.cell? ⟨w.heap.size,3,none⟩=some (.string s3):=by rw [← hV];exact x3
  have u4:V.cell? ⟨w.heap.size,4,none⟩=some (.int .i64 s4):=by rw [← hV];exact x4
  have u5:V.cell? ⟨w.heap.size,5,none⟩=some (.int .i64 s5):=by rw [← hV];exact x5
  have u6:V.cell? ⟨w.heap.size,6,none⟩=some (.bool s6):=by rw [← hV];exact x6
  have u7:V.cell? ⟨w.heap.size,7,none⟩=some (.int .i64 s7):=by rw [← hV];exact x7
  have u8:V.cell? ⟨w.heap.size,8,none⟩=some (.bool s8):=by rw [← hV];exact x8
  have v3:V.cell? ⟨b,4,none⟩=some (.slice as_ kr cs):=by rw [← hV];exact y3
  have hbv:b < V.heap.size:=by rw [← hV];exact hb2'
  clear hV x0 x1 x2 x3 x4 x5 x6 x7 x8 y0 y3 hb2' HB2
  go_region_with (first | (go_at_call 135;refine (HPT.out _ HBV.out.drew).mono ?_;rintro e w3 ⟨a,k,c,rfl,ho3,hb3⟩;have HB3:Hid (Below V.heap.size V w3):=(Below.refl V.heap.size V).drew.trans hb3;have HO3:Hid (Wk L (w3.setCell ⟨b,4,none⟩ (.slice a k c)) b { n with sv:=X }):=HFIN.out _ _ a k c HBV.out.drew hb3 ho3.out;have hgx:=HX.out w3 (HBV.out.trans (HB3.out.mono HBV.out.size));have z3:w3.cell? ⟨b,4,none⟩=some (.slice as_ kr cs):=cellsAt hgx 4;have zf:w3.frozen? ⟨b,4,none⟩=false:=frozen_of hgx 4;clear hb3 ho3 hgx))
  all_goals
   go_wp2_with fail
   go_ret
   exact ⟨ret_int HR.out.symm,((Sh.of HBV.out).next HB3.out).setCell (S:=fun k=>k=b) rfl _,fun _=>HO3.out⟩
 ·have HR:Hid (res=4):=HE.out.trans (if_neg hnm)
  have hq:(s0.toList == n.name.toList)=false:=by rw [beq_names,decide_eq_false hnm]
  clear HE hnm
  go_quiet (fail)
  go_wp2_with fail
  go_ret
  exact ⟨ret_int HR.out.symm,Sh.of (below_drewN HB2.out _),fun h=>by have:=HR.out.symm.trans h;cases this⟩
set_option maxHeartbeats 6400000 in
set_option maxRecDepth 100000 in
theorem wdrop_any (L b:Nat) (n:Nd) (t:ByteArray) (E:Int) (X:List Sv.Svc) (w:World) (h:Wk L w b n) (hL:L≤b) (hX:∀ x∈X,x.ok)
 (HC0:∀ v W,Sv.Sl W v n.sv→Calls Tryz.prog 136 #[v,.string n.name,.string t] W fun e w'=>∃ p l c,e=.returned (.tuple #[.slice p l c,.int .i64 E])∧Hid (Sv.Own W.heap.size w' (.slice p l c) X)∧Below W.heap.size W w') :
 Calls Tryz.prog 86 #[.pointer (some ⟨b,0,none⟩),.string t] w fun e w'=>e=.returned (.int .i64 E)∧Sh (fun k=>k=b) w w'∧Hid (E=0→Wk L w' b { n with sv:=X }):=by
 have HWK:Hid (Wk L w b n):=h
 have hbl:=h.lt
 obtain ⟨vm,vr,vs,vg,vw,h1,h2,h3,h4⟩:=h
 have HIS:Hid (NdIs w n vm vr vs vg vw):=h2.is h4
 obtain ⟨as_,cs,hvs,_⟩:=own_slice h2.sv
 subst hvs
 have HPT:Hid (∀ W,Below w.heap.size w W→Calls Tryz.prog 136 #[.slice as_ n.sv.length cs,.string n.name,.string t] W fun e w'=>∃ p l c,e=.returned (.tuple #[.slice p l c,.int .i64 E])∧Hid (Sv.Own W.heap.size w' (.slice p l c) X)∧Below W.heap.size W w'):=fun W hW=>HC0 _ W (HIS.out.sv.below hW)
 have HFIN:Hid (∀ W w1 a k c,Below w.heap.size w W→Below W.heap.size W w1→Sv.Own W.heap.size w1 (.slice a k c) X→Wk L (w1.setCell ⟨b,4,none⟩ (.slice a k c)) b { n with sv:=X }):=fun W w1 a k c hW h1 h2=>
  (HWK.out.below hW).set_sv (by have:=hW.size;omega) h1 h2 hX
 have HX:Hid (∀ W,Below w.heap.size w W→W.heap[b]?=some (.cells (ndA n vm vr (.slice as_ n.sv.length cs) vg vw) 72 (0,0))):=fun W hW=>(hW.block _ hbl).trans h1
 have y0:w.cell? ⟨b,0,none⟩=some (.string n.name):=cellsAt h1 0
 have y3:w.cell? ⟨b,4,none⟩=some (.slice as_ n.sv.length cs):=cellsAt h1 4
 generalize hkr:n.sv.length=kr at *
 clear hkr h1 h2 h3 h4 hX HC0
 have HBV:Hid (Below w.heap.size w w):=Below.refl _ _
 go_enter Tryz.func86,Tryz.ntmps86
 go_upto_region 1 with fail
 go_region_with (first | (go_at_call 136;refine (HPT.out _ HBV.out.drew).mono ?_;rintro e w3 ⟨a,k,c,rfl,ho3,hb3⟩;have HB3:Hid (Below w.heap.size w w3):=(Below.refl w.heap.size w).drew.trans hb3;have HO3:Hid (Wk L (w3.setCell ⟨b,4,none⟩ (.slice a k c)) b { n with sv:=X }):=HFIN.out _ _ a k c HBV.out.drew hb3 ho3.out;have hgx:=HX.out w3 (HBV.out.trans (HB3.out.mono HBV.out.size));have z3:w3.cell? ⟨b,4,none⟩=some (.slice as_ kr cs):=cellsAt hgx 4;have zf:w3.frozen? ⟨b,4,none⟩=false:=frozen_of hgx 4;clear hb3 ho3 hgx))
 all_goals
  go_wp2_with fail
  go_ret
  exact ⟨rfl,((Sh.of HBV.out).next HB3.out).setCell (S:=fun k=>k=b) rfl _,fun _=>HO3.out⟩
set_option maxHeartbeats 6400000 in
set_option maxRecDepth 100000 in
theorem wopen_any (L b:Nat) (n:Nd) (ad:Int) (E:Int) (X:List Gw.Gwy) (w:World) (h:Wk L w b n) (hL:L≤b) (hX:∀ x∈X,x.ok)
 (HC0:∀ v W,Gw.Sl W v n.gw→Calls Tryz.prog 137 #[v,.string n.centre,.int .i64 ad] W fun e w'=>∃ p l c,e=.returned (.tuple #[.slice p l c,.int .i64 E])∧Hid (Gw.Own W.heap.size w' (.slice p l c) X)∧Below W.heap.size W w') :
 Calls Tryz.prog 88 #[.pointer (some ⟨b,0,none⟩),.int .i64 ad] w fun e w'=>e=.returned (.int .i64 E)∧Sh (fun k=>k=b) w w'∧Hid (E=0→Wk L w' b { n with gw:=X }):=by
 have HWK:Hid (Wk L w b n):=h
 have hbl:=h.lt
 obtain ⟨vm,vr,vs,vg,vw,h1,h2,h3,h4⟩:=h
 have HIS:Hid (NdIs w n vm vr vs vg vw):=h2.is h4
 obtain ⟨as_,cs,hvs,_⟩:=own_slice h2.gw
 subst hvs
 have HPT:Hid (∀ W,Below w.heap.size w W→Calls Tryz.prog 137 #[.slice as_ n.gw.length cs,.string n.centre,.int .i64 ad] W fun e w'=>∃ p l c,e=.returned (.tuple #[.slice p l c,.int .i64 E])∧Hid (Gw.Own W.heap.size w' (.slice p l c) X)∧Below W.heap.size W w'):=fun W hW=>HC0 _ W (HIS.out.gw.below hW)
 have HFIN:Hid (∀ W w1 a k c,Below w.heap.size w W→Below W.heap.size W w1→Gw.Own W.heap.size w1 (.slice a k c) X→Wk L (w1.setCell ⟨b,5,none⟩ (.slice a k c)) b { n with gw:=X }):=fun W w1 a k c hW h1 h2=>
  (HWK.out.below hW).set_gw (by have:=hW.size;omega) h1 h2 hX
 have HX:Hid (∀ W,Below w.heap.size w W→W.heap[b]?=some (.cells (ndA n vm vr vs (.slice as_ n.gw.length cs) vw) 72 (0,0))):=fun W hW=>(hW.block _ hbl).trans h1
 have y0:w.cell? ⟨b,1,none⟩=some (.string n.centre):=cellsAt h1 1
 have y3:w.cell? ⟨b,5,none⟩=some (.slice as_ n.gw.length cs):=cellsAt h1 5
 generalize hkr:n.gw.length=kr at *
 clear hkr h1 h2 h3 h4 hX HC0
 have HBV:Hid (Below w.heap.size w w):=Below.refl _ _
 go_enter Tryz.func88,Tryz.ntmps88
 go_upto_region 1 with fail
 go_region_with (first | (go_at_call 137;refine (HPT.out _ HBV.out.drew).mono ?_;rintro e w3 ⟨a,k,c,rfl,ho3,hb3⟩;have HB3:Hid (Below w.heap.size w w3):=(Below.refl w.heap.size w).drew.trans hb3;have HO3:Hid (Wk L (w3.setCell ⟨b,5,none⟩ (.slice a k c)) b { n with gw:=X }):=HFIN.out _ _ a k c HBV.out.drew hb3 ho3.out;have hgx:=HX.out w3 (HBV.out.trans (HB3.out.mono HBV.out.size));have z3:w3.cell? ⟨b,5,none⟩=some (.slice as_ kr cs):=cellsAt hgx 5;have zf:w3.frozen? ⟨b,5,none⟩=false:=frozen_of hgx 5;clear hb3 ho3 hgx))
 all_goals
  go_wp2_with fail
  go_ret
  exact ⟨rfl,((Sh.of HBV.out).next HB3.out).setCell (S:=fun k=>k=b) rfl _,fun _=>HO3.out⟩
set_option maxHeartbeats 6400000 in
set_option maxRecDepth 100000 in
theorem ended_any (t0 t1:ByteArray) (p2 p3 p4 p5 p11:Option Addr) (k2 c2 k3 c3 k4 c4 k5 c5 k11 c11:Nat) (i6 i7 i8 i9 i10:Int) (er:Int) (w:World) :
 Calls Tryz.prog 79 #[.agg #[.string t0,.string t1,.slice p2 k2 c2,.slice p3 k3 c3,.slice p4 k4 c4,.slice p5 k5 c5,.int .i64 i6,.int .i64 i7,.int .i64 i8,.int .i64 i9,.int .i64 i10,.slice p11 k11 c11],.int .i64 er] w fun e w'=>e=.returned (.tuple #[.agg (if er=0 then (#[.string t0,.string t1,.slice p2 k2 c2,.slice p3 k3 c3,.slice p4 k4 c4,.slice p5 k5 c5,.int .i64 i6,.int .i64 i7,.int .i64 i8,.int .i64 i9,.int .i64 i10,.slice p11 k11 c11]:Array Value) else #[.string ⟨#[]⟩,.string ⟨#[]⟩,.slice none 0 0,.slice none 0 0,.slice none 0 0,.slice none 0 0,.int .i64 0,.int .i64 0,.int .i64 0,.int .i64 0,.int .i64 0,.slice none 0 0]),.int .i64 er])∧Below w.heap.size w w':=by
 have HBB:Hid (∀ A B,Below w.heap.size w ((w.alloc A).alloc B)):=fun A B=>((Below.refl w.heap.size w).alloc (Nat.le_refl _) _).alloc (by simp) _
 by_cases he:er=0
 ·have hE:(er != 0)=false:=by simp [he]
  have HIF:Hid ((if er=0 then (#[.string t0,.string t1,.slice p2 k2 c2,.slice p3 k3 c3,.slice p4 k4 c4,.slice p5 k5 c5,.int .i64 i6,.int .i64 i7,.int .i64 i8,.int .i64 i9,.int .i64 i10,.slice p11 k11 c11]:Array Value) else #[.string ⟨#[]⟩,.string ⟨#[]⟩,.slice none 0 0,.slice none 0 0,.slice none 0 0,.slice none 0 0,.int .i64 0,.int .i64 0,.int .i64 0,.int .i64 0,.int .i64 0,.slice none 0 0])=#[.string t0,.string t1,.slice p2 k2 c2,.slice p3 k3 c3,.slice p4 k4 c4,.slice p5 k5 c5,.int .i64 i6,.int .i64 i7,.int .i64 i8,.int .i64 i9,.int .i64 i10,.slice p11 k11 c11]):=if_pos he
  rw [HIF.out]
  clear he
  go_enter Tryz.func79,Tryz.ntmps79
  go_wp2_with fail
  refine bodyPost_ret (v:=.tuple #[.agg #[.string t0,.string t1,.slice p2 k2 c2,.slice p3 k3 c3,.slice p4 k4 c4,.slice p5 k5 c5,.int .i64 i6,.int .i64 i7,.int .i64 i8,.int .i64 i9,.int .i64 i10,.slice p11 k11 c11],.int .i64 er]) ?_ rfl ?_
  ·simp [results,Tryz.results79,go_sem]
  ·exact ⟨rfl,HBB.out _ _⟩
 ·have hE:(er != 0)=true:=by simpa using he
  have HIF:Hid ((if er=0 then (#[.string t0,.string t1,.slice p2 k2 c2,.slice p3 k3 c3,.slice p4 k4 c4,.slice p5 k5 c5,.int .i64 i6,.int .i64 i7,.int .i64 i8,.int .i64 i9,.int .i64 i10,.slice p11 k11 c11]:Array Value) else #[.string ⟨#[]⟩,.string ⟨#[]⟩,.slice none 0 0,.slice none 0 0,.slice none 0 0,.slice none 0 0,.int .i64 0,.int .i64 0,.int .i64 0,.int .i64 0,.int .i64 0,.slice none 0 0])=#[.string ⟨#[]⟩,.string ⟨#[]⟩,.slice none 0 0,.slice none 0 0,.slice none 0 0,.slice none 0 0,.int .i64 0,.int .i64 0,.int .i64 0,.int .i64 0,.int .i64 0,.slice none 0 0]):=if_neg he
  rw [HIF.out]
  clear he
  go_enter Tryz.func79,Tryz.ntmps79
  go_wp2_with fail
  refine bodyPost_ret (v:=.tuple #[.agg #[.string ⟨#[]⟩,.string ⟨#[]⟩,.slice none 0 0,.slice none 0 0,.slice none 0 0,.slice none 0 0,.int .i64 0,.int .i64 0,.int .i64 0,.int .i64 0,.int .i64 0,.slice none 0 0],.int .i64 er]) ?_ rfl ?_
  ·simp [results,Tryz.results79,go_sem]
  ·exact ⟨rfl,HBB.out _ _⟩
set_option maxHeartbeats 12800000 in
set_option maxRecDepth 100000 in
theorem dropService_is (n:Nd) (t:ByteArray) (E:Int) (X:List Sv.Svc) (A:Array Value) (w:World) (h:IsNd w n A)
 (HC0:∀ v W,Sv.Sl W v n.sv→Calls Tryz.prog 90 #[v,.string n.name,.string t] W fun e w'=>∃ a k c,e=.returned (.tuple #[.slice a k c,.int .i64 E])∧Hid (E=0→Sv.Sl w' (.slice a k c) X)∧Below W.heap.size W w') :
 Calls Tryz.prog 37 #[.agg A,.string t] w fun e w'=>∃ C,e=.returned (.tuple #[.agg C,.int .i64 (E)])∧Res w' (E) { n with sv:=X } C∧Below w.heap.size w w':=by
 have HN0:Hid (IsNd w n A):=h
 obtain ⟨vm,vr,vs,vg,vw,hA,hi⟩:=h
 have HIN:Hid (NdIs w n vm vr vs vg vw):=hi
 obtain ⟨t0a,t1a,p2a,k2a,c2a,p3a,k3a,c3a,p4a,k4a,c4a,p5a,k5a,c5a,i6a,i7a,i8a,i9a,i10a,p11a,k11a,c11a,rfl⟩:=HN0.out.letters
 simp only [ndV,ndA,Array.mk.injEq,List.cons.injEq,and_true] at hA
 obtain ⟨e0,e1,e2,e3,e4,e5,e6,e7,e8,e9,e10,e11⟩:=hA
 subst e2 e3 e4 e5 e11
 injection e0 with e0
 injection e1 with e1
 injection e6 with _ e6
 injection e7 with _ e7
 injection e8 with _ e8
 injection e9 with _ e9
 injection e10 with _ e10
 simp only [ndV]
 have HCL:Hid (∀ W,Below w.heap.size w W→Calls Tryz.prog 90 #[.slice p4a k4a c4a,.string n.name,.string t] W fun e w'=>∃ a k c,e=.returned (.tuple #[.slice a k c,.int .i64 E])∧Hid (E=0→Sv.Sl w' (.slice a k c) X)∧Below W.heap.size W w'):=fun W hW=>HC0 _ W (hi.sv.below hW)
 try rw [← e0] at HCL
 try rw [← e1] at HCL
 have HFI:Hid (∀ W va vk vc,Below w.heap.size w W→Sv.Sl W (.slice va vk vc) X→IsNd W { n with sv:=X } #[.string t0a,.string t1a,.slice p2a k2a c2a,.slice p3a k3a c3a,.slice va vk vc,.slice p5a k5a c5a,.int .i64 i6a,.int .i64 i7a,.int .i64 i8a,.int .i64 i9a,.int .i64 i10a,.slice p11a k11a c11a]):=fun W va vk vc hW hs=>by
  have hI:=hi.below hW
  refine ⟨.slice p2a k2a c2a,.slice p3a k3a c3a,.slice va vk vc,.slice p5a k5a c5a,.slice p11a k11a c11a,?_,?_⟩
  ·simp only [ndA,e0,e1,e6,e7,e8,e9,e10]
  ·exact ⟨hI.ms,hI.rs,hs,hI.gw,hI.wh,hI.name,hI.centre⟩
 clear hi HC0 HN0 HIN
 clear e0 e1 e6 e7 e8 e9 e10
 obtain ⟨W0,hW0⟩:∃ W0,W0=(w.alloc (.cells #[.string t0a,.string t1a,.slice p2a k2a c2a,.slice p3a k3a c3a,.slice p4a k4a c4a,.slice p5a k5a c5a,.int .i64 i6a,.int .i64 i7a,.int .i64 i8a,.int .i64 i9a,.int .i64 i10a,.slice p11a k11a c11a] 30)).alloc (.cells #[.string ⟨#[]⟩,.string ⟨#[]⟩,.slice none 0 0,.slice none 0 0,.slice none 0 0,.slice none 0 0,.int .i64 0,.int .i64 0,.int .i64 0,.int .i64 0,.int .i64 0,.slice none 0 0] 30):=⟨_,rfl⟩
 have hb0:Below w.heap.size w W0:=by rw [hW0];exact ((Below.refl _ _).alloc (Nat.le_refl _) _).alloc (by simp) _
 have hg0:W0.heap[w.heap.size]?=some (.cells #[.string t0a,.string t1a,.slice p2a k2a c2a,.slice p3a k3a c3a,.slice p4a k4a c4a,.slice p5a k5a c5a,.int .i64 i6a,.int .i64 i7a,.int .i64 i8a,.int .i64 i9a,.int .i64 i10a,.slice p11a k11a c11a] 30 (0,0)):=by
  rw [hW0,Below.heap_alloc _ _ _ (by simp<;>omega)];exact heap_alloc_new w _
 have hz0:W0.heap[w.heap.size+1]?=some (.cells #[.string ⟨#[]⟩,.string ⟨#[]⟩,.slice none 0 0,.slice none 0 0,.slice none 0 0,.slice none 0 0,.int .i64 0,.int .i64 0,.int .i64 0,.int .i64 0,.int .i64 0,.slice none 0 0] 30 (0,0)):=by
  have h:=heap_alloc_new (w.alloc (.cells #[.string t0a,.string t1a,.slice p2a k2a c2a,.slice p3a k3a c3a,.slice p4a k4a c4a,.slice p5a k5a c5a,.int .i64 i6a,.int .i64 i7a,.int .i64 i8a,.int .i64 i9a,.int .i64 i10a,.slice p11a k11a c11a] 30)) (.cells #[.string ⟨#[]⟩,.string ⟨#[]⟩,.slice none 0 0,.slice none 0 0,.slice none 0 0,.slice none 0 0,.int .i64 0,.int .i64 0,.int .i64 0,.int .i64 0,.int .i64 0,.slice none 0 0] 30)
  rw [hW0];simpa using h
 have hs0:w.heap.size+1 < W0.heap.size:=by rw [hW0];simp
 have a0:W0.cell? ⟨w.heap.size,0,none⟩=some (.string t0a):=cellsAt hg0 0
 have a1:W0.cell? ⟨w.heap.size,1,none⟩=some (.string t1a):=cellsAt hg0 1
 have a2:W0.cell? ⟨w.heap.size,2,none⟩=some (.slice p2a k2a c2a):=cellsAt hg0 2
 have a3:W0.cell? ⟨w.heap.size,3,none⟩=some (.slice p3a k3a c3a):=cellsAt hg0 3
 have a4:W0.cell? ⟨w.heap.size,4,none⟩=some (.slice p4a k4a c4a):=cellsAt hg0 4
 have a5:W0.cell? ⟨w.heap.size,5,none⟩=some (.slice p5a k5a c5a):=cellsAt hg0 5
 have a6:W0.cell? ⟨w.heap.size,6,none⟩=some (.int .i64 i6a):=cellsAt hg0 6
 have a7:W0.cell? ⟨w.heap.size,7,none⟩=some (.int .i64 i7a):=cellsAt hg0 7
 have a8:W0.cell? ⟨w.heap.size,8,none⟩=some (.int .i64 i8a):=cellsAt hg0 8
 have a9:W0.cell? ⟨w.heap.size,9,none⟩=some (.int .i64 i9a):=cellsAt hg0 9
 have a10:W0.cell? ⟨w.heap.size,10,none⟩=some (.int .i64 i10a):=cellsAt hg0 10
 have a11:W0.cell? ⟨w.heap.size,11,none⟩=some (.slice p11a k11a c11a):=cellsAt hg0 11
 have z0:W0.cell? ⟨w.heap.size+1,0,none⟩=some (.string ⟨#[]⟩):=cellsAt hz0 0
 have zz0:W0.frozen? ⟨w.heap.size+1,0,none⟩=false:=frozen_of hz0 0
 have z1:W0.cell? ⟨w.heap.size+1,1,none⟩=some (.string ⟨#[]⟩):=cellsAt hz0 1
 have zz1:W0.frozen? ⟨w.heap.size+1,1,none⟩=false:=frozen_of hz0 1
 have z2:W0.cell? ⟨w.heap.size+1,2,none⟩=some (.slice none 0 0):=cellsAt hz0 2
 have zz2:W0.frozen? ⟨w.heap.size+1,2,none⟩=false:=frozen_of hz0 2
 have z3:W0.cell? ⟨w.heap.size+1,3,none⟩=some (.slice none 0 0):=cellsAt hz0 3
 have zz3:W0.frozen? ⟨w.heap.size+1,3,none⟩=false:=frozen_of hz0 3
 have z4:W0.cell? ⟨w.heap.size+1,4,none⟩=some (.slice none 0 0):=cellsAt hz0 4
 have zz4:W0.frozen? ⟨w.heap.size+1,4,none⟩=false:=frozen_of hz0 4
 have z5:W0.cell? ⟨w.heap.size+1,5,none⟩=some (.slice none 0 0):=cellsAt hz0 5
 have zz5:W0.frozen? ⟨w.heap.size+1,5,none⟩=false:=frozen_of hz0 5
 have z6:W0.cell? ⟨w.heap.size+1,6,none⟩=some (.int .i64 0):=cellsAt hz0 6
 have zz6:W0.frozen? ⟨w.heap.size+1,6,none⟩=false:=frozen_of hz0 6
 have z7:W0.cell? ⟨w.heap.size+1,7,none⟩=some (.int .i64 0):=cellsAt hz0 7
 have zz7:W0.frozen? ⟨w.heap.size+1,7,none⟩=false:=frozen_of hz0 7
 have z8:W0.cell? ⟨w.heap.size+1,8,none⟩=some (.int .i64 0):=cellsAt hz0 8
 have zz8:W0.frozen? ⟨w.heap.size+1,8,none⟩=false:=frozen_of hz0 8
 have z9:W0.cell? ⟨w.heap.size+1,9,none⟩=some (.int .i64 0):=cellsAt hz0 9
 have zz9:W0.frozen? ⟨w.heap.size+1,9,none⟩=false:=frozen_of hz0 9
 have z10:W0.cell? ⟨w.heap.size+1,10,none⟩=some (.int .i64 0):=cellsAt hz0 10
 have zz10:W0.frozen? ⟨w.heap.size+1,10,none⟩=false:=frozen_of hz0 10
 have z11:W0.cell? ⟨w.heap.size+1,11,none⟩=some (.slice none 0 0):=cellsAt hz0 11
 have zz11:W0.frozen? ⟨w.heap.size+1,11,none⟩=false:=frozen_of hz0 11
 have HB0:Hid (Below w.heap.size w W0):=hb0
 have HG0:Hid (W0.heap[w.heap.size]?=some (.cells #[.string t0a,.string t1a,.slice p2a k2a c2a,.slice p3a k3a c3a,.slice p4a k4a c4a,.slice p5a k5a c5a,.int .i64 i6a,.int .i64 i7a,.int .i64 i8a,.int .i64 i9a,.int .i64 i10a,.slice p11a k11a c11a] 30 (0,0))):=hg0
 have HZ0:Hid (W0.heap[w.heap.size+1]?=some (.cells #[.string ⟨#[]⟩,.string ⟨#[]⟩,.slice none 0 0,.slice none 0 0,.slice none 0 0,.slice none 0 0,.int .i64 0,.int .i64 0,.int .i64 0,.int .i64 0,.int .i64 0,.slice none 0 0] 30 (0,0))):=hz0
 clear hb0 hg0 hz0
 go_enter Tryz.func37,Tryz.ntmps37
 go_upto_region 1 with fail
 rw [← hW0]
 clear hW0
 go_wp2_with fail
 refine (HCL.out W0 HB0.out).mono ?_
 rintro e w1 ⟨va,vk,vc,rfl,HV,hb1⟩
 have hg1:w1.heap[w.heap.size]?=some (.cells #[.string t0a,.string t1a,.slice p2a k2a c2a,.slice p3a k3a c3a,.slice p4a k4a c4a,.slice p5a k5a c5a,.int .i64 i6a,.int .i64 i7a,.int .i64 i8a,.int .i64 i9a,.int .i64 i10a,.slice p11a k11a c11a] 30 (0,0)):=(hb1.block _ (by omega)).trans HG0.out
 have hz1:w1.heap[w.heap.size+1]?=some (.cells #[.string ⟨#[]⟩,.string ⟨#[]⟩,.slice none 0 0,.slice none 0 0,.slice none 0 0,.slice none 0 0,.int .i64 0,.int .i64 0,.int .i64 0,.int .i64 0,.int .i64 0,.slice none 0 0] 30 (0,0)):=(hb1.block _ hs0).trans HZ0.out
 have hbw1:Below w.heap.size w w1:=HB0.out.trans (hb1.mono HB0.out.size)
 have f4:w1.cell? ⟨w.heap.size,4,none⟩=some (.slice p4a k4a c4a):=cellsAt hg1 4
 have ff4:w1.frozen? ⟨w.heap.size,4,none⟩=false:=frozen_of hg1 4
 obtain ⟨W2,hW2⟩:∃ W2,W2=w1.setCell ⟨w.heap.size,4,none⟩ (.slice va vk vc):=⟨_,rfl⟩
 have hg2:W2.heap[w.heap.size]?=some (.cells #[.string t0a,.string t1a,.slice p2a k2a c2a,.slice p3a k3a c3a,.slice va vk vc,.slice p5a k5a c5a,.int .i64 i6a,.int .i64 i7a,.int .i64 i8a,.int .i64 i9a,.int .i64 i10a,.slice p11a k11a c11a] 30 (0,0)):=by rw [hW2];exact Joins.block_setCell (i:=4) hg1 _
 have hz2:W2.heap[w.heap.size+1]?=some (.cells #[.string ⟨#[]⟩,.string ⟨#[]⟩,.slice none 0 0,.slice none 0 0,.slice none 0 0,.slice none 0 0,.int .i64 0,.int .i64 0,.int .i64 0,.int .i64 0,.int .i64 0,.slice none 0 0] 30 (0,0)):=by rw [hW2];exact (Below.heap_setCell _ _ _ _ (by simp only;omega)).trans hz1
 have hb2:Below w.heap.size w W2:=by rw [hW2];exact hbw1.setCell (p:=⟨w.heap.size,4,none⟩) (Nat.le_refl _) _
 have hs2:w.heap.size+1 < W2.heap.size:=(Array.getElem?_eq_some_iff.1 hz2).1
 have HI2:Hid (E=0→IsNd W2 { n with sv:=X } #[.string t0a,.string t1a,.slice p2a k2a c2a,.slice p3a k3a c3a,.slice va vk vc,.slice p5a k5a c5a,.int .i64 i6a,.int .i64 i7a,.int .i64 i8a,.int .i64 i9a,.int .i64 i10a,.slice p11a k11a c11a]):=fun h=>HFI.out W2 va vk vc hb2 (by
  have hsh:Sh (fun k=>k=w.heap.size) w1 W2:=by rw [hW2];exact (Sh.refl _ _).setCell (S:=fun k=>k=w.heap.size) rfl _
  exact svl_sh1 (HV.out h) (NBox.of hg1) hsh)
 have HB2:Hid (Below w.heap.size w W2):=hb2
 have HZ2:Hid (W2.heap[w.heap.size+1]?=some (.cells #[.string ⟨#[]⟩,.string ⟨#[]⟩,.slice none 0 0,.slice none 0 0,.slice none 0 0,.slice none 0 0,.int .i64 0,.int .i64 0,.int .i64 0,.int .i64 0,.int .i64 0,.slice none 0 0] 30 (0,0))):=hz2
 clear a0 a1 a2 a3 a4 a5 a6 a7 a8 a9 a10 a11 z0 zz0 z1 zz1 z2 zz2 z3 zz3 z4 zz4 z5 zz5 z6 zz6 z7 zz7 z8 zz8 z9 zz9 z10 zz10 z11 zz11
 have a0:W2.cell? ⟨w.heap.size,0,none⟩=some (.string t0a):=cellsAt hg2 0
 have a1:W2.cell? ⟨w.heap.size,1,none⟩=some (.string t1a):=cellsAt hg2 1
 have a2:W2.cell? ⟨w.heap.size,2,none⟩=some (.slice p2a k2a c2a):=cellsAt hg2 2
 have a3:W2.cell? ⟨w.heap.size,3,none⟩=some (.slice p3a k3a c3a):=cellsAt hg2 3
 have a4:W2.cell? ⟨w.heap.size,4,none⟩=some (.slice va vk vc):=cellsAt hg2 4
 have a5:W2.cell? ⟨w.heap.size,5,none⟩=some (.slice p5a k5a c5a):=cellsAt hg2 5
 have a6:W2.cell? ⟨w.heap.size,6,none⟩=some (.int .i64 i6a):=cellsAt hg2 6
 have a7:W2.cell? ⟨w.heap.size,7,none⟩=some (.int .i64 i7a):=cellsAt hg2 7
 have a8:W2.cell? ⟨w.heap.size,8,none⟩=some (.int .i64 i8a):=cellsAt hg2 8
 have a9:W2.cell? ⟨w.heap.size,9,none⟩=some (.int .i64 i9a):=cellsAt hg2 9
 have a10:W2.cell? ⟨w.heap.size,10,none⟩=some (.int .i64 i10a):=cellsAt hg2 10
 have a11:W2.cell? ⟨w.heap.size,11,none⟩=some (.slice p11a k11a c11a):=cellsAt hg2 11
 clear hg1 hz1 hbw1 hb1 hg2 hz2 hb2 HV
 go_upto_region 3 with fail
 rw [← hW2]
 clear hW2 f4 ff4
 go_wp2_with fail
 refine (ended_any t0a t1a p2a p3a va p5a p11a k2a c2a k3a c3a vk vc k5a c5a k11a c11a i6a i7a i8a i9a i10a E W2).mono ?_
 rintro e w3 ⟨rfl,hb3⟩
 have hz3:w3.heap[w.heap.size+1]?=some (.cells #[.string ⟨#[]⟩,.string ⟨#[]⟩,.slice none 0 0,.slice none 0 0,.slice none 0 0,.slice none 0 0,.int .i64 0,.int .i64 0,.int .i64 0,.int .i64 0,.int .i64 0,.slice none 0 0] 30 (0,0)):=(hb3.block _ hs2).trans HZ2.out
 have hbw3:Below w.heap.size w w3:=HB2.out.trans (hb3.mono HB2.out.size)
 have hR3:Res w3 E { n with sv:=X } (if E=0 then (#[.string t0a,.string t1a,.slice p2a k2a c2a,.slice p3a k3a c3a,.slice va vk vc,.slice p5a k5a c5a,.int .i64 i6a,.int .i64 i7a,.int .i64 i8a,.int .i64 i9a,.int .i64 i10a,.slice p11a k11a c11a]:Array Value) else #[.string ⟨#[]⟩,.string ⟨#[]⟩,.slice none 0 0,.slice none 0 0,.slice none 0 0,.slice none 0 0,.int .i64 0,.int .i64 0,.int .i64 0,.int .i64 0,.int .i64 0,.slice none 0 0]):=by
  by_cases he:E=0
  ·rw [if_pos he];exact .inr ⟨he,(HI2.out he).below hb3⟩
  ·rw [if_neg he];exact .inl ⟨he,rfl⟩
 clear hb3 a0 a1 a2 a3 a4 a5 a6 a7 a8 a9 a10 a11
 generalize (if E=0 then (#[.string t0a,.string t1a,.slice p2a k2a c2a,.slice p3a k3a c3a,.slice va vk vc,.slice p5a k5a c5a,.int .i64 i6a,.int .i64 i7a,.int .i64 i8a,.int .i64 i9a,.int .i64 i10a,.slice p11a k11a c11a]:Array Value) else #[.string ⟨#[]⟩,.string ⟨#[]⟩,.slice none 0 0,.slice none 0 0,.slice none 0 0,.slice none 0 0,.int .i64 0,.int .i64 0,.int .i64 0,.int .i64 0,.int .i64 0,.slice none 0 0])=C3 at *
 obtain ⟨t0r,t1r,p2r,k2r,c2r,p3r,k3r,c3r,p4r,k4r,c4r,p5r,k5r,c5r,i6r,i7r,i8r,i9r,i10r,p11r,k11r,c11r,rfl⟩:=hR3.is.letters
 simp only [ndV] at hR3 ⊢
 have z0:w3.cell? ⟨w.heap.size+1,0,none⟩=some (.string ⟨#[]⟩):=cellsAt hz3 0
 have zz0:w3.frozen? ⟨w.heap.size+1,0,none⟩=false:=frozen_of hz3 0
 have z1:w3.cell? ⟨w.heap.size+1,1,none⟩=some (.string ⟨#[]⟩):=cellsAt hz3 1
 have zz1:w3.frozen? ⟨w.heap.size+1,1,none⟩=false:=frozen_of hz3 1
 have z2:w3.cell? ⟨w.heap.size+1,2,none⟩=some (.slice none 0 0):=cellsAt hz3 2
 have zz2:w3.frozen? ⟨w.heap.size+1,2,none⟩=false:=frozen_of hz3 2
 have z3:w3.cell? ⟨w.heap.size+1,3,none⟩=some (.slice none 0 0):=cellsAt hz3 3
 have zz3:w3.frozen? ⟨w.heap.size+1,3,none⟩=false:=frozen_of hz3 3
 have z4:w3.cell? ⟨w.heap.size+1,4,none⟩=some (.slice none 0 0):=cellsAt hz3 4
 have zz4:w3.frozen? ⟨w.heap.size+1,4,none⟩=false:=frozen_of hz3 4
 have z5:w3.cell? ⟨w.heap.size+1,5,none⟩=some (.slice none 0 0):=cellsAt hz3 5
 have zz5:w3.frozen? ⟨w.heap.size+1,5,none⟩=false:=frozen_of hz3 5
 have z6:w3.cell? ⟨w.heap.size+1,6,none⟩=some (.int .i64 0):=cellsAt hz3 6
 have zz6:w3.frozen? ⟨w.heap.size+1,6,none⟩=false:=frozen_of hz3 6
 have z7:w3.cell? ⟨w.heap.size+1,7,none⟩=some (.int .i64 0):=cellsAt hz3 7
 have zz7:w3.frozen? ⟨w.heap.size+1,7,none⟩=false:=frozen_of hz3 7
 have z8:w3.cell? ⟨w.heap.size+1,8,none⟩=some (.int .i64 0):=cellsAt hz3 8
 have zz8:w3.frozen? ⟨w.heap.size+1,8,none⟩=false:=frozen_of hz3 8
 have z9:w3.cell? ⟨w.heap.size+1,9,none⟩=some (.int .i64 0):=cellsAt hz3 9
 have zz9:w3.frozen? ⟨w.heap.size+1,9,none⟩=false:=frozen_of hz3 9
 have z10:w3.cell? ⟨w.heap.size+1,10,none⟩=some (.int .i64 0):=cellsAt hz3 10
 have zz10:w3.frozen? ⟨w.heap.size+1,10,none⟩=false:=frozen_of hz3 10
 have z11:w3.cell? ⟨w.heap.size+1,11,none⟩=some (.slice none 0 0):=cellsAt hz3 11
 have zz11:w3.frozen? ⟨w.heap.size+1,11,none⟩=false:=frozen_of hz3 11
 obtain ⟨W4,hW4⟩:∃ W4,W4=((((((((((((w3.setCell ⟨w.heap.size+1,0,none⟩ (.string t0r)).setCell ⟨w.heap.size+1,1,none⟩ (.string t1r)).setCell ⟨w.heap.size+1,2,none⟩ (.slice p2r k2r c2r)).setCell ⟨w.heap.size+1,3,none⟩ (.slice p3r k3r c3r)).setCell ⟨w.heap.size+1,4,none⟩ (.slice p4r k4r c4r)).setCell ⟨w.heap.size+1,5,none⟩ (.slice p5r k5r c5r)).setCell ⟨w.heap.size+1,6,none⟩ (.int .i64 i6r)).setCell ⟨w.heap.size+1,7,none⟩ (.int .i64 i7r)).setCell ⟨w.heap.size+1,8,none⟩ (.int .i64 i8r)).setCell ⟨w.heap.size+1,9,none⟩ (.int .i64 i9r)).setCell ⟨w.heap.size+1,10,none⟩ (.int .i64 i10r)).setCell ⟨w.heap.size+1,11,none⟩ (.slice p11r k11r c11r)):=⟨_,rfl⟩
 have hF4:W4=setAll (w.heap.size+1) [.string t0r,.string t1r,.slice p2r k2r c2r,.slice p3r k3r c3r,.slice p4r k4r c4r,.slice p5r k5r c5r,.int .i64 i6r,.int .i64 i7r,.int .i64 i8r,.int .i64 i9r,.int .i64 i10r,.slice p11r k11r c11r] 0 w3:=by rw [hW4];simp only [setAll,Nat.zero_add,Nat.reduceAdd]
 have hz4:W4.heap[w.heap.size+1]?=some (.cells #[.string t0r,.string t1r,.slice p2r k2r c2r,.slice p3r k3r c3r,.slice p4r k4r c4r,.slice p5r k5r c5r,.int .i64 i6r,.int .i64 i7r,.int .i64 i8r,.int .i64 i9r,.int .i64 i10r,.slice p11r k11r c11r] 30 (0,0)):=by rw [hF4];exact setAll12 hz3 _ _ _ _ _ _ _ _ _ _ _ _
 have HB4:Hid (Below w.heap.size w W4):=by rw [hF4];exact setAll_below (by omega) _ _ hbw3
 have HR4:Hid (Res W4 E { n with sv:=X } #[.string t0r,.string t1r,.slice p2r k2r c2r,.slice p3r k3r c3r,.slice p4r k4r c4r,.slice p5r k5r c5r,.int .i64 i6r,.int .i64 i7r,.int .i64 i8r,.int .i64 i9r,.int .i64 i10r,.slice p11r k11r c11r]):=by
  rcases hR3 with hR3 | ⟨h0,hR3⟩
  ·exact .inl hR3
  ·exact .inr ⟨h0,by rw [hF4];exact hR3.setAll (NBox.of hz3) _ _⟩
 go_wp2_with fail
 rw [← hW4]
 clear z0 zz0 z1 zz1 z2 zz2 z3 zz3 z4 zz4 z5 zz5 z6 zz6 z7 zz7 z8 zz8 z9 zz9 z10 zz10 z11 zz11 hF4 hW4 hR3 hz3 hbw3
 have z0:W4.cell? ⟨w.heap.size+1,0,none⟩=some (.string t0r):=cellsAt hz4 0
 have z1:W4.cell? ⟨w.heap.size+1,1,none⟩=some (.string t1r):=cellsAt hz4 1
 have z2:W4.cell? ⟨w.heap.size+1,2,none⟩=some (.slice p2r k2r c2r):=cellsAt hz4 2
 have z3:W4.cell? ⟨w.heap.size+1,3,none⟩=some (.slice p3r k3r c3r):=cellsAt hz4 3
 have z4:W4.cell? ⟨w.heap.size+1,4,none⟩=some (.slice p4r k4r c4r):=cellsAt hz4 4
 have z5:W4.cell? ⟨w.heap.size+1,5,none⟩=some (.slice p5r k5r c5r):=cellsAt hz4 5
 have z6:W4.cell? ⟨w.heap.size+1,6,none⟩=some (.int .i64 i6r):=cellsAt hz4 6
 have z7:W4.cell? ⟨w.heap.size+1,7,none⟩=some (.int .i64 i7r):=cellsAt hz4 7
 have z8:W4.cell? ⟨w.heap.size+1,8,none⟩=some (.int .i64 i8r):=cellsAt hz4 8
 have z9:W4.cell? ⟨w.heap.size+1,9,none⟩=some (.int .i64 i9r):=cellsAt hz4 9
 have z10:W4.cell? ⟨w.heap.size+1,10,none⟩=some (.int .i64 i10r):=cellsAt hz4 10
 have z11:W4.cell? ⟨w.heap.size+1,11,none⟩=some (.slice p11r k11r c11r):=cellsAt hz4 11
 refine bodyPost_ret (v:=.tuple #[.agg #[.string t0r,.string t1r,.slice p2r k2r c2r,.slice p3r k3r c3r,.slice p4r k4r c4r,.slice p5r k5r c5r,.int .i64 i6r,.int .i64 i7r,.int .i64 i8r,.int .i64 i9r,.int .i64 i10r,.slice p11r k11r c11r],.int .i64 E]) ?_ rfl ?_
 ·simp [results,Tryz.results37,go_sem,z0,z1,z2,z3,z4,z5,z6,z7,z8,z9,z10,z11]
 ·exact ⟨_,rfl,HR4.out,HB4.out⟩
set_option maxHeartbeats 12800000 in
set_option maxRecDepth 100000 in
theorem openGateway_is (n:Nd) (ad:Int) (E:Int) (X:List Gw.Gwy) (A:Array Value) (w:World) (h:IsNd w n A)
 (HC0:∀ v W,Gw.Sl W v n.gw→Calls Tryz.prog 91 #[v,.string n.centre,.int .i64 ad] W fun e w'=>∃ a k c,e=.returned (.tuple #[.slice a k c,.int .i64 E])∧Hid (E=0→Gw.Sl w' (.slice a k c) X)∧Below W.heap.size W w') :
 Calls Tryz.prog 38 #[.agg A,.int .i64 ad] w fun e w'=>∃ C,e=.returned (.tuple #[.agg C,.int .i64 (E)])∧Res w' (E) { n with gw:=X } C∧Below w.heap.size w w':=by
 have HN0:Hid (IsNd w n A):=h
 obtain ⟨vm,vr,vs,vg,vw,hA,hi⟩:=h
 have HIN:Hid (NdIs w n vm vr vs vg vw):=hi
 obtain ⟨t0a,t1a,p2a,k2a,c2a,p3a,k3a,c3a,p4a,k4a,c4a,p5a,k5a,c5a,i6a,i7a,i8a,i9a,i10a,p11a,k11a,c11a,rfl⟩:=HN0.out.letters
 simp only [ndV,ndA,Array.mk.injEq,List.cons.injEq,and_true] at hA
 obtain ⟨e0,e1,e2,e3,e4,e5,e6,e7,e8,e9,e10,e11⟩:=hA
 subst e2 e3 e4 e5 e11
 injection e0 with e0
 injection e1 with e1
 injection e6 with _ e6
 injection e7 with _ e7
 injection e8 with _ e8
 injection e9 with _ e9
 injection e10 with _ e10
 simp only [ndV]
 have HCL:Hid (∀ W,Below w.heap.size w W→Calls Tryz.prog 91 #[.slice p5a k5a c5a,.string n.centre,.int .i64 ad] W fun e w'=>∃ a k c,e=.returned (.tuple #[.slice a k c,.int .i64 E])∧Hid (E=0→Gw.Sl w' (.slice a k c) X)∧Below W.heap.size W w'):=fun W hW=>HC0 _ W (hi.gw.below hW)
 try rw [← e0] at HCL
 try rw [← e1] at HCL
 have HFI:Hid (∀ W va vk vc,Below w.heap.size w W→Gw.Sl W (.slice va vk vc) X→IsNd W { n with gw:=X } #[.string t0a,.string t1a,.slice p2a k2a c2a,.slice p3a k3a c3a,.slice p4a k4a c4a,.slice va vk vc,.int .i64 i6a,.int .i64 i7a,.int .i64 i8a,.int .i64 i9a,.int .i64 i10a,.slice p11a k11a c11a]):=fun W va vk vc hW hs=>by
  have hI:=hi.below hW
  refine ⟨.slice p2a k2a c2a,.slice p3a k3a c3a,.slice p4a k4a c4a,.slice va vk vc,.slice p11a k11a c11a,?_,?_⟩
  ·simp only [ndA,e0,e1,e6,e7,e8,e9,e10]
  ·exact ⟨hI.ms,hI.rs,hI.sv,hs,hI.wh,hI.name,hI.centre⟩
 clear hi HC0 HN0 HIN
 clear e0 e1 e6 e7 e8 e9 e10
 obtain ⟨W0,hW0⟩:∃ W0,W0=(w.alloc (.cells #[.string t0a,.string t1a,.slice p2a k2a c2a,.slice p3a k3a c3a,.slice p4a k4a c4a,.slice p5a k5a c5a,.int .i64 i6a,.int .i64 i7a,.int .i64 i8a,.int .i64 i9a,.int .i64 i10a,.slice p11a k11a c11a] 30)).alloc (.cells #[.string ⟨#[]⟩,.string ⟨#[]⟩,.slice none 0 0,.slice none 0 0,.slice none 0 0,.slice none 0 0,.int .i64 0,.int .i64 0,.int .i64 0,.int .i64 0,.int .i64 0,.slice none 0 0] 30):=⟨_,rfl⟩
 have hb0:Below w.heap.size w W0:=by rw [hW0];exact ((Below.refl _ _).alloc (Nat.le_refl _) _).alloc (by simp) _
 have hg0:W0.heap[w.heap.size]?=some (.cells #[.string t0a,.string t1a,.slice p2a k2a c2a,.slice p3a k3a c3a,.slice p4a k4a c4a,.slice p5a k5a c5a,.int .i64 i6a,.int .i64 i7a,.int .i64 i8a,.int .i64 i9a,.int .i64 i10a,.slice p11a k11a c11a] 30 (0,0)):=by
  rw [hW0,Below.heap_alloc _ _ _ (by simp<;>omega)];exact heap_alloc_new w _
 have hz0:W0.heap[w.heap.size+1]?=some (.cells #[.string ⟨#[]⟩,.string ⟨#[]⟩,.slice none 0 0,.slice none 0 0,.slice none 0 0,.slice none 0 0,.int .i64 0,.int .i64 0,.int .i64 0,.int .i64 0,.int .i64 0,.slice none 0 0] 30 (0,0)):=by
  have h:=heap_alloc_new (w.alloc (.cells #[.string t0a,.string t1a,.slice p2a k2a c2a,.slice p3a k3a c3a,.slice p4a k4a c4a,.slice p5a k5a c5a,.int .i64 i6a,.int .i64 i7a,.int .i64 i8a,.int .i64 i9a,.int .i64 i10a,.slice p11a k11a c11a] 30)) (.cells #[.string ⟨#[]⟩,.string ⟨#[]⟩,.slice none 0 0,.slice none 0 0,.slice none 0 0,.slice none 0 0,.int .i64 0,.int .i64 0,.int .i64 0,.int .i64 0,.int .i64 0,.slice none 0 0] 30)
  rw [hW0];simpa using h
 have hs0:w.heap.size+1 < W0.heap.size:=by rw [hW0];simp
 have a0:W0.cell? ⟨w.heap.size,0,none⟩=some (.string t0a):=cellsAt hg0 0
 have a1:W0.cell? ⟨w.heap.size,1,none⟩=some (.string t1a):=cellsAt hg0 1
 have a2:W0.cell? ⟨w.heap.size,2,none⟩=some (.slice p2a k2a c2a):=cellsAt hg0 2
 have a3:W0.cell? ⟨w.heap.size,3,none⟩=some (.slice p3a k3a c3a):=cellsAt hg0 3
 have a4:W0.cell? ⟨w.heap.size,4,none⟩=some (.slice p4a k4a c4a):=cellsAt hg0 4
 have a5:W0.cell? ⟨w.heap.size,5,none⟩=some (.slice p5a k5a c5a):=cellsAt hg0 5
 have a6:W0.cell? ⟨w.heap.size,6,none⟩=some (.int .i64 i6a):=cellsAt hg0 6
 have a7:W0.cell? ⟨w.heap.size,7,none⟩=some (.int .i64 i7a):=cellsAt hg0 7
 have a8:W0.cell? ⟨w.heap.size,8,none⟩=some (.int .i64 i8a):=cellsAt hg0 8
 have a9:W0.cell? ⟨w.heap.size,9,none⟩=some (.int .i64 i9a):=cellsAt hg0 9
 have a10:W0.cell? ⟨w.heap.size,10,none⟩=some (.int .i64 i10a):=cellsAt hg0 10
 have a11:W0.cell? ⟨w.heap.size,11,none⟩=some (.slice p11a k11a c11a):=cellsAt hg0 11
 have z0:W0.cell? ⟨w.heap.size+1,0,none⟩=some (.string ⟨#[]⟩):=cellsAt hz0 0
 have zz0:W0.frozen? ⟨w.heap.size+1,0,none⟩=false:=frozen_of hz0 0
 have z1:W0.cell? ⟨w.heap.size+1,1,none⟩=some (.string ⟨#[]⟩):=cellsAt hz0 1
 have zz1:W0.frozen? ⟨w.heap.size+1,1,none⟩=false:=frozen_of hz0 1
 have z2:W0.cell? ⟨w.heap.size+1,2,none⟩=some (.slice none 0 0):=cellsAt hz0 2
 have zz2:W0.frozen? ⟨w.heap.size+1,2,none⟩=false:=frozen_of hz0 2
 have z3:W0.cell? ⟨w.heap.size+1,3,none⟩=some (.slice none 0 0):=cellsAt hz0 3
 have zz3:W0.frozen? ⟨w.heap.size+1,3,none⟩=false:=frozen_of hz0 3
 have z4:W0.cell? ⟨w.heap.size+1,4,none⟩=some (.slice none 0 0):=cellsAt hz0 4
 have zz4:W0.frozen? ⟨w.heap.size+1,4,none⟩=false:=frozen_of hz0 4
 have z5:W0.cell? ⟨w.heap.size+1,5,none⟩=some (.slice none 0 0):=cellsAt hz0 5
 have zz5:W0.frozen? ⟨w.heap.size+1,5,none⟩=false:=frozen_of hz0 5
 have z6:W0.cell? ⟨w.heap.size+1,6,none⟩=some (.int .i64 0):=cellsAt hz0 6
 have zz6:W0.frozen? ⟨w.heap.size+1,6,none⟩=false:=frozen_of hz0 6
 have z7:W0.cell? ⟨w.heap.size+1,7,none⟩=some (.int .i64 0):=cellsAt hz0 7
 have zz7:W0.frozen? ⟨w.heap.size+1,7,none⟩=false:=frozen_of hz0 7
 have z8:W0.cell? ⟨w.heap.size+1,8,none⟩=some (.int .i64 0):=cellsAt hz0 8
 have zz8:W0.frozen? ⟨w.heap.size+1,8,none⟩=false:=frozen_of hz0 8
 have z9:W0.cell? ⟨w.heap.size+1,9,none⟩=some (.int .i64 0):=cellsAt hz0 9
 have zz9:W0.frozen? ⟨w.heap.size+1,9,none⟩=false:=frozen_of hz0 9
 have z10:W0.cell? ⟨w.heap.size+1,10,none⟩=some (.int .i64 0):=cellsAt hz0 10
 have zz10:W0.frozen? ⟨w.heap.size+1,10,none⟩=false:=frozen_of hz0 10
 have z11:W0.cell? ⟨w.heap.size+1,11,none⟩=some (.slice none 0 0):=cellsAt hz0 11
 have zz11:W0.frozen? ⟨w.heap.size+1,11,none⟩=false:=frozen_of hz0 11
 have HB0:Hid (Below w.heap.size w W0):=hb0
 have HG0:Hid (W0.heap[w.heap.size]?=some (.cells #[.string t0a,.string t1a,.slice p2a k2a c2a,.slice p3a k3a c3a,.slice p4a k4a c4a,.slice p5a k5a c5a,.int .i64 i6a,.int .i64 i7a,.int .i64 i8a,.int .i64 i9a,.int .i64 i10a,.slice p11a k11a c11a] 30 (0,0))):=hg0
 have HZ0:Hid (W0.heap[w.heap.size+1]?=some (.cells #[.string ⟨#[]⟩,.string ⟨#[]⟩,.slice none 0 0,.slice none 0 0,.slice none 0 0,.slice none 0 0,.int .i64 0,.int .i64 0,.int .i64 0,.int .i64 0,.int .i64 0,.slice none 0 0] 30 (0,0))):=hz0
 clear hb0 hg0 hz0
 go_enter Tryz.func38,Tryz.ntmps38
 go_upto_region 1 with fail
 rw [← hW0]
 clear hW0
 go_wp2_with fail
 refine (HCL.out W0 HB0.out).mono ?_
 rintro e w1 ⟨va,vk,vc,rfl,HV,hb1⟩
 have hg1:w1.heap[w.heap.size]?=some (.cells #[.string t0a,.string t1a,.slice p2a k2a c2a,.slice p3a k3a c3a,.slice p4a k4a c4a,.slice p5a k5a c5a,.int .i64 i6a,.int .i64 i7a,.int .i64 i8a,.int .i64 i9a,.int .i64 i10a,.slice p11a k11a c11a] 30 (0,0)):=(hb1.block _ (by omega)).trans HG0.out
 have hz1:w1.heap[w.heap.size+1]?=some (.cells #[.string ⟨#[]⟩,.string ⟨#[]⟩,.slice none 0 0,.slice none 0 0,.slice none 0 0,.slice none 0 0,.int .i64 0,.int .i64 0,.int .i64 0,.int .i64 0,.int .i64 0,.slice none 0 0] 30 (0,0)):=(hb1.block _ hs0).trans HZ0.out
 have hbw1:Below w.heap.size w w1:=HB0.out.trans (hb1.mono HB0.out.size)
 have f4:w1.cell? ⟨w.heap.size,5,none⟩=some (.slice p5a k5a c5a):=cellsAt hg1 5
 have ff4:w1.frozen? ⟨w.heap.size,5,none⟩=false:=frozen_of hg1 5
 obtain ⟨W2,hW2⟩:∃ W2,W2=w1.setCell ⟨w.heap.size,5,none⟩ (.slice va vk vc):=⟨_,rfl⟩
 have hg2:W2.heap[w.heap.size]?=some (.cells #[.string t0a,.string t1a,.slice p2a k2a c2a,.slice p3a k3a c3a,.slice p4a k4a c4a,.slice va vk vc,.int .i64 i6a,.int .i64 i7a,.int .i64 i8a,.int .i64 i9a,.int .i64 i10a,.slice p11a k11a c11a] 30 (0,0)):=by rw [hW2];exact Joins.block_setCell (i:=5) hg1 _
 have hz2:W2.heap[w.heap.size+1]?=some (.cells #[.string ⟨#[]⟩,.string ⟨#[]⟩,.slice none 0 0,.slice none 0 0,.slice none 0 0,.slice none 0 0,.int .i64 0,.int .i64 0,.int .i64 0,.int .i64 0,.int .i64 0,.slice none 0 0] 30 (0,0)):=by rw [hW2];exact (Below.heap_setCell _ _ _ _ (by simp only;omega)).trans hz1
 have hb2:Below w.heap.size w W2:=by rw [hW2];exact hbw1.setCell (p:=⟨w.heap.size,5,none⟩) (Nat.le_refl _) _
 have hs2:w.heap.size+1 < W2.heap.size:=(Array.getElem?_eq_some_iff.1 hz2).1
 have HI2:Hid (E=0→IsNd W2 { n with gw:=X } #[.string t0a,.string t1a,.slice p2a k2a c2a,.slice p3a k3a c3a,.slice p4a k4a c4a,.slice va vk vc,.int .i64 i6a,.int .i64 i7a,.int .i64 i8a,.int .i64 i9a,.int .i64 i10a,.slice p11a k11a c11a]):=fun h=>HFI.out W2 va vk vc hb2 (by
  have hsh:Sh (fun k=>k=w.heap.size) w1 W2:=by rw [hW2];exact (Sh.refl _ _).setCell (S:=fun k=>k=w.heap.size) rfl _
  exact gwl_sh1 (HV.out h) (NBox.of hg1) hsh)
 have HB2:Hid (Below w.heap.size w W2):=hb2
 have HZ2:Hid (W2.heap[w.heap.size+1]?=some (.cells #[.string ⟨#[]⟩,.string ⟨#[]⟩,.slice none 0 0,.slice none 0 0,.slice none 0 0,.slice none 0 0,.int .i64 0,.int .i64 0,.int .i64 0,.int .i64 0,.int .i64 0,.slice none 0 0] 30 (0,0))):=hz2
 clear a0 a1 a2 a3 a4 a5 a6 a7 a8 a9 a10 a11 z0 zz0 z1 zz1 z2 zz2 z3 zz3 z4 zz4 z5 zz5 z6 zz6 z7 zz7 z8 zz8 z9 zz9 z10 zz10 z11 zz11
 have a0:W2.cell? ⟨w.heap.size,0,none⟩=some (.string t0a):=cellsAt hg2 0
 have a1:W2.cell? ⟨w.heap.size,1,none⟩=some (.string t1a):=cellsAt hg2 1
 have a2:W2.cell? ⟨w.heap.size,2,none⟩=some (.slice p2a k2a c2a):=cellsAt hg2 2
 have a3:W2.cell? ⟨w.heap.size,3,none⟩=some (.slice p3a k3a c3a):=cellsAt hg2 3
 have a4:W2.cell? ⟨w.heap.size,4,none⟩=some (.slice p4a k4a c4a):=cellsAt hg2 4
 have a5:W2.cell? ⟨w.heap.size,5,none⟩=some (.slice va vk vc):=cellsAt hg2 5
 have a6:W2.cell? ⟨w.heap.size,6,none⟩=some (.int .i64 i6a):=cellsAt hg2 6
 have a7:W2.cell? ⟨w.heap.size,7,none⟩=some (.int .i64 i7a):=cellsAt hg2 7
 have a8:W2.cell? ⟨w.heap.size,8,none⟩=some (.int .i64 i8a):=cellsAt hg2 8
 have a9:W2.cell? ⟨w.heap.size,9,none⟩=some (.int .i64 i9a):=cellsAt hg2 9
 have a10:W2.cell? ⟨w.heap.size,10,none⟩=some (.int .i64 i10a):=cellsAt hg2 10
 have a11:W2.cell? ⟨w.heap.size,11,none⟩=some (.slice p11a k11a c11a):=cellsAt hg2 11
 clear hg1 hz1 hbw1 hb1 hg2 hz2 hb2 HV
 go_upto_region 3 with fail
 rw [← hW2]
 clear hW2 f4 ff4
 go_wp2_with fail
 refine (ended_any t0a t1a p2a p3a p4a va p11a k2a c2a k3a c3a k4a c4a vk vc k11a c11a i6a i7a i8a i9a i10a E W2).mono ?_
 rintro e w3 ⟨rfl,hb3⟩
 have hz3:w3.heap[w.heap.size+1]?=some (.cells #[.string ⟨#[]⟩,.string ⟨#[]⟩,.slice none 0 0,.slice none 0 0,.slice none 0 0,.slice none 0 0,.int .i64 0,.int .i64 0,.int .i64 0,.int .i64 0,.int .i64 0,.slice none 0 0] 30 (0,0)):=(hb3.block _ hs2).trans HZ2.out
 have hbw3:Below w.heap.size w w3:=HB2.out.trans (hb3.mono HB2.out.size)
 have hR3:Res w3 E { n with gw:=X } (if E=0 then (#[.string t0a,.string t1a,.slice p2a k2a c2a,.slice p3a k3a c3a,.slice p4a k4a c4a,.slice va vk vc,.int .i64 i6a,.int .i64 i7a,.int .i64 i8a,.int .i64 i9a,.int .i64 i10a,.slice p11a k11a c11a]:Array Value) else #[.string ⟨#[]⟩,.string ⟨#[]⟩,.slice none 0 0,.slice none 0 0,.slice none 0 0,.slice none 0 0,.int .i64 0,.int .i64 0,.int .i64 0,.int .i64 0,.int .i64 0,.slice none 0 0]):=by
  by_cases he:E=0
  ·rw [if_pos he];exact .inr ⟨he,(HI2.out he).below hb3⟩
  ·rw [if_neg he];exact .inl ⟨he,rfl⟩
 clear hb3 a0 a1 a2 a3 a4 a5 a6 a7 a8 a9 a10 a11
 generalize (if E=0 then (#[.string t0a,.string t1a,.slice p2a k2a c2a,.slice p3a k3a c3a,.slice p4a k4a c4a,.slice va vk vc,.int .i64 i6a,.int .i64 i7a,.int .i64 i8a,.int .i64 i9a,.int .i64 i10a,.slice p11a k11a c11a]:Array Value) else #[.string ⟨#[]⟩,.string ⟨#[]⟩,.slice none 0 0,.slice none 0 0,.slice none 0 0,.slice none 0 0,.int .i64 0,.int .i64 0,.int .i64 0,.int .i64 0,.int .i64 0,.slice none 0 0])=C3 at *
 obtain ⟨t0r,t1r,p2r,k2r,c2r,p3r,k3r,c3r,p4r,k4r,c4r,p5r,k5r,c5r,i6r,i7r,i8r,i9r,i10r,p11r,k11r,c11r,rfl⟩:=hR3.is.letters
 simp only [ndV] at hR3 ⊢
 have z0:w3.cell? ⟨w.heap.size+1,0,none⟩=some (.string ⟨#[]⟩):=cellsAt hz3 0
 have zz0:w3.frozen? ⟨w.heap.size+1,0,none⟩=false:=frozen_of hz3 0
 have z1:w3.cell? ⟨w.heap.size+1,1,none⟩=some (.string ⟨#[]⟩):=cellsAt hz3 1
 have zz1:w3.frozen? ⟨w.heap.size+1,1,none⟩=false:=frozen_of hz3 1
 have z2:w3.cell? ⟨w.heap.size+1,2,none⟩=some (.slice none 0 0):=cellsAt hz3 2
 have zz2:w3.frozen? ⟨w.heap.size+1,2,none⟩=false:=frozen_of hz3 2
 have z3:w3.cell? ⟨w.heap.size+1,3,none⟩=some (.slice none 0 0):=cellsAt hz3 3
 have zz3:w3.frozen? ⟨w.heap.size+1,3,none⟩=false:=frozen_of hz3 3
 have z4:w3.cell? ⟨w.heap.size+1,4,none⟩=some (.slice none 0 0):=cellsAt hz3 4
 have zz4:w3.frozen? ⟨w.heap.size+1,4,none⟩=false:=frozen_of hz3 4
 have z5:w3.cell? ⟨w.heap.size+1,5,none⟩=some (.slice none 0 0):=cellsAt hz3 5
 have zz5:w3.frozen? ⟨w.heap.size+1,5,none⟩=false:=frozen_of hz3 5
 have z6:w3.cell? ⟨w.heap.size+1,6,none⟩=some (.int .i64 0):=cellsAt hz3 6
 have zz6:w3.frozen? ⟨w.heap.size+1,6,none⟩=false:=frozen_of hz3 6
 have z7:w3.cell? ⟨w.heap.size+1,7,none⟩=some (.int .i64 0):=cellsAt hz3 7
 have zz7:w3.frozen? ⟨w.heap.size+1,7,none⟩=false:=frozen_of hz3 7
 have z8:w3.cell? ⟨w.heap.size+1,8,none⟩=some (.int .i64 0):=cellsAt hz3 8
 have zz8:w3.frozen? ⟨w.heap.size+1,8,none⟩=false:=frozen_of hz3 8
 have z9:w3.cell? ⟨w.heap.size+1,9,none⟩=some (.int .i64 0):=cellsAt hz3 9
 have zz9:w3.frozen? ⟨w.heap.size+1,9,none⟩=false:=frozen_of hz3 9
 have z10:w3.cell? ⟨w.heap.size+1,10,none⟩=some (.int .i64 0):=cellsAt hz3 10
 have zz10:w3.frozen? ⟨w.heap.size+1,10,none⟩=false:=frozen_of hz3 10
 have z11:w3.cell? ⟨w.heap.size+1,11,none⟩=some (.slice none 0 0):=cellsAt hz3 11
 have zz11:w3.frozen? ⟨w.heap.size+1,11,none⟩=false:=frozen_of hz3 11
 obtain ⟨W4,hW4⟩:∃ W4,W4=((((((((((((w3.setCell ⟨w.heap.size+1,0,none⟩ (.string t0r)).setCell ⟨w.heap.size+1,1,none⟩ (.string t1r)).setCell ⟨w.heap.size+1,2,none⟩ (.slice p2r k2r c2r)).setCell ⟨w.heap.size+1,3,none⟩ (.slice p3r k3r c3r)).setCell ⟨w.heap.size+1,4,none⟩ (.slice p4r k4r c4r)).setCell ⟨w.heap.size+1,5,none⟩ (.slice p5r k5r c5r)).setCell ⟨w.heap.size+1,6,none⟩ (.int .i64 i6r)).setCell ⟨w.heap.size+1,7,none⟩ (.int .i64 i7r)).setCell ⟨w.heap.size+1,8,none⟩ (.int .i64 i8r)).setCell ⟨w.heap.size+1,9,none⟩ (.int .i64 i9r)).setCell ⟨w.heap.size+1,10,none⟩ (.int .i64 i10r)).setCell ⟨w.heap.size+1,11,none⟩ (.slice p11r k11r c11r)):=⟨_,rfl⟩
 have hF4:W4=setAll (w.heap.size+1) [.string t0r,.string t1r,.slice p2r k2r c2r,.slice p3r k3r c3r,.slice p4r k4r c4r,.slice p5r k5r c5r,.int .i64 i6r,.int .i64 i7r,.int .i64 i8r,.int .i64 i9r,.int .i64 i10r,.slice p11r k11r c11r] 0 w3:=by rw [hW4];simp only [setAll,Nat.zero_add,Nat.reduceAdd]
 have hz4:W4.heap[w.heap.size+1]?=some (.cells #[.string t0r,.string t1r,.slice p2r k2r c2r,.slice p3r k3r c3r,.slice p4r k4r c4r,.slice p5r k5r c5r,.int .i64 i6r,.int .i64 i7r,.int .i64 i8r,.int .i64 i9r,.int .i64 i10r,.slice p11r k11r c11r] 30 (0,0)):=by rw [hF4];exact setAll12 hz3 _ _ _ _ _ _ _ _ _ _ _ _
 have HB4:Hid (Below w.heap.size w W4):=by rw [hF4];exact setAll_below (by omega) _ _ hbw3
 have HR4:Hid (Res W4 E { n with gw:=X } #[.string t0r,.string t1r,.slice p2r k2r c2r,.slice p3r k3r c3r,.slice p4r k4r c4r,.slice p5r k5r c5r,.int .i64 i6r,.int .i64 i7r,.int .i64 i8r,.int .i64 i9r,.int .i64 i10r,.slice p11r k11r c11r]):=by
  rcases hR3 with hR3 | ⟨h0,hR3⟩
  ·exact .inl hR3
  ·exact .inr ⟨h0,by rw [hF4];exact hR3.setAll (NBox.of hz3) _ _⟩
 go_wp2_with fail
 rw [← hW4]
 clear z0 zz0 z1 zz1 z2 zz2 z3 zz3 z4 zz4 z5 zz5 z6 zz6 z7 zz7 z8 zz8 z9 zz9 z10 zz10 z11 zz11 hF4 hW4 hR3 hz3 hbw3
 have z0:W4.cell? ⟨w.heap.size+1,0,none⟩=some (.string t0r):=cellsAt hz4 0
 have z1:W4.cell? ⟨w.heap.size+1,1,none⟩=some (.string t1r):=cellsAt hz4 1
 have z2:W4.cell? ⟨w.heap.size+1,2,none⟩=some (.slice p2r k2r c2r):=cellsAt hz4 2
 have z3:W4.cell? ⟨w.heap.size+1,3,none⟩=some (.slice p3r k3r c3r):=cellsAt hz4 3
 have z4:W4.cell? ⟨w.heap.size+1,4,none⟩=some (.slice p4r k4r c4r):=cellsAt hz4 4
 have z5:W4.cell? ⟨w.heap.size+1,5,none⟩=some (.slice p5r k5r c5r):=cellsAt hz4 5
 have z6:W4.cell? ⟨w.heap.size+1,6,none⟩=some (.int .i64 i6r):=cellsAt hz4 6
 have z7:W4.cell? ⟨w.heap.size+1,7,none⟩=some (.int .i64 i7r):=cellsAt hz4 7
 have z8:W4.cell? ⟨w.heap.size+1,8,none⟩=some (.int .i64 i8r):=cellsAt hz4 8
 have z9:W4.cell? ⟨w.heap.size+1,9,none⟩=some (.int .i64 i9r):=cellsAt hz4 9
 have z10:W4.cell? ⟨w.heap.size+1,10,none⟩=some (.int .i64 i10r):=cellsAt hz4 10
 have z11:W4.cell? ⟨w.heap.size+1,11,none⟩=some (.slice p11r k11r c11r):=cellsAt hz4 11
 refine bodyPost_ret (v:=.tuple #[.agg #[.string t0r,.string t1r,.slice p2r k2r c2r,.slice p3r k3r c3r,.slice p4r k4r c4r,.slice p5r k5r c5r,.int .i64 i6r,.int .i64 i7r,.int .i64 i8r,.int .i64 i9r,.int .i64 i10r,.slice p11r k11r c11r],.int .i64 E]) ?_ rfl ?_
 ·simp [results,Tryz.results38,go_sem,z0,z1,z2,z3,z4,z5,z6,z7,z8,z9,z10,z11]
 ·exact ⟨_,rfl,HR4.out,HB4.out⟩
set_option maxHeartbeats 12800000 in
set_option maxRecDepth 100000 in
theorem serveOf_is (n:Nd) (s:Sv.Svc) (E:Int) (X:List Sv.Svc) (A:Array Value) (w:World) (h:IsNd w n A)
 (HC0:∀ v W,Sv.Sl W v n.sv→Calls Tryz.prog 89 #[v,svA s] W fun e w'=>∃ a k c,e=.returned (.tuple #[.slice a k c,.int .i64 E])∧Hid (E=0→Sv.Sl w' (.slice a k c) X)∧Below W.heap.size W w') :
 Calls Tryz.prog 36 #[.agg A,.agg #[.string s.node,.string s.idn,.string s.name,.string s.tag,.int .i64 s.addr,.int .i64 s.port,.bool s.passing,.int .i64 s.version,.bool s.gone]] w fun e w'=>∃ C,e=.returned (.tuple #[.agg C,.int .i64 (svcE n s E)])∧Res w' (svcE n s E) { n with sv:=X } C∧Below w.heap.size w w':=by
 have HN0:Hid (IsNd w n A):=h
 obtain ⟨vm,vr,vs,vg,vw,hA,hi⟩:=h
 have HIN:Hid (NdIs w n vm vr vs vg vw):=hi
 obtain ⟨t0a,t1a,p2a,k2a,c2a,p3a,k3a,c3a,p4a,k4a,c4a,p5a,k5a,c5a,i6a,i7a,i8a,i9a,i10a,p11a,k11a,c11a,rfl⟩:=HN0.out.letters
 simp only [ndV,ndA,Array.mk.injEq,List.cons.injEq,and_true] at hA
 obtain ⟨e0,e1,e2,e3,e4,e5,e6,e7,e8,e9,e10,e11⟩:=hA
 subst e2 e3 e4 e5 e11
 injection e0 with e0
 injection e1 with e1
 injection e6 with _ e6
 injection e7 with _ e7
 injection e8 with _ e8
 injection e9 with _ e9
 injection e10 with _ e10
 simp only [ndV]
 have HCL:Hid (∀ W,Below w.heap.size w W→Calls Tryz.prog 89 #[.slice p4a k4a c4a,svA s] W fun e w'=>∃ a k c,e=.returned (.tuple #[.slice a k c,.int .i64 E])∧Hid (E=0→Sv.Sl w' (.slice a k c) X)∧Below W.heap.size W w'):=fun W hW=>HC0 _ W (hi.sv.below hW)
 try rw [← e0] at HCL
 try rw [← e1] at HCL
 have HFI:Hid (∀ W va vk vc,Below w.heap.size w W→Sv.Sl W (.slice va vk vc) X→IsNd W { n with sv:=X } #[.string t0a,.string t1a,.slice p2a k2a c2a,.slice p3a k3a c3a,.slice va vk vc,.slice p5a k5a c5a,.int .i64 i6a,.int .i64 i7a,.int .i64 i8a,.int .i64 i9a,.int .i64 i10a,.slice p11a k11a c11a]):=fun W va vk vc hW hs=>by
  have hI:=hi.below hW
  refine ⟨.slice p2a k2a c2a,.slice p3a k3a c3a,.slice va vk vc,.slice p5a k5a c5a,.slice p11a k11a c11a,?_,?_⟩
  ·simp only [ndA,e0,e1,e6,e7,e8,e9,e10]
  ·exact ⟨hI.ms,hI.rs,hs,hI.gw,hI.wh,hI.name,hI.centre⟩
 have HE:Hid (svcE n s E=if s.node=t0a then E else 4):=by rw [e0];rfl
 obtain ⟨s0,s1,s2,s3,s4,s5,s6,s7,s8⟩:=s
 simp only [svA] at HCL HE ⊢
 generalize svcE n ⟨s0,s1,s2,s3,s4,s5,s6,s7,s8⟩ E=sE at *
 clear hi HC0 HN0 HIN
 clear e0 e1 e6 e7 e8 e9 e10
 obtain ⟨W0,hW0⟩:∃ W0,W0=((w.alloc (.cells #[.string t0a,.string t1a,.slice p2a k2a c2a,.slice p3a k3a c3a,.slice p4a k4a c4a,.slice p5a k5a c5a,.int .i64 i6a,.int .i64 i7a,.int .i64 i8a,.int .i64 i9a,.int .i64 i10a,.slice p11a k11a c11a] 30)).alloc (.cells #[.string s0,.string s1,.string s2,.string s3,.int .i64 s4,.int .i64 s5,.bool s6,.int .i64 s7,.bool s8] 62)).alloc (.cells #[.string ⟨#[]⟩,.string ⟨#[]⟩,.slice none 0 0,.slice none 0 0,.slice none 0 0,.slice none 0 0,.int .i64 0,.int .i64 0,.int .i64 0,.int .i64 0,.int .i64 0,.slice none 0 0] 30):=⟨_,rfl⟩
 have hb0:Below w.heap.size w W0:=by rw [hW0];exact (((Below.refl _ _).alloc (Nat.le_refl _) _).alloc (by simp) _).alloc (by simp<;>omega) _
 have hg0:W0.heap[w.heap.size]?=some (.cells #[.string t0a,.string t1a,.slice p2a k2a c2a,.slice p3a k3a c3a,.slice p4a k4a c4a,.slice p5a k5a c5a,.int .i64 i6a,.int .i64 i7a,.int .i64 i8a,.int .i64 i9a,.int .i64 i10a,.slice p11a k11a c11a] 30 (0,0)):=by
  rw [hW0,Below.heap_alloc _ _ _ (by simp<;>omega),Below.heap_alloc _ _ _ (by simp)];exact heap_alloc_new w _
 have hz0:W0.heap[w.heap.size+1+1]?=some (.cells #[.string ⟨#[]⟩,.string ⟨#[]⟩,.slice none 0 0,.slice none 0 0,.slice none 0 0,.slice none 0 0,.int .i64 0,.int .i64 0,.int .i64 0,.int .i64 0,.int .i64 0,.slice none 0 0] 30 (0,0)):=by
  have h:=heap_alloc_new ((w.alloc (.cells #[.string t0a,.string t1a,.slice p2a k2a c2a,.slice p3a k3a c3a,.slice p4a k4a c4a,.slice p5a k5a c5a,.int .i64 i6a,.int .i64 i7a,.int .i64 i8a,.int .i64 i9a,.int .i64 i10a,.slice p11a k11a c11a] 30)).alloc (.cells #[.string s0,.string s1,.string s2,.string s3,.int .i64 s4,.int .i64 s5,.bool s6,.int .i64 s7,.bool s8] 62)) (.cells #[.string ⟨#[]⟩,.string ⟨#[]⟩,.slice none 0 0,.slice none 0 0,.slice none 0 0,.slice none 0 0,.int .i64 0,.int .i64 0,.int .i64 0,.int .i64 0,.int .i64 0,.slice none 0 0] 30)
  rw [hW0];simpa using h
 have hx0:W0.heap[w.heap.size+1]?=some (.cells #[.string s0,.string s1,.string s2,.string s3,.int .i64 s4,.int .i64 s5,.bool s6,.int .i64 s7,.bool s8] 62 (0,0)):=by
  have h:=heap_alloc_new (w.alloc (.cells #[.string t0a,.string t1a,.slice p2a k2a c2a,.slice p3a k3a c3a,.slice p4a k4a c4a,.slice p5a k5a c5a,.int .i64 i6a,.int .i64 i7a,.int .i64 i8a,.int .i64 i9a,.int .i64 i10a,.slice p11a k11a c11a] 30)) (.cells #[.string s0,.string s1,.string s2,.string s3,.int .i64 s4,.int .i64 s5,.bool s6,.int .i64 s7,.bool s8] 62)
  rw [hW0,Below.heap_alloc _ _ _ (by simp)];simpa using h
 have x0:W0.cell? ⟨w.heap.size+1,0,none⟩=some (.string s0):=cellsAt hx0 0
 have x1:W0.cell? ⟨w.heap.size+1,1,none⟩=some (.string s1):=cellsAt hx0 1
 have x2:W0.cell? ⟨w.heap.size+1,2,none⟩=some (.string s2):=cellsAt hx0 2
 have x3:W0.cell? ⟨w.heap.size+1,3,none⟩=some (.string s3):=cellsAt hx0 3
 have x4:W0.cell? ⟨w.heap.size+1,4,none⟩=some (.int .i64 s4):=cellsAt hx0 4
 have x5:W0.cell? ⟨w.heap.size+1,5,none⟩=some (.int .i64 s5):=cellsAt hx0 5
 have x6:W0.cell? ⟨w.heap.size+1,6,none⟩=some (.bool s6):=cellsAt hx0 6
 have x7:W0.cell? ⟨w.heap.size+1,7,none⟩=some (.int .i64 s7):=cellsAt hx0 7
 have x8:W0.cell? ⟨w.heap.size+1,8,none⟩=some (.bool s8):=cellsAt hx0 8
 clear hx0
 have hs0:w.heap.size+1+1 < W0.heap.size:=by rw [hW0];simp
 have a0:W0.cell? ⟨w.heap.size,0,none⟩=some (.string t0a):=cellsAt hg0 0
 have a1:W0.cell? ⟨w.heap.size,1,none⟩=some (.string t1a):=cellsAt hg0 1
 have a2:W0.cell? ⟨w.heap.size,2,none⟩=some (.slice p2a k2a c2a):=cellsAt hg0 2
 have a3:W0.cell? ⟨w.heap.size,3,none⟩=some (.slice p3a k3a c3a):=cellsAt hg0 3
 have a4:W0.cell? ⟨w.heap.size,4,none⟩=some (.slice p4a k4a c4a):=cellsAt hg0 4
 have a5:W0.cell? ⟨w.heap.size,5,none⟩=some (.slice p5a k5a c5a):=cellsAt hg0 5
 have a6:W0.cell? ⟨w.heap.size,6,none⟩=some (.int .i64 i6a):=cellsAt hg0 6
 have a7:W0.cell? ⟨w.heap.size,7,none⟩=some (.int .i64 i7a):=cellsAt hg0 7
 have a8:W0.cell? ⟨w.heap.size,8,none⟩=some (.int .i64 i8a):=cellsAt hg0 8
 have a9:W0.cell? ⟨w.heap.size,9,none⟩=some (.int .i64 i9a):=cellsAt hg0 9
 have a10:W0.cell? ⟨w.heap.size,10,none⟩=some (.int .i64 i10a):=cellsAt hg0 10
 have a11:W0.cell? ⟨w.heap.size,11,none⟩=some (.slice p11a k11a c11a):=cellsAt hg0 11
 have z0:W0.cell? ⟨w.heap.size+1+1,0,none⟩=some (.string ⟨#[]⟩):=cellsAt hz0 0
 have zz0:W0.frozen? ⟨w.heap.size+1+1,0,none⟩=false:=frozen_of hz0 0
 have z1:W0.cell? ⟨w.heap.size+1+1,1,none⟩=some (.string ⟨#[]⟩):=cellsAt hz0 1
 have zz1:W0.frozen? ⟨w.heap.size+1+1,1,none⟩=false:=frozen_of hz0 1
 have z2:W0.cell? ⟨w.heap.size+1+1,2,none⟩=some (.slice none 0 0):=cellsAt hz0 2
 have zz2:W0.frozen? ⟨w.heap.size+1+1,2,none⟩=false:=frozen_of hz0 2
 have z3:W0.cell? ⟨w.heap.size+1+1,3,none⟩=some (.slice none 0 0):=cellsAt hz0 3
 have zz3:W0.frozen? ⟨w.heap.size+1+1,3,none⟩=false:=frozen_of hz0 3
 have z4:W0.cell? ⟨w.heap.size+1+1,4,none⟩=some (.slice none 0 0):=cellsAt hz0 4
 have zz4:W0.frozen? ⟨w.heap.size+1+1,4,none⟩=false:=frozen_of hz0 4
 have z5:W0.cell? ⟨w.heap.size+1+1,5,none⟩=some (.slice none 0 0):=cellsAt hz0 5
 have zz5:W0.frozen? ⟨w.heap.size+1+1,5,none⟩=false:=frozen_of hz0 5
 have z6:W0.cell? ⟨w.heap.size+1+1,6,none⟩=some (.int .i64 0):=cellsAt hz0 6
 have zz6:W0.frozen? ⟨w.heap.size+1+1,6,none⟩=false:=frozen_of hz0 6
 have z7:W0.cell? ⟨w.heap.size+1+1,7,none⟩=some (.int .i64 0):=cellsAt hz0 7
 have zz7:W0.frozen? ⟨w.heap.size+1+1,7,none⟩=false:=frozen_of hz0 7
 have z8:W0.cell? ⟨w.heap.size+1+1,8,none⟩=some (.int .i64 0):=cellsAt hz0 8
 have zz8:W0.frozen? ⟨w.heap.size+1+1,8,none⟩=false:=frozen_of hz0 8
 have z9:W0.cell? ⟨w.heap.size+1+1,9,none⟩=some (.int .i64 0):=cellsAt hz0 9
 have zz9:W0.frozen? ⟨w.heap.size+1+1,9,none⟩=false:=frozen_of hz0 9
 have z10:W0.cell? ⟨w.heap.size+1+1,10,none⟩=some (.int .i64 0):=cellsAt hz0 10
 have zz10:W0.frozen? ⟨w.heap.size+1+1,10,none⟩=false:=frozen_of hz0 10
 have z11:W0.cell? ⟨w.heap.size+1+1,11,none⟩=some (.slice none 0 0):=cellsAt hz0 11
 have zz11:W0.frozen? ⟨w.heap.size+1+1,11,none⟩=false:=frozen_of hz0 11
 have HB0:Hid (Below w.heap.size w W0):=hb0
 have HG0:Hid (W0.heap[w.heap.size]?=some (.cells #[.string t0a,.string t1a,.slice p2a k2a c2a,.slice p3a k3a c3a,.slice p4a k4a c4a,.slice p5a k5a c5a,.int .i64 i6a,.int .i64 i7a,.int .i64 i8a,.int .i64 i9a,.int .i64 i10a,.slice p11a k11a c11a] 30 (0,0))):=hg0
 have HZ0:Hid (W0.heap[w.heap.size+1+1]?=some (.cells #[.string ⟨#[]⟩,.string ⟨#[]⟩,.slice none 0 0,.slice none 0 0,.slice none 0 0,.slice none 0 0,.int .i64 0,.int .i64 0,.int .i64 0,.int .i64 0,.int .i64 0,.slice none 0 0] 30 (0,0))):=hz0
 clear hb0 hg0 hz0
 go_enter Tryz.func36,Tryz.ntmps36
 go_upto_region 1 with fail
 rw [← hW0]
 clear hW0
 by_cases hnm:s0=t0a
 rotate_left
 ·have HE4:Hid (sE=4):=HE.out.trans (if_neg hnm)
  have hq:(s0.toList == t0a.toList)=false:=by rw [beq_names,decide_eq_false hnm]
  obtain ⟨W4,hW4⟩:∃ W4,W4=((((((((((((W0.setCell ⟨w.heap.size+1+1,0,none⟩ (.string ⟨#[]⟩)).setCell ⟨w.heap.size+1+1,1,none⟩ (.string ⟨#[]⟩)).setCell ⟨w.heap.size+1+1,2,none⟩ (.slice none 0 0)).setCell ⟨w.heap.size+1+1,3,none⟩ (.slice none 0 0)).setCell ⟨w.heap.size+1+1,4,none⟩ (.slice none 0 0)).setCell ⟨w.heap.size+1+1,5,none⟩ (.slice none 0 0)).setCell ⟨w.heap.size+1+1,6,none⟩ (.int .i64 0)).setCell ⟨w.heap.size+1+1,7,none⟩ (.int .i64 0)).setCell ⟨w.heap.size+1+1,8,none⟩ (.int .i64 0)).setCell ⟨w.heap.size+1+1,9,none⟩ (.int .i64 0)).setCell ⟨w.heap.size+1+1,10,none⟩ (.int .i64 0)).setCell ⟨w.heap.size+1+1,11,none⟩ (.slice none 0 0)):=⟨_,rfl⟩
  have hF4:W4=setAll (w.heap.size+1+1) [.string ⟨#[]⟩,.string ⟨#[]⟩,.slice none 0 0,.slice none 0 0,.slice none 0 0,.slice none 0 0,.int .i64 0,.int .i64 0,.int .i64 0,.int .i64 0,.int .i64 0,.slice none 0 0] 0 W0:=by rw [hW4];simp only [setAll,Nat.zero_add,Nat.reduceAdd]
  have hz4:W4.heap[w.heap.size+1+1]?=some (.cells #[.string ⟨#[]⟩,.string ⟨#[]⟩,.slice none 0 0,.slice none 0 0,.slice none 0 0,.slice none 0 0,.int .i64 0,.int .i64 0,.int .i64 0,.int .i64 0,.int .i64 0,.slice none 0 0] 30 (0,0)):=by rw [hF4];exact setAll12 HZ0.out _ _ _ _ _ _ _ _ _ _ _ _
  have HB4:Hid (Below w.heap.size w W4):=by rw [hF4];exact setAll_below (by omega) _ _ HB0.out
  clear hnm HE
  go_wp2_with fail
  rw [← hW4]
  clear z0 zz0 z1 zz1 z2 zz2 z3 zz3 z4 zz4 z5 zz5 z6 zz6 z7 zz7 z8 zz8 z9 zz9 z10 zz10 z11 zz11 hF4 hW4
  have z0:W4.cell? ⟨w.heap.size+1+1,0,none⟩=some (.string ⟨#[]⟩):=cellsAt hz4 0
  have z1:W4.cell? ⟨w.heap.size+1+1,1,none⟩=some (.string ⟨#[]⟩):=cellsAt hz4 1
  have z2:W4.cell? ⟨w.heap.size+1+1,2,none⟩=some (.slice none 0 0):=cellsAt hz4 2
  have z3:W4.cell? ⟨w.heap.size+1+1,3,none⟩=some (.slice none 0 0):=cellsAt hz4 3
  have z4:W4.cell? ⟨w.heap.size+1+1,4,none⟩=some (.slice none 0 0):=cellsAt hz4 4
  have z5:W4.cell? ⟨w.heap.size+1+1,5,none⟩=some (.slice none 0 0):=cellsAt hz4 5
  have z6:W4.cell? ⟨w.heap.size+1+1,6,none⟩=some (.int .i64 0):=cellsAt hz4 6
  have z7:W4.cell? ⟨w.heap.size+1+1,7,none⟩=some (.int .i64 0):=cellsAt hz4 7
  have z8:W4.cell? ⟨w.heap.size+1+1,8,none⟩=some (.int .i64 0):=cellsAt hz4 8
  have z9:W4.cell? ⟨w.heap.size+1+1,9,none⟩=some (.int .i64 0):=cellsAt hz4 9
  have z10:W4.cell? ⟨w.heap.size+1+1,10,none⟩=some (.int .i64 0):=cellsAt hz4 10
  have z11:W4.cell? ⟨w.heap.size+1+1,11,none⟩=some (.slice none 0 0):=cellsAt hz4 11
  refine bodyPost_ret (v:=.tuple #[.agg #[.string ⟨#[]⟩,.string ⟨#[]⟩,.slice none 0 0,.slice none 0 0,.slice none 0 0,.slice none 0 0,.int .i64 0,.int .i64 0,.int .i64 0,.int .i64 0,.int .i64 0,.slice none 0 0],.int .i64 4]) ?_ rfl ?_
  ·simp [results,Tryz.results36,go_sem,z0,z1,z2,z3,z4,z5,z6,z7,z8,z9,z10,z11]
  ·exact ⟨_,(by rw [HE4.out];rfl),.inl ⟨(by rw [HE4.out];decide),rfl⟩,HB4.out⟩
 have HE1:Hid (sE=E):=HE.out.trans (if_pos hnm)
 have hq:(s0.toList == t0a.toList)=true:=by rw [hnm];simp
 have hq2:s0.toList=t0a.toList:=by rw [hnm]
 clear hnm HE
 go_wp2_with fail
 refine (HCL.out W0 HB0.out).mono ?_
 rintro e w1 ⟨va,vk,vc,rfl,HV,hb1⟩
 have hg1:w1.heap[w.heap.size]?=some (.cells #[.string t0a,.string t1a,.slice p2a k2a c2a,.slice p3a k3a c3a,.slice p4a k4a c4a,.slice p5a k5a c5a,.int .i64 i6a,.int .i64 i7a,.int .i64 i8a,.int .i64 i9a,.int .i64 i10a,.slice p11a k11a c11a] 30 (0,0)):=(hb1.block _ (by omega)).trans HG0.out
 have hz1:w1.heap[w.heap.size+1+1]?=some (.cells #[.string ⟨#[]⟩,.string ⟨#[]⟩,.slice none 0 0,.slice none 0 0,.slice none 0 0,.slice none 0 0,.int .i64 0,.int .i64 0,.int .i64 0,.int .i64 0,.int .i64 0,.slice none 0 0] 30 (0,0)):=(hb1.block _ hs0).trans HZ0.out
 have hbw1:Below w.heap.size w w1:=HB0.out.trans (hb1.mono HB0.out.size)
 have f4:w1.cell? ⟨w.heap.size,4,none⟩=some (.slice p4a k4a c4a):=cellsAt hg1 4
 have ff4:w1.frozen? ⟨w.heap.size,4,none⟩=false:=frozen_of hg1 4
 obtain ⟨W2,hW2⟩:∃ W2,W2=w1.setCell ⟨w.heap.size,4,none⟩ (.slice va vk vc):=⟨_,rfl⟩
 have hg2:W2.heap[w.heap.size]?=some (.cells #[.string t0a,.string t1a,.slice p2a k2a c2a,.slice p3a k3a c3a,.slice va vk vc,.slice p5a k5a c5a,.int .i64 i6a,.int .i64 i7a,.int .i64 i8a,.int .i64 i9a,.int .i64 i10a,.slice p11a k11a c11a] 30 (0,0)):=by rw [hW2];exact Joins.block_setCell (i:=4) hg1 _
 have hz2:W2.heap[w.heap.size+1+1]?=some (.cells #[.string ⟨#[]⟩,.string ⟨#[]⟩,.slice none 0 0,.slice none 0 0,.slice none 0 0,.slice none 0 0,.int .i64 0,.int .i64 0,.int .i64 0,.int .i64 0,.int .i64 0,.slice none 0 0] 30 (0,0)):=by rw [hW2];exact (Below.heap_setCell _ _ _ _ (by simp only;omega)).trans hz1
 have hb2:Below w.heap.size w W2:=by rw [hW2];exact hbw1.setCell (p:=⟨w.heap.size,4,none⟩) (Nat.le_refl _) _
 have hs2:w.heap.size+1+1 < W2.heap.size:=(Array.getElem?_eq_some_iff.1 hz2).1
 have HI2:Hid (E=0→IsNd W2 { n with sv:=X } #[.string t0a,.string t1a,.slice p2a k2a c2a,.slice p3a k3a c3a,.slice va vk vc,.slice p5a k5a c5a,.int .i64 i6a,.int .i64 i7a,.int .i64 i8a,.int .i64 i9a,.int .i64 i10a,.slice p11a k11a c11a]):=fun h=>HFI.out W2 va vk vc hb2 (by
  have hsh:Sh (fun k=>k=w.heap.size) w1 W2:=by rw [hW2];exact (Sh.refl _ _).setCell (S:=fun k=>k=w.heap.size) rfl _
  exact svl_sh1 (HV.out h) (NBox.of hg1) hsh)
 have HB2:Hid (Below w.heap.size w W2):=hb2
 have HZ2:Hid (W2.heap[w.heap.size+1+1]?=some (.cells #[.string ⟨#[]⟩,.string ⟨#[]⟩,.slice none 0 0,.slice none 0 0,.slice none 0 0,.slice none 0 0,.int .i64 0,.int .i64 0,.int .i64 0,.int .i64 0,.int .i64 0,.slice none 0 0] 30 (0,0))):=hz2
 clear a0 a1 a2 a3 a4 a5 a6 a7 a8 a9 a10 a11 z0 zz0 z1 zz1 z2 zz2 z3 zz3 z4 zz4 z5 zz5 z6 zz6 z7 zz7 z8 zz8 z9 zz9 z10 zz10 z11 zz11
 have a0:W2.cell? ⟨w.heap.size,0,none⟩=some (.string t0a):=cellsAt hg2 0
 have a1:W2.cell? ⟨w.heap.size,1,none⟩=some (.string t1a):=cellsAt hg2 1
 have a2:W2.cell? ⟨w.heap.size,2,none⟩=some (.slice p2a k2a c2a):=cellsAt hg2 2
 have a3:W2.cell? ⟨w.heap.size,3,none⟩=some (.slice p3a k3a c3a):=cellsAt hg2 3
 have a4:W2.cell? ⟨w.heap.size,4,none⟩=some (.slice va vk vc):=cellsAt hg2 4
 have a5:W2.cell? ⟨w.heap.size,5,none⟩=some (.slice p5a k5a c5a):=cellsAt hg2 5
 have a6:W2.cell? ⟨w.heap.size,6,none⟩=some (.int .i64 i6a):=cellsAt hg2 6
 have a7:W2.cell? ⟨w.heap.size,7,none⟩=some (.int .i64 i7a):=cellsAt hg2 7
 have a8:W2.cell? ⟨w.heap.size,8,none⟩=some (.int .i64 i8a):=cellsAt hg2 8
 have a9:W2.cell? ⟨w.heap.size,9,none⟩=some (.int .i64 i9a):=cellsAt hg2 9
 have a10:W2.cell? ⟨w.heap.size,10,none⟩=some (.int .i64 i10a):=cellsAt hg2 10
 have a11:W2.cell? ⟨w.heap.size,11,none⟩=some (.slice p11a k11a c11a):=cellsAt hg2 11
 clear hg1 hz1 hbw1 hb1 hg2 hz2 hb2 HV
 go_upto_region 5 with fail
 rw [← hW2]
 clear hW2 f4 ff4
 go_wp2_with fail
 refine (ended_any t0a t1a p2a p3a va p5a p11a k2a c2a k3a c3a vk vc k5a c5a k11a c11a i6a i7a i8a i9a i10a E W2).mono ?_
 rintro e w3 ⟨rfl,hb3⟩
 have hz3:w3.heap[w.heap.size+1+1]?=some (.cells #[.string ⟨#[]⟩,.string ⟨#[]⟩,.slice none 0 0,.slice none 0 0,.slice none 0 0,.slice none 0 0,.int .i64 0,.int .i64 0,.int .i64 0,.int .i64 0,.int .i64 0,.slice none 0 0] 30 (0,0)):=(hb3.block _ hs2).trans HZ2.out
 have hbw3:Below w.heap.size w w3:=HB2.out.trans (hb3.mono HB2.out.size)
 have hR3:Res w3 E { n with sv:=X } (if E=0 then (#[.string t0a,.string t1a,.slice p2a k2a c2a,.slice p3a k3a c3a,.slice va vk vc,.slice p5a k5a c5a,.int .i64 i6a,.int .i64 i7a,.int .i64 i8a,.int .i64 i9a,.int .i64 i10a,.slice p11a k11a c11a]:Array Value) else #[.string ⟨#[]⟩,.string ⟨#[]⟩,.slice none 0 0,.slice none 0 0,.slice none 0 0,.slice none 0 0,.int .i64 0,.int .i64 0,.int .i64 0,.int .i64 0,.int .i64 0,.slice none 0 0]):=by
  by_cases he:E=0
  ·rw [if_pos he];exact .inr ⟨he,(HI2.out he).below hb3⟩
  ·rw [if_neg he];exact .inl ⟨he,rfl⟩
 clear hb3 a0 a1 a2 a3 a4 a5 a6 a7 a8 a9 a10 a11
 generalize (if E=0 then (#[.string t0a,.string t1a,.slice p2a k2a c2a,.slice p3a k3a c3a,.slice va vk vc,.slice p5a k5a c5a,.int .i64 i6a,.int .i64 i7a,.int .i64 i8a,.int .i64 i9a,.int .i64 i10a,.slice p11a k11a c11a]:Array Value) else #[.string ⟨#[]⟩,.string ⟨#[]⟩,.slice none 0 0,.slice none 0 0,.slice none 0 0,.slice none 0 0,.int .i64 0,.int .i64 0,.int .i64 0,.int .i64 0,.int .i64 0,.slice none 0 0])=C3 at *
 obtain ⟨t0r,t1r,p2r,k2r,c2r,p3r,k3r,c3r,p4r,k4r,c4r,p5r,k5r,c5r,i6r,i7r,i8r,i9r,i10r,p11r,k11r,c11r,rfl⟩:=hR3.is.letters
 simp only [ndV] at hR3 ⊢
 have z0:w3.cell? ⟨w.heap.size+1+1,0,none⟩=some (.string ⟨#[]⟩):=cellsAt hz3 0
 have zz0:w3.frozen? ⟨w.heap.size+1+1,0,none⟩=false:=frozen_of hz3 0
 have z1:w3.cell? ⟨w.heap.size+1+1,1,none⟩=some (.string ⟨#[]⟩):=cellsAt hz3 1
 have zz1:w3.frozen? ⟨w.heap.size+1+1,1,none⟩=false:=frozen_of hz3 1
 have z2:w3.cell? ⟨w.heap.size+1+1,2,none⟩=some (.slice none 0 0):=cellsAt hz3 2
 have zz2:w3.frozen? ⟨w.heap.size+1+1,2,none⟩=false:=frozen_of hz3 2
 have z3:w3.cell? ⟨w.heap.size+1+1,3,none⟩=some (.slice none 0 0):=cellsAt hz3 3
 have zz3:w3.frozen? ⟨w.heap.size+1+1,3,none⟩=false:=frozen_of hz3 3
 have z4:w3.cell? ⟨w.heap.size+1+1,4,none⟩=some (.slice none 0 0):=cellsAt hz3 4
 have zz4:w3.frozen? ⟨w.heap.size+1+1,4,none⟩=false:=frozen_of hz3 4
 have z5:w3.cell? ⟨w.heap.size+1+1,5,none⟩=some (.slice none 0 0):=cellsAt hz3 5
 have zz5:w3.frozen? ⟨w.heap.size+1+1,5,none⟩=false:=frozen_of hz3 5
 have z6:w3.cell? ⟨w.heap.size+1+1,6,none⟩=some (.int .i64 0):=cellsAt hz3 6
 have zz6:w3.frozen? ⟨w.heap.size+1+1,6,none⟩=false:=frozen_of hz3 6
 have z7:w3.cell? ⟨w.heap.size+1+1,7,none⟩=some (.int .i64 0):=cellsAt hz3 7
 have zz7:w3.frozen? ⟨w.heap.size+1+1,7,none⟩=false:=frozen_of hz3 7
 have z8:w3.cell? ⟨w.heap.size+1+1,8,none⟩=some (.int .i64 0):=cellsAt hz3 8
 have zz8:w3.frozen? ⟨w.heap.size+1+1,8,none⟩=false:=frozen_of hz3 8
 have z9:w3.cell? ⟨w.heap.size+1+1,9,none⟩=some (.int .i64 0):=cellsAt hz3 9
 have zz9:w3.frozen? ⟨w.heap.size+1+1,9,none⟩=false:=frozen_of hz3 9
 have z10:w3.cell? ⟨w.heap.size+1+1,10,none⟩=some (.int .i64 0):=cellsAt hz3 10
 have zz10:w3.frozen? ⟨w.heap.size+1+1,10,none⟩=false:=frozen_of hz3 10
 have z11:w3.cell? ⟨w.heap.size+1+1,11,none⟩=some (.slice none 0 0):=cellsAt hz3 11
 have zz11:w3.frozen? ⟨w.heap.size+1+1,11,none⟩=false:=frozen_of hz3 11
 obtain ⟨W4,hW4⟩:∃ W4,W4=((((((((((((w3.setCell ⟨w.heap.size+1+1,0,none⟩ (.string t0r)).setCell ⟨w.heap.size+1+1,1,none⟩ (.string t1r)).setCell ⟨w.heap.size+1+1,2,none⟩ (.slice p2r k2r c2r)).setCell ⟨w.heap.size+1+1,3,none⟩ (.slice p3r k3r c3r)).setCell ⟨w.heap.size+1+1,4,none⟩ (.slice p4r k4r c4r)).setCell ⟨w.heap.size+1+1,5,none⟩ (.slice p5r k5r c5r)).setCell ⟨w.heap.size+1+1,6,none⟩ (.int .i64 i6r)).setCell ⟨w.heap.size+1+1,7,none⟩ (.int .i64 i7r)).setCell ⟨w.heap.size+1+1,8,none⟩ (.int .i64 i8r)).setCell ⟨w.heap.size+1+1,9,none⟩ (.int .i64 i9r)).setCell ⟨w.heap.size+1+1,10,none⟩ (.int .i64 i10r)).setCell ⟨w.heap.size+1+1,11,none⟩ (.slice p11r k11r c11r)):=⟨_,rfl⟩
 have hF4:W4=setAll (w.heap.size+1+1) [.string t0r,.string t1r,.slice p2r k2r c2r,.slice p3r k3r c3r,.slice p4r k4r c4r,.slice p5r k5r c5r,.int .i64 i6r,.int .i64 i7r,.int .i64 i8r,.int .i64 i9r,.int .i64 i10r,.slice p11r k11r c11r] 0 w3:=by rw [hW4];simp only [setAll,Nat.zero_add,Nat.reduceAdd]
 have hz4:W4.heap[w.heap.size+1+1]?=some (.cells #[.string t0r,.string t1r,.slice p2r k2r c2r,.slice p3r k3r c3r,.slice p4r k4r c4r,.slice p5r k5r c5r,.int .i64 i6r,.int .i64 i7r,.int .i64 i8r,.int .i64 i9r,.int .i64 i10r,.slice p11r k11r c11r] 30 (0,0)):=by rw [hF4];exact setAll12 hz3 _ _ _ _ _ _ _ _ _ _ _ _
 have HB4:Hid (Below w.heap.size w W4):=by rw [hF4];exact setAll_below (by omega) _ _ hbw3
 have HR4:Hid (Res W4 E { n with sv:=X } #[.string t0r,.string t1r,.slice p2r k2r c2r,.slice p3r k3r c3r,.slice p4r k4r c4r,.slice p5r k5r c5r,.int .i64 i6r,.int .i64 i7r,.int .i64 i8r,.int .i64 i9r,.int .i64 i10r,.slice p11r k11r c11r]):=by
  rcases hR3 with hR3 | ⟨h0,hR3⟩
  ·exact .inl hR3
  ·exact .inr ⟨h0,by rw [hF4];exact hR3.setAll (NBox.of hz3) _ _⟩
 go_wp2_with fail
 rw [← hW4]
 clear z0 zz0 z1 zz1 z2 zz2 z3 zz3 z4 zz4 z5 zz5 z6 zz6 z7 zz7 z8 zz8 z9 zz9 z10 zz10 z11 zz11 hF4 hW4 hR3 hz3 hbw3
 have z0:W4.cell? ⟨w.heap.size+1+1,0,none⟩=some (.string t0r):=cellsAt hz4 0
 have z1:W4.cell? ⟨w.heap.size+1+1,1,none⟩=some (.string t1r):=cellsAt hz4 1
 have z2:W4.cell? ⟨w.heap.size+1+1,2,none⟩=some (.slice p2r k2r c2r):=cellsAt hz4 2
 have z3:W4.cell? ⟨w.heap.size+1+1,3,none⟩=some (.slice p3r k3r c3r):=cellsAt hz4 3
 have z4:W4.cell? ⟨w.heap.size+1+1,4,none⟩=some (.slice p4r k4r c4r):=cellsAt hz4 4
 have z5:W4.cell? ⟨w.heap.size+1+1,5,none⟩=some (.slice p5r k5r c5r):=cellsAt hz4 5
 have z6:W4.cell? ⟨w.heap.size+1+1,6,none⟩=some (.int .i64 i6r):=cellsAt hz4 6
 have z7:W4.cell? ⟨w.heap.size+1+1,7,none⟩=some (.int .i64 i7r):=cellsAt hz4 7
 have z8:W4.cell? ⟨w.heap.size+1+1,8,none⟩=some (.int .i64 i8r):=cellsAt hz4 8
 have z9:W4.cell? ⟨w.heap.size+1+1,9,none⟩=some (.int .i64 i9r):=cellsAt hz4 9
 have z10:W4.cell? ⟨w.heap.size+1+1,10,none⟩=some (.int .i64 i10r):=cellsAt hz4 10
 have z11:W4.cell? ⟨w.heap.size+1+1,11,none⟩=some (.slice p11r k11r c11r):=cellsAt hz4 11
 refine bodyPost_ret (v:=.tuple #[.agg #[.string t0r,.string t1r,.slice p2r k2r c2r,.slice p3r k3r c3r,.slice p4r k4r c4r,.slice p5r k5r c5r,.int .i64 i6r,.int .i64 i7r,.int .i64 i8r,.int .i64 i9r,.int .i64 i10r,.slice p11r k11r c11r],.int .i64 E]) ?_ rfl ?_
 ·simp [results,Tryz.results36,go_sem,z0,z1,z2,z3,z4,z5,z6,z7,z8,z9,z10,z11]
 ·exact ⟨_,(by rw [HE1.out]),(by rw [HE1.out];exact HR4.out),HB4.out⟩
theorem below_set12 {B b:Nat} {a w:World} (h:Below B a w) (hb:B≤b) (x0 x1 x2 x3 x4 x5 x6 x7 x8 x9 x10 x11:Value):Below B a ((((((((((((w.setCell ⟨b,0,none⟩ x0).setCell ⟨b,1,none⟩ x1).setCell ⟨b,2,none⟩ x2).setCell ⟨b,3,none⟩ x3).setCell ⟨b,4,none⟩ x4).setCell ⟨b,5,none⟩ x5).setCell ⟨b,6,none⟩ x6).setCell ⟨b,7,none⟩ x7).setCell ⟨b,8,none⟩ x8).setCell ⟨b,9,none⟩ x9).setCell ⟨b,10,none⟩ x10).setCell ⟨b,11,none⟩ x11):=((((((((((((h).setCell (p:=⟨b,0,none⟩) hb _).setCell (p:=⟨b,1,none⟩) hb _).setCell (p:=⟨b,2,none⟩) hb _).setCell (p:=⟨b,3,none⟩) hb _).setCell (p:=⟨b,4,none⟩) hb _).setCell (p:=⟨b,5,none⟩) hb _).setCell (p:=⟨b,6,none⟩) hb _).setCell (p:=⟨b,7,none⟩) hb _).setCell (p:=⟨b,8,none⟩) hb _).setCell (p:=⟨b,9,none⟩) hb _).setCell (p:=⟨b,10,none⟩) hb _).setCell (p:=⟨b,11,none⟩) hb _
theorem ndOwn_set12 {B C b:Nat} {w:World} {n:Nd} {v1 v2 v3 v4 v5:Value} (h:NdOwn B w n v1 v2 v3 v4 v5) (hb:b < B) (hC:C≤B) (x0 x1 x2 x3 x4 x5 x6 x7 x8 x9 x10 x11:Value):NdOwn C ((((((((((((w.setCell ⟨b,0,none⟩ x0).setCell ⟨b,1,none⟩ x1).setCell ⟨b,2,none⟩ x2).setCell ⟨b,3,none⟩ x3).setCell ⟨b,4,none⟩ x4).setCell ⟨b,5,none⟩ x5).setCell ⟨b,6,none⟩ x6).setCell ⟨b,7,none⟩ x7).setCell ⟨b,8,none⟩ x8).setCell ⟨b,9,none⟩ x9).setCell ⟨b,10,none⟩ x10).setCell ⟨b,11,none⟩ x11) n v1 v2 v3 v4 v5:=
 ⟨Own.mono (ownsRow_setCell_below (ownsRow_setCell_below (ownsRow_setCell_below (ownsRow_setCell_below (ownsRow_setCell_below (ownsRow_setCell_below (ownsRow_setCell_below (ownsRow_setCell_below (ownsRow_setCell_below (ownsRow_setCell_below (ownsRow_setCell_below (ownsRow_setCell_below (h.ms) (a:=⟨b,0,none⟩) hb _) (a:=⟨b,1,none⟩) hb _) (a:=⟨b,2,none⟩) hb _) (a:=⟨b,3,none⟩) hb _) (a:=⟨b,4,none⟩) hb _) (a:=⟨b,5,none⟩) hb _) (a:=⟨b,6,none⟩) hb _) (a:=⟨b,7,none⟩) hb _) (a:=⟨b,8,none⟩) hb _) (a:=⟨b,9,none⟩) hb _) (a:=⟨b,10,none⟩) hb _) (a:=⟨b,11,none⟩) hb _) hC,ROwn.base (ownsRow_setCell_below (ownsRow_setCell_below (ownsRow_setCell_below (ownsRow_setCell_below (ownsRow_setCell_below (ownsRow_setCell_below (ownsRow_setCell_below (ownsRow_setCell_below (ownsRow_setCell_below (ownsRow_setCell_below (ownsRow_setCell_below (ownsRow_setCell_below (h.rs) (a:=⟨b,0,none⟩) hb _) (a:=⟨b,1,none⟩) hb _) (a:=⟨b,2,none⟩) hb _) (a:=⟨b,3,none⟩) hb _) (a:=⟨b,4,none⟩) hb _) (a:=⟨b,5,none⟩) hb _) (a:=⟨b,6,none⟩) hb _) (a:=⟨b,7,none⟩) hb _) (a:=⟨b,8,none⟩) hb _) (a:=⟨b,9,none⟩) hb _) (a:=⟨b,10,none⟩) hb _) (a:=⟨b,11,none⟩) hb _) hC,Sv.Own.mono (ownsRow_setCell_below (ownsRow_setCell_below (ownsRow_setCell_below (ownsRow_setCell_below (ownsRow_setCell_below (ownsRow_setCell_below (ownsRow_setCell_below (ownsRow_setCell_below (ownsRow_setCell_below (ownsRow_setCell_below (ownsRow_setCell_below (ownsRow_setCell_below (h.sv) (a:=⟨b,0,none⟩) hb _) (a:=⟨b,1,none⟩) hb _) (a:=⟨b,2,none⟩) hb _) (a:=⟨b,3,none⟩) hb _) (a:=⟨b,4,none⟩) hb _) (a:=⟨b,5,none⟩) hb _) (a:=⟨b,6,none⟩) hb _) (a:=⟨b,7,none⟩) hb _) (a:=⟨b,8,none⟩) hb _) (a:=⟨b,9,none⟩) hb _) (a:=⟨b,10,none⟩) hb _) (a:=⟨b,11,none⟩) hb _) hC,Gw.Own.mono (ownsRow_setCell_below (ownsRow_setCell_below (ownsRow_setCell_below (ownsRow_setCell_below (ownsRow_setCell_below (ownsRow_setCell_below (ownsRow_setCell_below (ownsRow_setCell_below (ownsRow_setCell_below (ownsRow_setCell_below (ownsRow_setCell_below (ownsRow_setCell_below (h.gw) (a:=⟨b,0,none⟩) hb _) (a:=⟨b,1,none⟩) hb _) (a:=⟨b,2,none⟩) hb _) (a:=⟨b,3,none⟩) hb _) (a:=⟨b,4,none⟩) hb _) (a:=⟨b,5,none⟩) hb _) (a:=⟨b,6,none⟩) hb _) (a:=⟨b,7,none⟩) hb _) (a:=⟨b,8,none⟩) hb _) (a:=⟨b,9,none⟩) hb _) (a:=⟨b,10,none⟩) hb _) (a:=⟨b,11,none⟩) hb _) hC,Wh.Own.mono (ownsRow_setCell_below (ownsRow_setCell_below (ownsRow_setCell_below (ownsRow_setCell_below (ownsRow_setCell_below (ownsRow_setCell_below (ownsRow_setCell_below (ownsRow_setCell_below (ownsRow_setCell_below (ownsRow_setCell_below (ownsRow_setCell_below (ownsRow_setCell_below (h.wh) (a:=⟨b,0,none⟩) hb _) (a:=⟨b,1,none⟩) hb _) (a:=⟨b,2,none⟩) hb _) (a:=⟨b,3,none⟩) hb _) (a:=⟨b,4,none⟩) hb _) (a:=⟨b,5,none⟩) hb _) (a:=⟨b,6,none⟩) hb _) (a:=⟨b,7,none⟩) hb _) (a:=⟨b,8,none⟩) hb _) (a:=⟨b,9,none⟩) hb _) (a:=⟨b,10,none⟩) hb _) (a:=⟨b,11,none⟩) hb _) hC⟩
set_option maxHeartbeats 3200000 in
theorem serveC_any (L b tb:Nat) (n:Nd) (s:Sv.Svc) (E:Int) (X:List Sv.Svc) (w:World) (h:Wk L w b n) (hL:L≤b) (hX:∀ x∈X,x.ok)
 (HC0:∀ v W,Sv.Sl W v n.sv→Calls Tryz.prog 135 #[v,svA s] W fun e w'=>∃ p l c,e=.returned (.tuple #[.slice p l c,.int .i64 E])∧Hid (Sv.Own W.heap.size w' (.slice p l c) X)∧Below W.heap.size W w')
 (hc:w.heap[tb]?=some (.cells #[.string s.node,.string s.idn,.string s.name,.string s.tag,.int .i64 s.addr,.int .i64 s.port,.bool s.passing,.int .i64 s.version,.bool s.gone] 62 (0,0))) :
 Calls Tryz.prog 83 #[.pointer (some ⟨b,0,none⟩),.pointer (some ⟨tb,0,none⟩)] w fun e w'=>e=.returned (.int .i64 (svcE n s E))∧Sh (fun k=>k=b) w w'∧Hid (svcE n s E=0→Wk L w' b { n with sv:=X }):=by
 have HC:Hid (Calls Tryz.prog 84 #[.pointer (some ⟨b,0,none⟩),.agg #[.string s.node,.string s.idn,.string s.name,.string s.tag,.int .i64 s.addr,.int .i64 s.port,.bool s.passing,.int .i64 s.version,.bool s.gone]] w fun e w'=>e=.returned (.int .i64 (svcE n s E))∧Sh (fun k=>k=b) w w'∧Hid (svcE n s E=0→Wk L w' b { n with sv:=X })):=wserve_any L b n s E X w h hL hX HC0
 have y0:w.cell? ⟨tb,0,none⟩=_:=cellsAt hc 0
 have y1:w.cell? ⟨tb,1,none⟩=_:=cellsAt hc 1
 have y2:w.cell? ⟨tb,2,none⟩=_:=cellsAt hc 2
 have y3:w.cell? ⟨tb,3,none⟩=_:=cellsAt hc 3
 have y4:w.cell? ⟨tb,4,none⟩=_:=cellsAt hc 4
 have y5:w.cell? ⟨tb,5,none⟩=_:=cellsAt hc 5
 have y6:w.cell? ⟨tb,6,none⟩=_:=cellsAt hc 6
 have y7:w.cell? ⟨tb,7,none⟩=_:=cellsAt hc 7
 have y8:w.cell? ⟨tb,8,none⟩=_:=cellsAt hc 8
 clear h hc HC0 hX
 generalize svcE n s E=we at *
 go_enter Tryz.func83,Tryz.ntmps83
 go_wp2_with fail
 refine HC.out.mono ?_
 rintro e w1 ⟨rfl,hs,hk⟩
 have HS:Hid (Sh (fun k=>k=b) w w1):=hs
 clear hs
 go_wp2_with fail
 go_ret
 exact ⟨rfl,HS.out,hk⟩
set_option maxHeartbeats 3200000 in
theorem dropC_any (L b tb:Nat) (n:Nd) (t:ByteArray) (E:Int) (X:List Sv.Svc) (w:World) (h:Wk L w b n) (hL:L≤b) (hX:∀ x∈X,x.ok)
 (HC0:∀ v W,Sv.Sl W v n.sv→Calls Tryz.prog 136 #[v,.string n.name,.string t] W fun e w'=>∃ p l c,e=.returned (.tuple #[.slice p l c,.int .i64 E])∧Hid (Sv.Own W.heap.size w' (.slice p l c) X)∧Below W.heap.size W w')
 (hc:w.heap[tb]?=some (.cells #[.string t] 9 (0,0))) :
 Calls Tryz.prog 85 #[.pointer (some ⟨b,0,none⟩),.pointer (some ⟨tb,0,none⟩)] w fun e w'=>e=.returned (.int .i64 (E))∧Sh (fun k=>k=b) w w'∧Hid (E=0→Wk L w' b { n with sv:=X }):=by
 have HC:Hid (Calls Tryz.prog 86 #[.pointer (some ⟨b,0,none⟩),.string t] w fun e w'=>e=.returned (.int .i64 (E))∧Sh (fun k=>k=b) w w'∧Hid (E=0→Wk L w' b { n with sv:=X })):=wdrop_any L b n t E X w h hL hX HC0
 have y0:w.cell? ⟨tb,0,none⟩=_:=cellsAt hc 0
 clear h hc HC0 hX
 go_enter Tryz.func85,Tryz.ntmps85
 go_wp2_with fail
 refine HC.out.mono ?_
 rintro e w1 ⟨rfl,hs,hk⟩
 have HS:Hid (Sh (fun k=>k=b) w w1):=hs
 clear hs
 go_wp2_with fail
 go_ret
 exact ⟨rfl,HS.out,hk⟩
set_option maxHeartbeats 3200000 in
theorem openC_any (L b tb:Nat) (n:Nd) (ad:Int) (E:Int) (X:List Gw.Gwy) (w:World) (h:Wk L w b n) (hL:L≤b) (hX:∀ x∈X,x.ok)
 (HC0:∀ v W,Gw.Sl W v n.gw→Calls Tryz.prog 137 #[v,.string n.centre,.int .i64 ad] W fun e w'=>∃ p l c,e=.returned (.tuple #[.slice p l c,.int .i64 E])∧Hid (Gw.Own W.heap.size w' (.slice p l c) X)∧Below W.heap.size W w')
 (hc:w.heap[tb]?=some (.cells #[.int .i64 ad] 3 (0,0))) :
 Calls Tryz.prog 87 #[.pointer (some ⟨b,0,none⟩),.pointer (some ⟨tb,0,none⟩)] w fun e w'=>e=.returned (.int .i64 (E))∧Sh (fun k=>k=b) w w'∧Hid (E=0→Wk L w' b { n with gw:=X }):=by
 have HC:Hid (Calls Tryz.prog 88 #[.pointer (some ⟨b,0,none⟩),.int .i64 ad] w fun e w'=>e=.returned (.int .i64 (E))∧Sh (fun k=>k=b) w w'∧Hid (E=0→Wk L w' b { n with gw:=X })):=wopen_any L b n ad E X w h hL hX HC0
 have y0:w.cell? ⟨tb,0,none⟩=_:=cellsAt hc 0
 clear h hc HC0 hX
 go_enter Tryz.func87,Tryz.ntmps87
 go_wp2_with fail
 refine HC.out.mono ?_
 rintro e w1 ⟨rfl,hs,hk⟩
 have HS:Hid (Sh (fun k=>k=b) w w1):=hs
 clear hs
 go_wp2_with fail
 go_ret
 exact ⟨rfl,HS.out,hk⟩
set_option maxHeartbeats 25600000 in
set_option maxRecDepth 100000 in
theorem Serve_any (n:Nd) (s:Sv.Svc) (E:Int) (X:List Sv.Svc) (vm vr vs vg vw:Value) (w:World) (h:NdIs w n vm vr vs vg vw) (hX:∀ x∈X,x.ok) (HC0:n.e=0→∀ v W,Sv.Sl W v n.sv→Calls Tryz.prog 135 #[v,svA s] W fun e w'=>∃ p l c,e=.returned (.tuple #[.slice p l c,.int .i64 E])∧Hid (Sv.Own W.heap.size w' (.slice p l c) X)∧Below W.heap.size W w') :
 Calls Tryz.prog 33 #[.agg (ndA n vm vr vs vg vw),.agg #[.string s.node,.string s.idn,.string s.name,.string s.tag,.int .i64 s.addr,.int .i64 s.port,.bool s.passing,.int .i64 s.version,.bool s.gone]] w fun e w'=>OpSays n.e (svcE n s E) ({ n with sv:=X }) w e w':=by
 have HIS:Hid (NdIs w n vm vr vs vg vw):=h
 obtain ⟨W0,hW0⟩:∃ W0,W0=w.heap.size:=⟨_,rfl⟩
 clear hW0 W0
 have HWS:Hid (∀ W0,Below w.heap.size w W0→W0.heap.size=w.heap.size+3→W0.heap[w.heap.size+1]?=some (.cells #[.string s.node,.string s.idn,.string s.name,.string s.tag,.int .i64 s.addr,.int .i64 s.port,.bool s.passing,.int .i64 s.version,.bool s.gone] 62 (0,0))→Calls Tryz.prog 54 #[.agg (ndA n vm vr vs vg vw),.func (.func 83) #[] #[.pointer (some ⟨w.heap.size+1,0,none⟩)]] W0 fun e w'=>WorkSays n.e (svcE n s E) ({ n with sv:=X }) (fun _=>False) (fun _=>True) W0 e w'):=fun W0 hb hs hc1=>
  work_any 83 #[.pointer (some ⟨w.heap.size+1,0,none⟩)] (enters_of Tryz.func83 (by kernel_rfl) rfl) n vm vr vs vg vw W0 (h.below hb) (fun _=>False) (svcE n s E) ({ n with sv:=X }) (fun _=>True)
   (fun he W b hW hb2 hk=>by
     refine (serveC_any (W0.heap.size+2) b (w.heap.size+1) n s E X W hk (by omega) hX (HC0 he) ((hW.block _ (by omega)).trans hc1)).mono ?_
     rintro e w' ⟨rfl,hs,hh⟩
     exact ⟨rfl,hs.mono (fun k hk=>.inl (by omega)),fun h=>⟨hh.out h,trivial⟩⟩
   ) (fun _ _ _ _=>trivial) (fun _ hk=>hk.elim)
 clear HC0
 obtain ⟨nm,ct,ms,rs,sv,gw,⟨px,py,pz,ph,pq⟩,wh⟩:=n
 obtain ⟨⟨em,cm,rfl,_,_⟩,⟨er_,cr,rfl,_,_⟩,⟨es,cs_,rfl,_,_⟩,⟨eg_,cg,rfl,_,_⟩,⟨eh,ch,rfl,_,_⟩,_,_⟩:=h
 simp only [ndA] at HWS ⊢
 generalize ms.length=km at *
 generalize rs.length=kr at *
 generalize sv.length=ks at *
 generalize gw.length=kg at *
 generalize wh.length=kh at *
 generalize Nd.e ⟨nm,ct,ms,rs,sv,gw,⟨px,py,pz,ph,pq⟩,wh⟩=ne at *
 generalize svcE ⟨nm,ct,ms,rs,sv,gw,⟨px,py,pz,ph,pq⟩,wh⟩ s E=er at *
 generalize (⟨nm,ct,ms,rs,X,gw,⟨px,py,pz,ph,pq⟩,wh⟩:Nd)=n' at *
 obtain ⟨W0,hW0⟩:∃ W0,W0=(((w.alloc (.cells #[.string nm,.string ct,.slice em km cm,.slice er_ kr cr,.slice es ks cs_,.slice eg_ kg cg,.int .i64 px,.int .i64 py,.int .i64 pz,.int .i64 ph,.int .i64 pq,.slice eh kh ch] 30)).alloc (.cells #[.string s.node,.string s.idn,.string s.name,.string s.tag,.int .i64 s.addr,.int .i64 s.port,.bool s.passing,.int .i64 s.version,.bool s.gone] 62)).alloc (.cells #[.string ⟨#[]⟩,.string ⟨#[]⟩,.slice none 0 0,.slice none 0 0,.slice none 0 0,.slice none 0 0,.int .i64 0,.int .i64 0,.int .i64 0,.int .i64 0,.int .i64 0,.slice none 0 0] 30)):=⟨_,rfl⟩
 have hb0:Below w.heap.size w W0:=by rw [hW0];exact (((Below.refl _ _).alloc (Nat.le_refl _) _).alloc (by simp<;>omega) _).alloc (by simp<;>omega) _
 have hs0:W0.heap.size=w.heap.size+3:=by rw [hW0];simp
 have hc1:W0.heap[w.heap.size+1]?=some (.cells #[.string s.node,.string s.idn,.string s.name,.string s.tag,.int .i64 s.addr,.int .i64 s.port,.bool s.passing,.int .i64 s.version,.bool s.gone] 62 (0,0)):=by
  have h:=heap_alloc_new (w.alloc (.cells #[.string nm,.string ct,.slice em km cm,.slice er_ kr cr,.slice es ks cs_,.slice eg_ kg cg,.int .i64 px,.int .i64 py,.int .i64 pz,.int .i64 ph,.int .i64 pq,.slice eh kh ch] 30)) (.cells #[.string s.node,.string s.idn,.string s.name,.string s.tag,.int .i64 s.addr,.int .i64 s.port,.bool s.passing,.int .i64 s.version,.bool s.gone] 62)
  rw [hW0,Below.heap_alloc _ _ _ (by simp<;>omega)];simpa using h
 have hz0:W0.heap[w.heap.size+2]?=some (.cells #[.string ⟨#[]⟩,.string ⟨#[]⟩,.slice none 0 0,.slice none 0 0,.slice none 0 0,.slice none 0 0,.int .i64 0,.int .i64 0,.int .i64 0,.int .i64 0,.int .i64 0,.slice none 0 0] 30 (0,0)):=by
  have h:=heap_alloc_new ((w.alloc (.cells #[.string nm,.string ct,.slice em km cm,.slice er_ kr cr,.slice es ks cs_,.slice eg_ kg cg,.int .i64 px,.int .i64 py,.int .i64 pz,.int .i64 ph,.int .i64 pq,.slice eh kh ch] 30)).alloc (.cells #[.string s.node,.string s.idn,.string s.name,.string s.tag,.int .i64 s.addr,.int .i64 s.port,.bool s.passing,.int .i64 s.version,.bool s.gone] 62)) (.cells #[.string ⟨#[]⟩,.string ⟨#[]⟩,.slice none 0 0,.slice none 0 0,.slice none 0 0,.slice none 0 0,.int .i64 0,.int .i64 0,.int .i64 0,.int .i64 0,.int .i64 0,.slice none 0 0] 30)
  rw [hW0];simpa using h
 have HWC:=HWS.out W0 hb0 hs0 hc1
 have HB0:Hid (Below w.heap.size w W0):=hb0
 have HZ0:Hid (W0.heap[w.heap.size+2]?=some (.cells #[.string ⟨#[]⟩,.string ⟨#[]⟩,.slice none 0 0,.slice none 0 0,.slice none 0 0,.slice none 0 0,.int .i64 0,.int .i64 0,.int .i64 0,.int .i64 0,.int .i64 0,.slice none 0 0] 30 (0,0))):=hz0
 clear hb0 hz0 HWS hc1
 go_enter Tryz.func33,Tryz.ntmps33
 go_wp2_with fail
 rw [← hW0]
 refine HWC.mono ?_
 rintro e w1 ⟨hsh,hor⟩
 have hb1:Below W0.heap.size W0 w1:=hsh.below (Nat.le_refl _) (fun _ hk=>hk.elim)
 have hz1:w1.heap[w.heap.size+2]?=_:=(hb1.block _ (by omega)).trans HZ0.out
 have HB1:Hid (Below w.heap.size w w1):=HB0.out.trans (hb1.mono (by omega))
 have hs1:w.heap.size+2 < w1.heap.size:=(Array.getElem?_eq_some_iff.1 hz1).1
 have q0:w1.cell? ⟨w.heap.size+2,0,none⟩=_:=cellsAt hz1 0
 have qz0:w1.frozen? ⟨w.heap.size+2,0,none⟩=false:=frozen_of hz1 0
 have q1:w1.cell? ⟨w.heap.size+2,1,none⟩=_:=cellsAt hz1 1
 have qz1:w1.frozen? ⟨w.heap.size+2,1,none⟩=false:=frozen_of hz1 1
 have q2:w1.cell? ⟨w.heap.size+2,2,none⟩=_:=cellsAt hz1 2
 have qz2:w1.frozen? ⟨w.heap.size+2,2,none⟩=false:=frozen_of hz1 2
 have q3:w1.cell? ⟨w.heap.size+2,3,none⟩=_:=cellsAt hz1 3
 have qz3:w1.frozen? ⟨w.heap.size+2,3,none⟩=false:=frozen_of hz1 3
 have q4:w1.cell? ⟨w.heap.size+2,4,none⟩=_:=cellsAt hz1 4
 have qz4:w1.frozen? ⟨w.heap.size+2,4,none⟩=false:=frozen_of hz1 4
 have q5:w1.cell? ⟨w.heap.size+2,5,none⟩=_:=cellsAt hz1 5
 have qz5:w1.frozen? ⟨w.heap.size+2,5,none⟩=false:=frozen_of hz1 5
 have q6:w1.cell? ⟨w.heap.size+2,6,none⟩=_:=cellsAt hz1 6
 have qz6:w1.frozen? ⟨w.heap.size+2,6,none⟩=false:=frozen_of hz1 6
 have q7:w1.cell? ⟨w.heap.size+2,7,none⟩=_:=cellsAt hz1 7
 have qz7:w1.frozen? ⟨w.heap.size+2,7,none⟩=false:=frozen_of hz1 7
 have q8:w1.cell? ⟨w.heap.size+2,8,none⟩=_:=cellsAt hz1 8
 have qz8:w1.frozen? ⟨w.heap.size+2,8,none⟩=false:=frozen_of hz1 8
 have q9:w1.cell? ⟨w.heap.size+2,9,none⟩=_:=cellsAt hz1 9
 have qz9:w1.frozen? ⟨w.heap.size+2,9,none⟩=false:=frozen_of hz1 9
 have q10:w1.cell? ⟨w.heap.size+2,10,none⟩=_:=cellsAt hz1 10
 have qz10:w1.frozen? ⟨w.heap.size+2,10,none⟩=false:=frozen_of hz1 10
 have q11:w1.cell? ⟨w.heap.size+2,11,none⟩=_:=cellsAt hz1 11
 have qz11:w1.frozen? ⟨w.heap.size+2,11,none⟩=false:=frozen_of hz1 11
 clear hsh hb1 hz1 HWC hW0
 rcases hor with ⟨hne,rfl⟩ | ⟨hne,hee,rfl⟩ | ⟨hne,hee,um,ur,us,ug,uw,rfl,hown,hok,_⟩
 ·have HNE:Hid (ne≠0):=hne
  clear hne
  go_wp2_with fail
  refine bodyPost_ret (v:=.tuple #[.agg #[.string ⟨#[]⟩,.string ⟨#[]⟩,.slice none 0 0,.slice none 0 0,.slice none 0 0,.slice none 0 0,.int .i64 0,.int .i64 0,.int .i64 0,.int .i64 0,.int .i64 0,.slice none 0 0],.int .i64 ne]) ?_ rfl ?_
  ·simp [results,Tryz.results33,go_sem,q0,q1,q2,q3,q4,q5,q6,q7,q8,q9,q10,q11]
  ·unfold OpSays
   exact ⟨below_set12 HB1.out (by omega) _ _ _ _ _ _ _ _ _ _ _ _,.inl ⟨HNE.out,rfl⟩⟩
 ·have HNE:Hid (ne=0∧er≠0):=⟨hne,hee⟩
  clear hne hee
  go_wp2_with fail
  refine bodyPost_ret (v:=.tuple #[.agg #[.string ⟨#[]⟩,.string ⟨#[]⟩,.slice none 0 0,.slice none 0 0,.slice none 0 0,.slice none 0 0,.int .i64 0,.int .i64 0,.int .i64 0,.int .i64 0,.int .i64 0,.slice none 0 0],.int .i64 er]) ?_ rfl ?_
  ·simp [results,Tryz.results33,go_sem,q0,q1,q2,q3,q4,q5,q6,q7,q8,q9,q10,q11]
  ·unfold OpSays
   exact ⟨below_set12 HB1.out (by omega) _ _ _ _ _ _ _ _ _ _ _ _,.inr (.inl ⟨HNE.out.1,HNE.out.2,rfl⟩)⟩
 ·have HNE:Hid (ne=0∧er=0):=⟨hne,hee⟩
  have HOWN:Hid (NdOwn W0.heap.size w1 n' um ur us ug uw):=hown
  have HOK2:Hid (NdOk n'):=hok
  obtain ⟨im2,jm2,hvm,_⟩:=own_slice hown.ms
  obtain ⟨ir2,jr2,hvr,_⟩:=own_slice hown.rs
  obtain ⟨is2,js2,hvs,_⟩:=own_slice hown.sv
  obtain ⟨ig2,jg2,hvg,_⟩:=own_slice hown.gw
  obtain ⟨ih2,jh2,hvh,_⟩:=own_slice hown.wh
  subst hvm hvr hvs hvg hvh
  clear hown hok hne hee
  obtain ⟨n2,c2,ms2,rs2,sv2,gw2,⟨qx,qy,qz,qh,qq⟩,wh2⟩:=n'
  go_wp2_with fail
  refine bodyPost_ret (v:=.tuple #[.agg #[.string n2,.string c2,.slice im2 ms2.length jm2,.slice ir2 rs2.length jr2,.slice is2 sv2.length js2,.slice ig2 gw2.length jg2,.int .i64 qx,.int .i64 qy,.int .i64 qz,.int .i64 qh,.int .i64 qq,.slice ih2 wh2.length jh2],.int .i64 0]) ?_ rfl ?_
  ·simp [results,Tryz.results33,go_sem,q0,q1,q2,q3,q4,q5,q6,q7,q8,q9,q10,q11]
  ·unfold OpSays
   exact ⟨below_set12 HB1.out (by omega) _ _ _ _ _ _ _ _ _ _ _ _,.inr (.inr ⟨HNE.out.1,HNE.out.2,_,_,_,_,_,rfl,ndOwn_set12 HOWN.out (by omega) (by omega) _ _ _ _ _ _ _ _ _ _ _ _,HOK2.out⟩)⟩
set_option maxHeartbeats 25600000 in
set_option maxRecDepth 100000 in
theorem Drop_any (n:Nd) (t:ByteArray) (E:Int) (X:List Sv.Svc) (vm vr vs vg vw:Value) (w:World) (h:NdIs w n vm vr vs vg vw) (hX:∀ x∈X,x.ok) (HC0:n.e=0→∀ v W,Sv.Sl W v n.sv→Calls Tryz.prog 136 #[v,.string n.name,.string t] W fun e w'=>∃ p l c,e=.returned (.tuple #[.slice p l c,.int .i64 E])∧Hid (Sv.Own W.heap.size w' (.slice p l c) X)∧Below W.heap.size W w') :
 Calls Tryz.prog 34 #[.agg (ndA n vm vr vs vg vw),.string t] w fun e w'=>OpSays n.e (E) ({ n with sv:=X }) w e w':=by
 have HIS:Hid (NdIs w n vm vr vs vg vw):=h
 obtain ⟨W0,hW0⟩:∃ W0,W0=w.heap.size:=⟨_,rfl⟩
 clear hW0 W0
 have HWS:Hid (∀ W0,Below w.heap.size w W0→W0.heap.size=w.heap.size+3→W0.heap[w.heap.size+1]?=some (.cells #[.string t] 9 (0,0))→Calls Tryz.prog 54 #[.agg (ndA n vm vr vs vg vw),.func (.func 85) #[] #[.pointer (some ⟨w.heap.size+1,0,none⟩)]] W0 fun e w'=>WorkSays n.e (E) ({ n with sv:=X }) (fun _=>False) (fun _=>True) W0 e w'):=fun W0 hb hs hc1=>
  work_any 85 #[.pointer (some ⟨w.heap.size+1,0,none⟩)] (enters_of Tryz.func85 (by kernel_rfl) rfl) n vm vr vs vg vw W0 (h.below hb) (fun _=>False) (E) ({ n with sv:=X }) (fun _=>True)
   (fun he W b hW hb2 hk=>by
     refine (dropC_any (W0.heap.size+2) b (w.heap.size+1) n t E X W hk (by omega) hX (HC0 he) ((hW.block _ (by omega)).trans hc1)).mono ?_
     rintro e w' ⟨rfl,hs,hh⟩
     exact ⟨rfl,hs.mono (fun k hk=>.inl (by omega)),fun h=>⟨hh.out h,trivial⟩⟩
   ) (fun _ _ _ _=>trivial) (fun _ hk=>hk.elim)
 clear HC0
 obtain ⟨nm,ct,ms,rs,sv,gw,⟨px,py,pz,ph,pq⟩,wh⟩:=n
 obtain ⟨⟨em,cm,rfl,_,_⟩,⟨er_,cr,rfl,_,_⟩,⟨es,cs_,rfl,_,_⟩,⟨eg_,cg,rfl,_,_⟩,⟨eh,ch,rfl,_,_⟩,_,_⟩:=h
 simp only [ndA] at HWS ⊢
 generalize ms.length=km at *
 generalize rs.length=kr at *
 generalize sv.length=ks at *
 generalize gw.length=kg at *
 generalize wh.length=kh at *
 generalize Nd.e ⟨nm,ct,ms,rs,sv,gw,⟨px,py,pz,ph,pq⟩,wh⟩=ne at *
 generalize E=er at *
 generalize (⟨nm,ct,ms,rs,X,gw,⟨px,py,pz,ph,pq⟩,wh⟩:Nd)=n' at *
 obtain ⟨W0,hW0⟩:∃ W0,W0=(((w.alloc (.cells #[.string nm,.string ct,.slice em km cm,.slice er_ kr cr,.slice es ks cs_,.slice eg_ kg cg,.int .i64 px,.int .i64 py,.int .i64 pz,.int .i64 ph,.int .i64 pq,.slice eh kh ch] 30)).alloc (.cells #[.string t] 9)).alloc (.cells #[.string ⟨#[]⟩,.string ⟨#[]⟩,.slice none 0 0,.slice none 0 0,.slice none 0 0,.slice none 0 0,.int .i64 0,.int .i64 0,.int .i64 0,.int .i64 0,.int .i64 0,.slice none 0 0] 30)):=⟨_,rfl⟩
 have hb0:Below w.heap.size w W0:=by rw [hW0];exact (((Below.refl _ _).alloc (Nat.le_refl _) _).alloc (by simp<;>omega) _).alloc (by simp<;>omega) _
 have hs0:W0.heap.size=w.heap.size+3:=by rw [hW0];simp
 have hc1:W0.heap[w.heap.size+1]?=some (.cells #[.string t] 9 (0,0)):=by
  have h:=heap_alloc_new (w.alloc (.cells #[.string nm,.string ct,.slice em km cm,.slice er_ kr cr,.slice es ks cs_,.slice eg_ kg cg,.int .i64 px,.int .i64 py,.int .i64 pz,.int .i64 ph,.int .i64 pq,.slice eh kh ch] 30)) (.cells #[.string t] 9)
  rw [hW0,Below.heap_alloc _ _ _ (by simp<;>omega)];simpa using h
 have hz0:W0.heap[w.heap.size+2]?=some (.cells #[.string ⟨#[]⟩,.string ⟨#[]⟩,.slice none 0 0,.slice none 0 0,.slice none 0 0,.slice none 0 0,.int .i64 0,.int .i64 0,.int .i64 0,.int .i64 0,.int .i64 0,.slice none 0 0] 30 (0,0)):=by
  have h:=heap_alloc_new ((w.alloc (.cells #[.string nm,.string ct,.slice em km cm,.slice er_ kr cr,.slice es ks cs_,.slice eg_ kg cg,.int .i64 px,.int .i64 py,.int .i64 pz,.int .i64 ph,.int .i64 pq,.slice eh kh ch] 30)).alloc (.cells #[.string t] 9)) (.cells #[.string ⟨#[]⟩,.string ⟨#[]⟩,.slice none 0 0,.slice none 0 0,.slice none 0 0,.slice none 0 0,.int .i64 0,.int .i64 0,.int .i64 0,.int .i64 0,.int .i64 0,.slice none 0 0] 30)
  rw [hW0];simpa using h
 have HWC:=HWS.out W0 hb0 hs0 hc1
 have HB0:Hid (Below w.heap.size w W0):=hb0
 have HZ0:Hid (W0.heap[w.heap.size+2]?=some (.cells #[.string ⟨#[]⟩,.string ⟨#[]⟩,.slice none 0 0,.slice none 0 0,.slice none 0 0,.slice none 0 0,.int .i64 0,.int .i64 0,.int .i64 0,.int .i64 0,.int .i64 0,.slice none 0 0] 30 (0,0))):=hz0
 clear hb0 hz0 HWS hc1
 go_enter Tryz.func34,Tryz.ntmps34
 go_wp2_with fail
 rw [← hW0]
 refine HWC.mono ?_
 rintro e w1 ⟨hsh,hor⟩
 have hb1:Below W0.heap.size W0 w1:=hsh.below (Nat.le_refl _) (fun _ hk=>hk.elim)
 have hz1:w1.heap[w.heap.size+2]?=_:=(hb1.block _ (by omega)).trans HZ0.out
 have HB1:Hid (Below w.heap.size w w1):=HB0.out.trans (hb1.mono (by omega))
 have hs1:w.heap.size+2 < w1.heap.size:=(Array.getElem?_eq_some_iff.1 hz1).1
 have q0:w1.cell? ⟨w.heap.size+2,0,none⟩=_:=cellsAt hz1 0
 have qz0:w1.frozen? ⟨w.heap.size+2,0,none⟩=false:=frozen_of hz1 0
 have q1:w1.cell? ⟨w.heap.size+2,1,none⟩=_:=cellsAt hz1 1
 have qz1:w1.frozen? ⟨w.heap.size+2,1,none⟩=false:=frozen_of hz1 1
 have q2:w1.cell? ⟨w.heap.size+2,2,none⟩=_:=cellsAt hz1 2
 have qz2:w1.frozen? ⟨w.heap.size+2,2,none⟩=false:=frozen_of hz1 2
 have q3:w1.cell? ⟨w.heap.size+2,3,none⟩=_:=cellsAt hz1 3
 have qz3:w1.frozen? ⟨w.heap.size+2,3,none⟩=false:=frozen_of hz1 3
 have q4:w1.cell? ⟨w.heap.size+2,4,none⟩=_:=cellsAt hz1 4
 have qz4:w1.frozen? ⟨w.heap.size+2,4,none⟩=false:=frozen_of hz1 4
 have q5:w1.cell? ⟨w.heap.size+2,5,none⟩=_:=cellsAt hz1 5
 have qz5:w1.frozen? ⟨w.heap.size+2,5,none⟩=false:=frozen_of hz1 5
 have q6:w1.cell? ⟨w.heap.size+2,6,none⟩=_:=cellsAt hz1 6
 have qz6:w1.frozen? ⟨w.heap.size+2,6,none⟩=false:=frozen_of hz1 6
 have q7:w1.cell? ⟨w.heap.size+2,7,none⟩=_:=cellsAt hz1 7
 have qz7:w1.frozen? ⟨w.heap.size+2,7,none⟩=false:=frozen_of hz1 7
 have q8:w1.cell? ⟨w.heap.size+2,8,none⟩=_:=cellsAt hz1 8
 have qz8:w1.frozen? ⟨w.heap.size+2,8,none⟩=false:=frozen_of hz1 8
 have q9:w1.cell? ⟨w.heap.size+2,9,none⟩=_:=cellsAt hz1 9
 have qz9:w1.frozen? ⟨w.heap.size+2,9,none⟩=false:=frozen_of hz1 9
 have q10:w1.cell? ⟨w.heap.size+2,10,none⟩=_:=cellsAt hz1 10
 have qz10:w1.frozen? ⟨w.heap.size+2,10,none⟩=false:=frozen_of hz1 10
 have q11:w1.cell? ⟨w.heap.size+2,11,none⟩=_:=cellsAt hz1 11
 have qz11:w1.frozen? ⟨w.heap.size+2,11,none⟩=false:=frozen_of hz1 11
 clear hsh hb1 hz1 HWC hW0
 rcases hor with ⟨hne,rfl⟩ | ⟨hne,hee,rfl⟩ | ⟨hne,hee,um,ur,us,ug,uw,rfl,hown,hok,_⟩
 ·have HNE:Hid (ne≠0):=hne
  clear hne
  go_wp2_with fail
  refine bodyPost_ret (v:=.tuple #[.agg #[.string ⟨#[]⟩,.string ⟨#[]⟩,.slice none 0 0,.slice none 0 0,.slice none 0 0,.slice none 0 0,.int .i64 0,.int .i64 0,.int .i64 0,.int .i64 0,.int .i64 0,.slice none 0 0],.int .i64 ne]) ?_ rfl ?_
  ·simp [results,Tryz.results34,go_sem,q0,q1,q2,q3,q4,q5,q6,q7,q8,q9,q10,q11]
  ·unfold OpSays
   exact ⟨below_set12 HB1.out (by omega) _ _ _ _ _ _ _ _ _ _ _ _,.inl ⟨HNE.out,rfl⟩⟩
 ·have HNE:Hid (ne=0∧er≠0):=⟨hne,hee⟩
  clear hne hee
  go_wp2_with fail
  refine bodyPost_ret (v:=.tuple #[.agg #[.string ⟨#[]⟩,.string ⟨#[]⟩,.slice none 0 0,.slice none 0 0,.slice none 0 0,.slice none 0 0,.int .i64 0,.int .i64 0,.int .i64 0,.int .i64 0,.int .i64 0,.slice none 0 0],.int .i64 er]) ?_ rfl ?_
  ·simp [results,Tryz.results34,go_sem,q0,q1,q2,q3,q4,q5,q6,q7,q8,q9,q10,q11]
  ·unfold OpSays
   exact ⟨below_set12 HB1.out (by omega) _ _ _ _ _ _ _ _ _ _ _ _,.inr (.inl ⟨HNE.out.1,HNE.out.2,rfl⟩)⟩
 ·have HNE:Hid (ne=0∧er=0):=⟨hne,hee⟩
  have HOWN:Hid (NdOwn W0.heap.size w1 n' um ur us ug uw):=hown
  have HOK2:Hid (NdOk n'):=hok
  obtain ⟨im2,jm2,hvm,_⟩:=own_slice hown.ms
  obtain ⟨ir2,jr2,hvr,_⟩:=own_slice hown.rs
  obtain ⟨is2,js2,hvs,_⟩:=own_slice hown.sv
  obtain ⟨ig2,jg2,hvg,_⟩:=own_slice hown.gw
  obtain ⟨ih2,jh2,hvh,_⟩:=own_slice hown.wh
  subst hvm hvr hvs hvg hvh
  clear hown hok hne hee
  obtain ⟨n2,c2,ms2,rs2,sv2,gw2,⟨qx,qy,qz,qh,qq⟩,wh2⟩:=n'
  go_wp2_with fail
  refine bodyPost_ret (v:=.tuple #[.agg #[.string n2,.string c2,.slice im2 ms2.length jm2,.slice ir2 rs2.length jr2,.slice is2 sv2.length js2,.slice ig2 gw2.length jg2,.int .i64 qx,.int .i64 qy,.int .i64 qz,.int .i64 qh,.int .i64 qq,.slice ih2 wh2.length jh2],.int .i64 0]) ?_ rfl ?_
  ·simp [results,Tryz.results34,go_sem,q0,q1,q2,q3,q4,q5,q6,q7,q8,q9,q10,q11]
  ·unfold OpSays
   exact ⟨below_set12 HB1.out (by omega) _ _ _ _ _ _ _ _ _ _ _ _,.inr (.inr ⟨HNE.out.1,HNE.out.2,_,_,_,_,_,rfl,ndOwn_set12 HOWN.out (by omega) (by omega) _ _ _ _ _ _ _ _ _ _ _ _,HOK2.out⟩)⟩
set_option maxHeartbeats 25600000 in
set_option maxRecDepth 100000 in
theorem Open_any (n:Nd) (ad:Int) (E:Int) (X:List Gw.Gwy) (vm vr vs vg vw:Value) (w:World) (h:NdIs w n vm vr vs vg vw) (hX:∀ x∈X,x.ok) (HC0:n.e=0→∀ v W,Gw.Sl W v n.gw→Calls Tryz.prog 137 #[v,.string n.centre,.int .i64 ad] W fun e w'=>∃ p l c,e=.returned (.tuple #[.slice p l c,.int .i64 E])∧Hid (Gw.Own W.heap.size w' (.slice p l c) X)∧Below W.heap.size W w') :
 Calls Tryz.prog 35 #[.agg (ndA n vm vr vs vg vw),.int .i64 ad] w fun e w'=>OpSays n.e (E) ({ n with gw:=X }) w e w':=by
 have HIS:Hid (NdIs w n vm vr vs vg vw):=h
 obtain ⟨W0,hW0⟩:∃ W0,W0=w.heap.size:=⟨_,rfl⟩
 clear hW0 W0
 have HWS:Hid (∀ W0,Below w.heap.size w W0→W0.heap.size=w.heap.size+3→W0.heap[w.heap.size+1]?=some (.cells #[.int .i64 ad] 3 (0,0))→Calls Tryz.prog 54 #[.agg (ndA n vm vr vs vg vw),.func (.func 87) #[] #[.pointer (some ⟨w.heap.size+1,0,none⟩)]] W0 fun e w'=>WorkSays n.e (E) ({ n with gw:=X }) (fun _=>False) (fun _=>True) W0 e w'):=fun W0 hb hs hc1=>
  work_any 87 #[.pointer (some ⟨w.heap.size+1,0,none⟩)] (enters_of Tryz.func87 (by kernel_rfl) rfl) n vm vr vs vg vw W0 (h.below hb) (fun _=>False) (E) ({ n with gw:=X }) (fun _=>True)
   (fun he W b hW hb2 hk=>by
     refine (openC_any (W0.heap.size+2) b (w.heap.size+1) n ad E X W hk (by omega) hX (HC0 he) ((hW.block _ (by omega)).trans hc1)).mono ?_
     rintro e w' ⟨rfl,hs,hh⟩
     exact ⟨rfl,hs.mono (fun k hk=>.inl (by omega)),fun h=>⟨hh.out h,trivial⟩⟩
   ) (fun _ _ _ _=>trivial) (fun _ hk=>hk.elim)
 clear HC0
 obtain ⟨nm,ct,ms,rs,sv,gw,⟨px,py,pz,ph,pq⟩,wh⟩:=n
 obtain ⟨⟨em,cm,rfl,_,_⟩,⟨er_,cr,rfl,_,_⟩,⟨es,cs_,rfl,_,_⟩,⟨eg_,cg,rfl,_,_⟩,⟨eh,ch,rfl,_,_⟩,_,_⟩:=h
 simp only [ndA] at HWS ⊢
 generalize ms.length=km at *
 generalize rs.length=kr at *
 generalize sv.length=ks at *
 generalize gw.length=kg at *
 generalize wh.length=kh at *
 generalize Nd.e ⟨nm,ct,ms,rs,sv,gw,⟨px,py,pz,ph,pq⟩,wh⟩=ne at *
 generalize E=er at *
 generalize (⟨nm,ct,ms,rs,sv,X,⟨px,py,pz,ph,pq⟩,wh⟩:Nd)=n' at *
 obtain ⟨W0,hW0⟩:∃ W0,W0=(((w.alloc (.cells #[.string nm,.string ct,.slice em km cm,.slice er_ kr cr,.slice es ks cs_,.slice eg_ kg cg,.int .i64 px,.int .i64 py,.int .i64 pz,.int .i64 ph,.int .i64 pq,.slice eh kh ch] 30)).alloc (.cells #[.int .i64 ad] 3)).alloc (.cells #[.string ⟨#[]⟩,.string ⟨#[]⟩,.slice none 0 0,.slice none 0 0,.slice none 0 0,.slice none 0 0,.int .i64 0,.int .i64 0,.int .i64 0,.int .i64 0,.int .i64 0,.slice none 0 0] 30)):=⟨_,rfl⟩
 have hb0:Below w.heap.size w W0:=by rw [hW0];exact (((Below.refl _ _).alloc (Nat.le_refl _) _).alloc (by simp<;>omega) _).alloc (by simp<;>omega) _
 have hs0:W0.heap.size=w.heap.size+3:=by rw [hW0];simp
 have hc1:W0.heap[w.heap.size+1]?=some (.cells #[.int .i64 ad] 3 (0,0)):=by
  have h:=heap_alloc_new (w.alloc (.cells #[.string nm,.string ct,.slice em km cm,.slice er_ kr cr,.slice es ks cs_,.slice eg_ kg cg,.int .i64 px,.int .i64 py,.int .i64 pz,.int .i64 ph,.int .i64 pq,.slice eh kh ch] 30)) (.cells #[.int .i64 ad] 3)
  rw [hW0,Below.heap_alloc _ _ _ (by simp<;>omega)];simpa using h
 have hz0:W0.heap[w.heap.size+2]?=some (.cells #[.string ⟨#[]⟩,.string ⟨#[]⟩,.slice none 0 0,.slice none 0 0,.slice none 0 0,.slice none 0 0,.int .i64 0,.int .i64 0,.int .i64 0,.int .i64 0,.int .i64 0,.slice none 0 0] 30 (0,0)):=by
  have h:=heap_alloc_new ((w.alloc (.cells #[.string nm,.string ct,.slice em km cm,.slice er_ kr cr,.slice es ks cs_,.slice eg_ kg cg,.int .i64 px,.int .i64 py,.int .i64 pz,.int .i64 ph,.int .i64 pq,.slice eh kh ch] 30)).alloc (.cells #[.int .i64 ad] 3)) (.cells #[.string ⟨#[]⟩,.string ⟨#[]⟩,.slice none 0 0,.slice none 0 0,.slice none 0 0,.slice none 0 0,.int .i64 0,.int .i64 0,.int .i64 0,.int .i64 0,.int .i64 0,.slice none 0 0] 30)
  rw [hW0];simpa using h
 have HWC:=HWS.out W0 hb0 hs0 hc1
 have HB0:Hid (Below w.heap.size w W0):=hb0
 have HZ0:Hid (W0.heap[w.heap.size+2]?=some (.cells #[.string ⟨#[]⟩,.string ⟨#[]⟩,.slice none 0 0,.slice none 0 0,.slice none 0 0,.slice none 0 0,.int .i64 0,.int .i64 0,.int .i64 0,.int .i64 0,.int .i64 0,.slice none 0 0] 30 (0,0))):=hz0
 clear hb0 hz0 HWS hc1
 go_enter Tryz.func35,Tryz.ntmps35
 go_wp2_with fail
 rw [← hW0]
 refine HWC.mono ?_
 rintro e w1 ⟨hsh,hor⟩
 have hb1:Below W0.heap.size W0 w1:=hsh.below (Nat.le_refl _) (fun _ hk=>hk.elim)
 have hz1:w1.heap[w.heap.size+2]?=_:=(hb1.block _ (by omega)).trans HZ0.out
 have HB1:Hid (Below w.heap.size w w1):=HB0.out.trans (hb1.mono (by omega))
 have hs1:w.heap.size+2 < w1.heap.size:=(Array.getElem?_eq_some_iff.1 hz1).1
 have q0:w1.cell? ⟨w.heap.size+2,0,none⟩=_:=cellsAt hz1 0
 have qz0:w1.frozen? ⟨w.heap.size+2,0,none⟩=false:=frozen_of hz1 0
 have q1:w1.cell? ⟨w.heap.size+2,1,none⟩=_:=cellsAt hz1 1
 have qz1:w1.frozen? ⟨w.heap.size+2,1,none⟩=false:=frozen_of hz1 1
 have q2:w1.cell? ⟨w.heap.size+2,2,none⟩=_:=cellsAt hz1 2
 have qz2:w1.frozen? ⟨w.heap.size+2,2,none⟩=false:=frozen_of hz1 2
 have q3:w1.cell? ⟨w.heap.size+2,3,none⟩=_:=cellsAt hz1 3
 have qz3:w1.frozen? ⟨w.heap.size+2,3,none⟩=false:=frozen_of hz1 3
 have q4:w1.cell? ⟨w.heap.size+2,4,none⟩=_:=cellsAt hz1 4
 have qz4:w1.frozen? ⟨w.heap.size+2,4,none⟩=false:=frozen_of hz1 4
 have q5:w1.cell? ⟨w.heap.size+2,5,none⟩=_:=cellsAt hz1 5
 have qz5:w1.frozen? ⟨w.heap.size+2,5,none⟩=false:=frozen_of hz1 5
 have q6:w1.cell? ⟨w.heap.size+2,6,none⟩=_:=cellsAt hz1 6
 have qz6:w1.frozen? ⟨w.heap.size+2,6,none⟩=false:=frozen_of hz1 6
 have q7:w1.cell? ⟨w.heap.size+2,7,none⟩=_:=cellsAt hz1 7
 have qz7:w1.frozen? ⟨w.heap.size+2,7,none⟩=false:=frozen_of hz1 7
 have q8:w1.cell? ⟨w.heap.size+2,8,none⟩=_:=cellsAt hz1 8
 have qz8:w1.frozen? ⟨w.heap.size+2,8,none⟩=false:=frozen_of hz1 8
 have q9:w1.cell? ⟨w.heap.size+2,9,none⟩=_:=cellsAt hz1 9
 have qz9:w1.frozen? ⟨w.heap.size+2,9,none⟩=false:=frozen_of hz1 9
 have q10:w1.cell? ⟨w.heap.size+2,10,none⟩=_:=cellsAt hz1 10
 have qz10:w1.frozen? ⟨w.heap.size+2,10,none⟩=false:=frozen_of hz1 10
 have q11:w1.cell? ⟨w.heap.size+2,11,none⟩=_:=cellsAt hz1 11
 have qz11:w1.frozen? ⟨w.heap.size+2,11,none⟩=false:=frozen_of hz1 11
 clear hsh hb1 hz1 HWC hW0
 rcases hor with ⟨hne,rfl⟩ | ⟨hne,hee,rfl⟩ | ⟨hne,hee,um,ur,us,ug,uw,rfl,hown,hok,_⟩
 ·have HNE:Hid (ne≠0):=hne
  clear hne
  go_wp2_with fail
  refine bodyPost_ret (v:=.tuple #[.agg #[.string ⟨#[]⟩,.string ⟨#[]⟩,.slice none 0 0,.slice none 0 0,.slice none 0 0,.slice none 0 0,.int .i64 0,.int .i64 0,.int .i64 0,.int .i64 0,.int .i64 0,.slice none 0 0],.int .i64 ne]) ?_ rfl ?_
  ·simp [results,Tryz.results35,go_sem,q0,q1,q2,q3,q4,q5,q6,q7,q8,q9,q10,q11]
  ·unfold OpSays
   exact ⟨below_set12 HB1.out (by omega) _ _ _ _ _ _ _ _ _ _ _ _,.inl ⟨HNE.out,rfl⟩⟩
 ·have HNE:Hid (ne=0∧er≠0):=⟨hne,hee⟩
  clear hne hee
  go_wp2_with fail
  refine bodyPost_ret (v:=.tuple #[.agg #[.string ⟨#[]⟩,.string ⟨#[]⟩,.slice none 0 0,.slice none 0 0,.slice none 0 0,.slice none 0 0,.int .i64 0,.int .i64 0,.int .i64 0,.int .i64 0,.int .i64 0,.slice none 0 0],.int .i64 er]) ?_ rfl ?_
  ·simp [results,Tryz.results35,go_sem,q0,q1,q2,q3,q4,q5,q6,q7,q8,q9,q10,q11]
  ·unfold OpSays
   exact ⟨below_set12 HB1.out (by omega) _ _ _ _ _ _ _ _ _ _ _ _,.inr (.inl ⟨HNE.out.1,HNE.out.2,rfl⟩)⟩
 ·have HNE:Hid (ne=0∧er=0):=⟨hne,hee⟩
  have HOWN:Hid (NdOwn W0.heap.size w1 n' um ur us ug uw):=hown
  have HOK2:Hid (NdOk n'):=hok
  obtain ⟨im2,jm2,hvm,_⟩:=own_slice hown.ms
  obtain ⟨ir2,jr2,hvr,_⟩:=own_slice hown.rs
  obtain ⟨is2,js2,hvs,_⟩:=own_slice hown.sv
  obtain ⟨ig2,jg2,hvg,_⟩:=own_slice hown.gw
  obtain ⟨ih2,jh2,hvh,_⟩:=own_slice hown.wh
  subst hvm hvr hvs hvg hvh
  clear hown hok hne hee
  obtain ⟨n2,c2,ms2,rs2,sv2,gw2,⟨qx,qy,qz,qh,qq⟩,wh2⟩:=n'
  go_wp2_with fail
  refine bodyPost_ret (v:=.tuple #[.agg #[.string n2,.string c2,.slice im2 ms2.length jm2,.slice ir2 rs2.length jr2,.slice is2 sv2.length js2,.slice ig2 gw2.length jg2,.int .i64 qx,.int .i64 qy,.int .i64 qz,.int .i64 qh,.int .i64 qq,.slice ih2 wh2.length jh2],.int .i64 0]) ?_ rfl ?_
  ·simp [results,Tryz.results35,go_sem,q0,q1,q2,q3,q4,q5,q6,q7,q8,q9,q10,q11]
  ·unfold OpSays
   exact ⟨below_set12 HB1.out (by omega) _ _ _ _ _ _ _ _ _ _ _ _,.inr (.inr ⟨HNE.out.1,HNE.out.2,_,_,_,_,_,rfl,ndOwn_set12 HOWN.out (by omega) (by omega) _ _ _ _ _ _ _ _ _ _ _ _,HOK2.out⟩)⟩
end Go.Proofs.YtikgjgmgbfjcgaaGreat
namespace Go.Proofs.YtikgjgmgbfjcgaaGreat
open Go.ChangeShapes Go.WideShapes Go.ChangeAt Go.RowKit
section
variable {H:Type} {enc:TypeId × Value→H} {w:World} {base:Nat} {spare:Nat→Bool} {held:Bool}
set_option maxRecDepth 100000 in
theorem open_svc {r:Reach} {b0:Nat} {v:Value} {d:DataW H} {p:List MemPlace} (hv:Value.okWide Tryz.prog w r b0 62 v) (h:DataW.Trod enc Tryz.prog w base spare held 62 v d p) :
 ∃ s:Sv.Svc,v=svA s∧s.ok:=by
 obtain ⟨cs,rfl,hsz⟩:=okWide_struct Tryz.underlying62 hv
 obtain ⟨fuel,hf⟩:=h
 obtain ⟨s,hm,hs⟩:=Sv.elT_of_trod hf
 refine ⟨s,?_,hs⟩
 simp only [Value.cells] at hm
 simp only [svA]
 congr 1
 apply Array.ext'
 exact hm
end
end Go.Proofs.YtikgjgmgbfjcgaaGreat
