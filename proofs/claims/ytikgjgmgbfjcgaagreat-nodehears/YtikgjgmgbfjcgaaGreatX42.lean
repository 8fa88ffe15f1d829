import Derived.Test.YtikgjgmgbfjcgaaGreatX36
import Derived.Test.YtikgjgmgbfjcgaaGreatX21
import Derived.Test.YtikgjgmgbfjcgaaGreatX41
import Derived.Test.YtikgjgmgbfjcgaaGreatX35
namespace Go.Proofs.YtikgjgmgbfjcgaaGreat
open Go.RowKit
def NBox (W:World) (b:Nat):Prop:=∃ t0 t1 p2 k2 c2 p3 k3 c3 p4 k4 c4 p5 k5 c5 i6 i7 i8 i9 i10 p11 k11 c11 T f,W.heap[b]?=some (.cells (ndV t0 t1 p2 k2 c2 p3 k3 c3 p4 k4 c4 p5 k5 c5 i6 i7 i8 i9 i10 p11 k11 c11) T f)
theorem cell_same {W W':World} {g:Nat} (h:W'.heap[g]?=W.heap[g]?) (o:Nat):W'.cell? ⟨g,o,none⟩=W.cell? ⟨g,o,none⟩:=by
 simp only [World.cell?,h]
theorem NBox.str {W:World} {b off:Nat} {s:ByteArray} (h:NBox W b) (h1:W.cell? ⟨b,off,none⟩=some (.string s)):off=0∨off=1:=by
 obtain ⟨t0,t1,p2,k2,c2,p3,k3,c3,p4,k4,c4,p5,k5,c5,i6,i7,i8,i9,i10,p11,k11,c11,T,f,hg⟩:=h
 rw [cellsAt hg] at h1
 match off,h1 with
 | 0,_=>exact .inl rfl
 | 1,_=>exact .inr rfl
 | 2,h1=>simp [ndV] at h1
 | 3,h1=>simp [ndV] at h1
 | 4,h1=>simp [ndV] at h1
 | 5,h1=>simp [ndV] at h1
 | 6,h1=>simp [ndV] at h1
 | 7,h1=>simp [ndV] at h1
 | 8,h1=>simp [ndV] at h1
 | 9,h1=>simp [ndV] at h1
 | 10,h1=>simp [ndV] at h1
 | 11,h1=>simp [ndV] at h1
 | k+12,h1=>simp [ndV] at h1
theorem NBox.int {W:World} {b off:Nat} {s:ByteArray} {i:Int} (h:NBox W b) (h1:W.cell? ⟨b,off,none⟩=some (.string s)) (h2:W.cell? ⟨b,off+1,none⟩=some (.int .i64 i)):False:=by
 have h3:=h.str h1
 obtain ⟨t0,t1,p2,k2,c2,p3,k3,c3,p4,k4,c4,p5,k5,c5,i6,i7,i8,i9,i10,p11,k11,c11,T,f,hg⟩:=h
 rw [cellsAt hg] at h2
 rcases h3 with rfl | rfl
 ·simp [ndV] at h2
 ·simp [ndV] at h2
theorem NBox.two {W:World} {b off:Nat} {s t:ByteArray} (h:NBox W b) (h1:W.cell? ⟨b,off,none⟩=some (.string s)) (h2:W.cell? ⟨b,off+2,none⟩=some (.string t)):False:=by
 have h3:=h.str h1
 obtain ⟨t0,t1,p2,k2,c2,p3,k3,c3,p4,k4,c4,p5,k5,c5,i6,i7,i8,i9,i10,p11,k11,c11,T,f,hg⟩:=h
 rw [cellsAt hg] at h2
 rcases h3 with rfl | rfl
 ·simp [ndV] at h2
 ·simp [ndV] at h2
theorem sl_sh1 {W W':World} {b:Nat} {v:Value} {L:List Mem} (h:Sl W v L) (hn:NBox W b) (hs:Sh (fun k=>k=b) W W'):Sl W' v L:=by
 obtain ⟨a,c,hv,hz,h⟩:=h
 refine ⟨a,c,hv,hz,?_⟩
 rcases h with h | ⟨g,off,ha,hlt,hr⟩
 ·exact .inl h
 ·by_cases h0:L=[]
  ·exact .inl h0
  ·have hp:0 < L.length:=List.length_pos_iff.2 h0
   have hne:g≠b:=fun e=>by
    subst e
    have h1:=(hr 0 hp).1
    have h2:=(hr 0 hp).2.1
    simp only [Nat.zero_mul,Nat.add_zero] at h1 h2
    exact hn.int h1 h2
   have hb:=hs.block g hlt hne
   have hsz:=hs.size
   refine .inr ⟨g,off,ha,by omega,fun j hj=>?_⟩
   obtain ⟨c0,c1,c2,c3,c4⟩:=hr j hj
   exact ⟨(cell_same hb _).trans c0,(cell_same hb _).trans c1,(cell_same hb _).trans c2,(cell_same hb _).trans c3,(cell_same hb _).trans c4⟩
theorem rsl_sh1 {W W':World} {b:Nat} {v:Value} {L:List Rum} (h:RSl W v L) (hn:NBox W b) (hs:Sh (fun k=>k=b) W W'):RSl W' v L:=by
 obtain ⟨a,c,hv,hz,h⟩:=h
 refine ⟨a,c,hv,hz,?_⟩
 rcases h with h | ⟨g,off,ha,hlt,hr⟩
 ·exact .inl h
 ·by_cases h0:L=[]
  ·exact .inl h0
  ·have hp:0 < L.length:=List.length_pos_iff.2 h0
   have hne:g≠b:=fun e=>by
    subst e
    have h1:=(hr 0 hp).1
    have h2:=(hr 0 hp).2.1
    simp only [Nat.zero_mul,Nat.add_zero] at h1 h2
    exact hn.int h1 h2
   have hb:=hs.block g hlt hne
   have hsz:=hs.size
   refine .inr ⟨g,off,ha,by omega,fun j hj=>?_⟩
   obtain ⟨c0,c1,c2,c3,c4,c5⟩:=hr j hj
   exact ⟨(cell_same hb _).trans c0,(cell_same hb _).trans c1,(cell_same hb _).trans c2,(cell_same hb _).trans c3,(cell_same hb _).trans c4,(cell_same hb _).trans c5⟩
theorem svl_sh1 {W W':World} {b:Nat} {v:Value} {L:List Sv.Svc} (h:Sv.Sl W v L) (hn:NBox W b) (hs:Sh (fun k=>k=b) W W'):Sv.Sl W' v L:=by
 obtain ⟨a,c,hv,hz,h⟩:=h
 refine ⟨a,c,hv,hz,?_⟩
 rcases h with h | ⟨g,off,ha,hlt,hr⟩
 ·exact .inl h
 ·by_cases h0:L=[]
  ·exact .inl h0
  ·have hp:0 < L.length:=List.length_pos_iff.2 h0
   have hne:g≠b:=fun e=>by
    subst e
    have h1:=(hr 0 hp).1
    have h2:=(hr 0 hp).2.2.1
    simp only [Nat.zero_mul,Nat.add_zero] at h1 h2
    exact hn.two h1 h2
   have hb:=hs.block g hlt hne
   have hsz:=hs.size
   refine .inr ⟨g,off,ha,by omega,fun j hj=>?_⟩
   obtain ⟨c0,c1,c2,c3,c4,c5,c6,c7,c8⟩:=hr j hj
   exact ⟨(cell_same hb _).trans c0,(cell_same hb _).trans c1,(cell_same hb _).trans c2,(cell_same hb _).trans c3,(cell_same hb _).trans c4,(cell_same hb _).trans c5,(cell_same hb _).trans c6,(cell_same hb _).trans c7,(cell_same hb _).trans c8⟩
theorem gwl_sh1 {W W':World} {b:Nat} {v:Value} {L:List Gw.Gwy} (h:Gw.Sl W v L) (hn:NBox W b) (hs:Sh (fun k=>k=b) W W'):Gw.Sl W' v L:=by
 obtain ⟨a,c,hv,hz,h⟩:=h
 refine ⟨a,c,hv,hz,?_⟩
 rcases h with h | ⟨g,off,ha,hlt,hr⟩
 ·exact .inl h
 ·by_cases h0:L=[]
  ·exact .inl h0
  ·have hp:0 < L.length:=List.length_pos_iff.2 h0
   have hne:g≠b:=fun e=>by
    subst e
    have h1:=(hr 0 hp).1
    have h2:=(hr 0 hp).2.1
    simp only [Nat.zero_mul,Nat.add_zero] at h1 h2
    exact hn.int h1 h2
   have hb:=hs.block g hlt hne
   have hsz:=hs.size
   refine .inr ⟨g,off,ha,by omega,fun j hj=>?_⟩
   obtain ⟨c0,c1,c2⟩:=hr j hj
   exact ⟨(cell_same hb _).trans c0,(cell_same hb _).trans c1,(cell_same hb _).trans c2⟩
theorem whl_sh1 {W W':World} {b:Nat} {v:Value} {L:List Wh.Whe} (h:Wh.Sl W v L) (hn:NBox W b) (hs:Sh (fun k=>k=b) W W'):Wh.Sl W' v L:=by
 obtain ⟨a,c,hv,hz,h⟩:=h
 refine ⟨a,c,hv,hz,?_⟩
 rcases h with h | ⟨g,off,ha,hlt,hr⟩
 ·exact .inl h
 ·by_cases h0:L=[]
  ·exact .inl h0
  ·have hp:0 < L.length:=List.length_pos_iff.2 h0
   have hne:g≠b:=fun e=>by
    subst e
    have h1:=(hr 0 hp).1
    have h2:=(hr 0 hp).2.1
    simp only [Nat.zero_mul,Nat.add_zero] at h1 h2
    exact hn.int h1 h2
   have hb:=hs.block g hlt hne
   have hsz:=hs.size
   refine .inr ⟨g,off,ha,by omega,fun j hj=>?_⟩
   obtain ⟨c0,c1,c2,c3,c4,c5⟩:=hr j hj
   exact ⟨(cell_same hb _).trans c0,(cell_same hb _).trans c1,(cell_same hb _).trans c2,(cell_same hb _).trans c3,(cell_same hb _).trans c4,(cell_same hb _).trans c5⟩
theorem IsNd.sh1 {W W':World} {b:Nat} {n:Nd} {A:Array Value} (h:IsNd W n A) (hn:NBox W b) (hs:Sh (fun k=>k=b) W W'):IsNd W' n A:=by
 obtain ⟨v1,v2,v3,v4,v5,h1,h2⟩:=h
 exact ⟨v1,v2,v3,v4,v5,h1,sl_sh1 h2.ms hn hs,rsl_sh1 h2.rs hn hs,svl_sh1 h2.sv hn hs,gwl_sh1 h2.gw hn hs,whl_sh1 h2.wh hn hs,h2.name,h2.centre⟩
theorem IsNd.setAll {W:World} {b:Nat} {n:Nd} {A:Array Value} (h:IsNd W n A) (hn:NBox W b) (L:List Value) (j:Nat):IsNd (setAll b L j W) n A:=h.sh1 hn (setAll_sh (S:=fun k=>k=b) rfl L j (Sh.refl _ _))
theorem NBox.of {W:World} {b:Nat} {T:TypeId} {f:Nat × Nat} {t0 t1:ByteArray} {p2 p3 p4 p5 p11:Option Addr} {k2 c2 k3 c3 k4 c4 k5 c5 k11 c11:Nat} {i6 i7 i8 i9 i10:Int} (h:W.heap[b]?=some (.cells #[.string t0,.string t1,.slice p2 k2 c2,.slice p3 k3 c3,.slice p4 k4 c4,.slice p5 k5 c5,.int .i64 i6,.int .i64 i7,.int .i64 i8,.int .i64 i9,.int .i64 i10,.slice p11 k11 c11] T f)):NBox W b:=⟨_,_,_,_,_,_,_,_,_,_,_,_,_,_,_,_,_,_,_,_,_,_,_,_,h⟩
end Go.Proofs.YtikgjgmgbfjcgaaGreat
