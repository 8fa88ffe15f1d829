import Derived.Test.YtikgjgmgbfjcgaaGreatU37
import Derived.Test.YtikgjgmgbfjcgaaGreatU23
import Derived.Test.YtikgjgmgbfjcgaaGreatU39
import Derived.Test.YtikgjgmgbfjcgaaGreatU42
import Derived.Test.YtikgjgmgbfjcgaaGreatU33
namespace Go.Proofs.YtikgjgmgbfjcgaaGreat
open Go.RowKit
def NBox (W:World) (b:Nat):Prop:=∃ t0 t1 p2 k2 c2 p3 k3 c3 p4 k4 c4 p5 k5 c5 i6 i7 i8 i9 i10 p11 k11 c11 T f,W.heap[b]?=some (.cells (ndV t0 t1 p2 k2 c2 p3 k3 c3 p4 k4 c4 p5 k5 c5 i6 i7 i8 i9 i10 p11 k11 c11) T f)
theorem cell_same {W W':World} {g:Nat} (h:W'.heap[g]?=W.heap[g]?) (o:Nat):W'.cell? ⟨g,o,none⟩=W.cell? ⟨g,o,none⟩:=by
 simp only [World.cell?,h]
theorem NBox.str {W:World} {b off:Nat} {s:ByteArray} (h:NBox W b) (h1:W.cell? ⟨b,off,none⟩=some (.string s)):off=0∨off=1:=by
 obtain ⟨t0,t1,p2,k2,c2,p3,k3,c3,p4,k4,c4,p5,k5,c5,i6,i7,i8,i9,i10,p11,k11,c11,T,f,hg⟩:=h
 rw [cellsAt hg] at h1
 match off,h1 with
 | 0,_=>exact .inl rfl
 | 1,_=>exact .inr rfl
 | 2,h1=>simp [ndV] at h1
 | 3,h1=>simp [ndV] at h1
 | 4,h1=>simp [ndV] at h1
 | 5,h1=>simp [ndV] at h1
 | 6,h1=>simp [ndV] at h1
 | 7,h1=>simp [ndV] at h1
 | 8,h1=>simp [ndV] at h1
 | 9,h1=>simp [ndV] at h1
 | 10,h1=>simp [ndV] at h1
 | 11,h1=>simp [ndV] at h1
 | k+12,h1=>simp [ndV] at h1
theorem NBox.int {W:World} {b off:Nat} {s:ByteArray} {i:Int} (h:NBox W b) (h1:W.cell? ⟨b,off,none⟩=some (.string s)) (h2:W.cell? ⟨b,off+1,none⟩=some (.int .i64 i)):False:=by
 have h3:=h.str h1
 obtain ⟨t0,t1,p2,k2,c2,p3,k3,c3,p4,k4,c4,p5,k5,c5,i6,i7,i8,i9,i10,p11,k11,c11,T,f,hg⟩:=h
 rw [cellsAt hg] at h2
 rcases h3 with rfl | rfl
 ·simp [ndV] at h2
 ·simp [ndV] at h2
theorem NBox.two {W:World} {b off:Nat} {s t:ByteArray} (h:NBox W b) (h1:W.cell? ⟨b,off,none⟩=some (.string s)) (h2:W.cell? ⟨b,off+2,none⟩=some (.string t)):False:=by
 have h3:=h.str h1
 obtain ⟨t0,t1,p2,k2,c2,p3,k3,c3,p4,k4,c4,p5,k5,c5,i6,i7,i8,i9,i10,p11,k11,c11,T,f,hg⟩:=h
 rw [cellsAt hg] at h2
 rcases h3 with rfl | rfl
 ·simp [ndV] at h2
 ·simp [ndV] at h2
theorem sl_sh1 {W W':World} {b:Nat} {v:Value} {L:List Mem} (h:Sl W v L) (hn:NBox W b) (hs:Sh (fun k=>k=b) W W'):Sl W' v L:=by
 obtain ⟨a,c,hv,hz,h⟩:=h
 refine ⟨a,c,hv,hz,?_⟩
 rcases h with h | ⟨g,off,ha,hlt,hr⟩
 ·exact .inl h
 ·by_cases h0:L=[]
  ·exact .inl h0
  ·have hp:0 < L.length:=List.length_pos_iff.2 h0
   have hne:g≠b:=fun e=>by
    subst e
    have h1:=(hr 0 hp).1
    have h2:=(hr 0 hp).2.1
    simp only [Nat.zero_mul,Nat.add_zero] at h1 h2
    exact hn.int h1 h2
   have hb:=hs.block g hlt hne
   have hsz:=hs.size
   refine .inr ⟨g,off,ha,by omega,fun j hj=>?_⟩
   obtain ⟨c0,c1,c2,c3,c4⟩:=hr j hj
   exact ⟨(cell_same hb _).trans c0,(cell_same hb _).trans c1,(cell_same hb _).trans c2,(cell_same hb _).trans c3,(cell_same hb _).trans c4⟩
theorem rsl_sh1 {W W':World} {b:Nat} {v:Value} {L:List Rum} (h:RSl W v L) (hn:NBox W b) (hs:Sh (fun k=>k=b) W W'):RSl W' v L:=by
 obtain ⟨a,c,hv,hz,h⟩:=h
 refine ⟨a,c,hv,hz,?_⟩
 rcases h with h | ⟨g,off,ha,hlt,hr⟩
 ·exact .inl h
 ·by_cases h0:L=[]
  ·exact .inl h0
  ·have hp:0 < L.length:=List.length_pos_iff.2 h0
   have hne:g≠b:=fun e=>by
    subst e
    have h1:=(hr 0 hp).1
    have h2:=(hr 0 hp).2.1
    simp only [Nat.zero_mul,Nat.add_zero] at h1 h2
    exact hn.int h1 h2
   have hb:=hs.block g hlt hne
   have hsz:=hs.size
   refine .inr ⟨g,off,ha,by omega,fun j hj=>?_⟩
   obtain ⟨c0,c1,c2,c3,c4,c5⟩:=hr j hj
   exact ⟨(cell_same hb _).trans c0,(cell_same hb _).trans c1,(cell_same hb _).trans c2,(cell_same hb _).trans c3,(cell_same hb _).trans c4,(cell_same hb _).trans c5⟩
theorem svl_sh1 {W W':World} {b:Nat} {v:Value} {L:List Sv.Svc} (h:Sv.Sl W v L) (hn:NBox W b) (hs:Sh (fun k=>k=b) W W'):Sv.Sl W' v L:=by
 obtain ⟨a,c,hv,hz,h⟩:=h
 refine ⟨a,c,hv,hz,?_⟩
 rcases h with h | ⟨g,off,ha,hlt,hr⟩
 ·exact .inl h
 ·by_cases h0:L=[]
  ·exact .inl h0
  ·have hp:0 < L.length:=List.length_pos_iff.2 h0
   have hne:g≠b:=fun e=>by
    subst e
    have h1:=(hr 0 hp).1
    have h2:=(hr 0 hp).2.2.1
    simp only [Nat.zero_mul,Nat.add_zero] at h1 h2
    exact hn.two h1 h2
   have hb:=hs.block g hlt hne
   have hsz:=hs.size
   refine .inr ⟨g,off,ha,by omega,fun j hj=>?_⟩
   obtain ⟨c0,c1,c2,c3,c4,c5,c6,c7,c8⟩:=hr j hj
   exact ⟨(cell_same hb _).trans c0,(cell_same hb _).trans c1,(cell_same hb _).trans c2,(cell_same hb _).trans c3,(cell_same hb _).trans c4,(cell_same hb _).trans c5,(cell_same hb _).trans c6,(cell_same hb _).trans c7,(cell_same hb _).trans c8⟩
theorem gwl_sh1 {W W':World} {b:Nat} {v:Value} {L:List Gw.Gwy} (h:Gw.Sl W v L) (hn:NBox W b) (hs:Sh (fun k=>k=b) W W'):Gw.Sl W' v L:=by
 obtain ⟨a,c,hv,hz,h⟩:=h
 refine ⟨a,c,hv,hz,?_⟩
 rcases h with h | ⟨g,off,ha,hlt,hr⟩
 ·exact .inl h
 ·by_cases h0:L=[]
  ·exact .inl h0
  ·have hp:0 < L.length:=List.length_pos_iff.2 h0
   have hne:g≠b:=fun e=>by
    subst e
    have h1:=(hr 0 hp).1
    have h2:=(hr 0 hp).2.1
    simp only [Nat.zero_mul,Nat.add_zero] at h1 h2
    exact hn.int h1 h2
   have hb:=hs.block g hlt hne
   have hsz:=hs.size
   refine .inr ⟨g,off,ha,by omega,fun j hj=>?_⟩
   obtain ⟨c0,c1,c2⟩:=hr j hj
   exact ⟨(cell_same hb _).trans c0,(cell_same hb _).trans c1,(cell_same hb _).trans c2⟩
theorem whl_sh1 {W W':World} {b:Nat} {v:Value} {L:List Wh.Whe} (h:Wh.Sl W v L) (hn:NBox W b) (hs:Sh (fun k=>k=b) W W'):Wh.Sl W' v L:=by
 obtain ⟨a,c,hv,hz,h⟩:=h
 refine ⟨a,c,hv,hz,?_⟩
 rcases h with h | ⟨g,off,ha,hlt,hr⟩
 ·exact .inl h
 ·by_cases h0:L=[]
  ·exact .inl h0
  ·have hp:0 < L.length:=List.length_pos_iff.2 h0
   have hne:g≠b:=fun e=>by
    subst e
    have h1:=(hr 0 hp).1
    have h2:=(hr 0 hp).2.1
    simp only [Nat.zero_mul,Nat.add_zero] at h1 h2
    exact hn.int h1 h2
   have hb:=hs.block g hlt hne
   have hsz:=hs.size
   refine .inr ⟨g,off,ha,by omega,fun j hj=>?_⟩
   obtain ⟨c0,c1,c2,c3,c4,c5⟩:=hr j hj
   exact ⟨(cell_same hb _).trans c0,(cell_same hb _).trans c1,(cell_same hb _).trans c2,(cell_same hb _).trans c3,(cell_same hb _).trans c4,(cell_same hb _).trans c5⟩
theorem IsNd.sh1 {W W':World} {b:Nat} {n:Nd} {A:Array Value} (h:IsNd W n A) (hn:NBox W b) (hs:Sh (fun k=>k=b) W W'):IsNd W' n A:=by
 obtain ⟨v1,v2,v3,v4,v5,h1,h2⟩:=h
 exact ⟨v1,v2,v3,v4,v5,h1,sl_sh1 h2.ms hn hs,rsl_sh1 h2.rs hn hs,svl_sh1 h2.sv hn hs,gwl_sh1 h2.gw hn hs,whl_sh1 h2.wh hn hs,h2.name,h2.centre⟩
theorem IsNd.setAll {W:World} {b:Nat} {n:Nd} {A:Array Value} (h:IsNd W n A) (hn:NBox W b) (L:List Value) (j:Nat):IsNd (setAll b L j W) n A:=h.sh1 hn (setAll_sh (S:=fun k=>k=b) rfl L j (Sh.refl _ _))
theorem NBox.of {W:World} {b:Nat} {T:TypeId} {f:Nat × Nat} {t0 t1:ByteArray} {p2 p3 p4 p5 p11:Option Addr} {k2 c2 k3 c3 k4 c4 k5 c5 k11 c11:Nat} {i6 i7 i8 i9 i10:Int} (h:W.heap[b]?=some (.cells #[.string t0,.string t1,.slice p2 k2 c2,.slice p3 k3 c3,.slice p4 k4 c4,.slice p5 k5 c5,.int .i64 i6,.int .i64 i7,.int .i64 i8,.int .i64 i9,.int .i64 i10,.slice p11 k11 c11] T f)):NBox W b:=⟨_,_,_,_,_,_,_,_,_,_,_,_,_,_,_,_,_,_,_,_,_,_,_,_,h⟩
set_option maxHeartbeats 51200000 in
set_option maxRecDepth 100000 in
theorem spreadOf_is (n:Nd) (m:Mem) (A:Array Value) (w:World) (h:IsNd w n A) (he:n.e=0) (hme:m.e=0) (hsz:m.name.size≤maxLen) :
 Calls Tryz.prog 69 #[.agg A,.agg #[.string m.name,.int .i64 m.state,.int .i64 m.life,.int .i64 m.addr,.bool m.server]] w fun e w'=>∃ C n1,e=.returned (.tuple #[.agg C,.int .i64 (spE n m)])∧IsNd w' n1 C∧(spE n m=0→n1=spN n m)∧Below w.heap.size w w':=by
 have hp:=Nd.parts (Nd.e_zero he).1
 have hrise:=(chk_zero hp.ms).2.1
 have HN0:Hid (IsNd w n A):=h
 obtain ⟨vm,vr,vs,vg,vw,hA,hi⟩:=h
 obtain ⟨t0a,t1a,p2a,k2a,c2a,p3a,k3a,c3a,p4a,k4a,c4a,p5a,k5a,c5a,i6a,i7a,i8a,i9a,i10a,p11a,k11a,c11a,rfl⟩:=HN0.out.letters
 simp only [ndV,ndA,Array.mk.injEq,List.cons.injEq,and_true] at hA
 obtain ⟨e0,e1,e2,e3,e4,e5,e6,e7,e8,e9,e10,e11⟩:=hA
 subst e2 e3 e4 e5 e11
 injection e0 with e0
 injection e1 with e1
 injection e6 with _ e6
 injection e7 with _ e7
 injection e8 with _ e8
 injection e9 with _ e9
 injection e10 with _ e10
 simp only [ndV] at HN0 ⊢
 have HHM:Hid (∀ W,Below w.heap.size w W→Calls Tryz.prog 121 #[.slice p2a k2a c2a,.agg #[.string m.name,.int .i64 m.state,.int .i64 m.life,.int .i64 m.addr,.bool m.server]] W fun e w'=>∃ a c,e=.returned (.tuple #[.slice a (hearL n.ms m).length c,.bool (chgB n.ms m)])∧Sl w' (.slice a (hearL n.ms m).length c) (hearL n.ms m)∧Below W.heap.size W w'):=fun W hW=>by
  refine (hearMember_any n.ms _ m W (hi.ms.below hW) (by have:=(chk_zero hp.ms).1;omega) hrise hsz).mono ?_
  rintro e w' ⟨v',r,rfl,hs,hr,hb⟩
  have hc:r=chgB n.ms m:=by
   have h2:=chgB_iff hrise m
   rcases r with _ | _<;>rcases hcc:chgB n.ms m with _ | _
   ·rfl
   ·exact absurd (hr.2 (h2.1 hcc)) (by simp)
   ·have h3:=h2.2 (hr.1 rfl);rw [hcc] at h3;cases h3
   ·rfl
  have hs2:=hs
  obtain ⟨a,c,rfl,_⟩:=hs2
  exact ⟨a,c,by rw [hc],hs,hb⟩
 have HPR:Hid (∀ W,Below w.heap.size w W→Calls Tryz.prog 126 #[.slice p3a k3a c3a,.agg #[.string m.name,.int .i64 m.state,.int .i64 m.life,.int .i64 m.addr,.bool m.server]] W fun e w'=>∃ a k c,e=.returned (.tuple #[.slice a k c,.int .i64 (putE n.rs m)])∧Below W.heap.size W w'∧RSl w' (.slice a k c) (if putE n.rs m=0 then putL n.rs m else [])):=fun W hW=>putDoc_any n.rs _ m W (hi.rs.below hW) hsz hp.rs
 have HFI:Hid (∀ W la lk lc ra rk rc L R,Below w.heap.size w W→Sl W (.slice la lk lc) L→RSl W (.slice ra rk rc) R→IsNd W { n with ms:=L,rs:=R } #[.string t0a,.string t1a,.slice la lk lc,.slice ra rk rc,.slice p4a k4a c4a,.slice p5a k5a c5a,.int .i64 i6a,.int .i64 i7a,.int .i64 i8a,.int .i64 i9a,.int .i64 i10a,.slice p11a k11a c11a]):=fun W la lk lc ra rk rc L R hW h1 h2=>by
  have hI:=hi.below hW
  refine ⟨.slice la lk lc,.slice ra rk rc,.slice p4a k4a c4a,.slice p5a k5a c5a,.slice p11a k11a c11a,?_,?_⟩
  ·simp only [ndA,e0,e1,e6,e7,e8,e9,e10]
  ·exact ⟨h1,h2,hI.sv,hI.gw,hI.wh,hI.name,hI.centre⟩
 have HJE:Hid (joinE n.ms [m]=if 20 < (hearL n.ms m).length then 2 else 0):=joinE_good hp.ms (by rw [chk_one];exact hme)
 have HX1:Hid (20 < (hearL n.ms m).length→spE n m=2):=fun h=>by
  have h1:sp1E n m=2:=by unfold sp1E;rw [HJE.out,if_pos h];rfl
  unfold spE;rw [h1];rfl
 have HX2:Hid (¬ 20 < (hearL n.ms m).length→chgB n.ms m=false→spE n m=0∧spN n m=n):=fun h hc=>by
  have h1:sp1E n m=0:=by unfold sp1E;rw [HJE.out,if_neg h,if_pos rfl,hc];rfl
  have h2:hearL n.ms m=n.ms:=by
   by_cases h3:hearL n.ms m=n.ms
   ·exact h3
   ·have:=(chgB_iff hrise m).2 h3;rw [hc] at this;cases this
  have h3:sp1 n m=n:=by unfold sp1;rw [hc,h2];rfl
  unfold spE spN;rw [h1,h3]
  by_cases h4:m.name=n.name
  ·rw [if_pos rfl,if_pos h4,if_pos h4];exact rf_none he
  ·rw [if_pos rfl,if_neg h4,if_neg h4];exact ⟨rfl,rfl⟩
 have HX3:Hid (¬ 20 < (hearL n.ms m).length→chgB n.ms m=true→putE n.rs m≠0→spE n m=putE n.rs m):=fun h hc hq=>by
  have h1:sp1E n m=putE n.rs m:=by unfold sp1E;rw [HJE.out,if_neg h,if_pos rfl,hc];rfl
  unfold spE;rw [h1,if_neg hq]
 have HX4:Hid (¬ 20 < (hearL n.ms m).length→chgB n.ms m=true→putE n.rs m=0→sp1 n m={ n with ms:=hearL n.ms m,rs:=putL n.rs m }∧chk (hearL n.ms m)=0∧chkR (putL n.rs m)=0∧(m.name≠n.name→spE n m=0∧spN n m=sp1 n m)∧(m.name=n.name→spE n m=rfE (sp1 n m)∧spN n m=rfN (sp1 n m))):=fun h hc hq=>by
  have h1:sp1E n m=0:=by unfold sp1E;rw [HJE.out,if_neg h,if_pos rfl,hc];exact hq
  have h2:=sp1_ok hp.ms hp.rs hme h1
  have h3:sp1 n m={ n with ms:=hearL n.ms m,rs:=putL n.rs m }:=by unfold sp1;rw [hc];rfl
  rw [h3] at h2
  refine ⟨h3,h2.1,h2.2,fun h4=>?_,fun h4=>?_⟩
  ·unfold spE spN;rw [h1,if_pos rfl,if_neg h4,if_neg h4];exact ⟨rfl,rfl⟩
  ·unfold spE spN;rw [h1,if_pos rfl,if_pos h4,if_pos h4];exact ⟨rfl,rfl⟩
 have HX5:Hid ((refE (hearL n.ms m) (posM (hearL n.ms m) n.name) (isM (hearL n.ms m) n.name)≠0→rfE { n with ms:=hearL n.ms m,rs:=putL n.rs m }=refE (hearL n.ms m) (posM (hearL n.ms m) n.name) (isM (hearL n.ms m) n.name))∧(refE (hearL n.ms m) (posM (hearL n.ms m) n.name) (isM (hearL n.ms m) n.name)=0→refR (hearL n.ms m) (posM (hearL n.ms m) n.name) (isM (hearL n.ms m) n.name)=false→rfE { n with ms:=hearL n.ms m,rs:=putL n.rs m }=0∧rfN { n with ms:=hearL n.ms m,rs:=putL n.rs m }={ n with ms:=hearL n.ms m,rs:=putL n.rs m })∧(refE (hearL n.ms m) (posM (hearL n.ms m) n.name) (isM (hearL n.ms m) n.name)=0→refR (hearL n.ms m) (posM (hearL n.ms m) n.name) (isM (hearL n.ms m) n.name)=true→rfE { n with ms:=hearL n.ms m,rs:=putL n.rs m }=putE (putL n.rs m) (mOf (refL (hearL n.ms m) (posM (hearL n.ms m) n.name) (isM (hearL n.ms m) n.name)) n.name)∧rfN { n with ms:=hearL n.ms m,rs:=putL n.rs m }={ n with ms:=refL (hearL n.ms m) (posM (hearL n.ms m) n.name) (isM (hearL n.ms m) n.name),rs:=putL (putL n.rs m) (mOf (refL (hearL n.ms m) (posM (hearL n.ms m) n.name) (isM (hearL n.ms m) n.name)) n.name) })):=by
  refine ⟨fun h=>if_neg h,fun h h2=>⟨?_,?_⟩,fun h h2=>⟨?_,?_⟩⟩
  ·exact (if_pos h).trans (if_neg (by show ¬ refR (hearL n.ms m) (posM (hearL n.ms m) n.name) (isM (hearL n.ms m) n.name)=true;rw [h2];simp))
  ·have h3:refL (hearL n.ms m) (posM (hearL n.ms m) n.name) (isM (hearL n.ms m) n.name)=hearL n.ms m:=if_neg (by rw [h2];simp)
   refine (if_neg (by show ¬ refR (hearL n.ms m) (posM (hearL n.ms m) n.name) (isM (hearL n.ms m) n.name)=true;rw [h2];simp)).trans ?_
   show ({ n with ms:=refL (hearL n.ms m) (posM (hearL n.ms m) n.name) (isM (hearL n.ms m) n.name),rs:=putL n.rs m }:Nd)=_
   rw [h3]
  ·exact (if_pos h).trans (if_pos h2)
  ·exact if_pos h2
 have HRF:Hid (chk (hearL n.ms m)=0→∀ W v,Sl W v (hearL n.ms m)→Calls Tryz.prog 127 #[v,.string t0a] W fun e w'=>RefuteOfSays (hearL n.ms m) (posM (hearL n.ms m) n.name) (isM (hearL n.ms m) n.name) W e w'):=fun hc W v hv=>by
  rw [e0]
  exact refuteOf_any _ v n.name W hv hc _ _ (at_pos (chk_zero hc).2.1 n.name)
 have HRQ:Hid (chk (hearL n.ms m)=0→refR (hearL n.ms m) (posM (hearL n.ms m) n.name) (isM (hearL n.ms m) n.name)=true→(∃ q,fstM (refL (hearL n.ms m) (posM (hearL n.ms m) n.name) (isM (hearL n.ms m) n.name)) n.name=some q)∧(mOf (refL (hearL n.ms m) (posM (hearL n.ms m) n.name) (isM (hearL n.ms m) n.name)) n.name).e=0∧(mOf (refL (hearL n.ms m) (posM (hearL n.ms m) n.name) (isM (hearL n.ms m) n.name)) n.name).name.size≤maxLen∧(refL (hearL n.ms m) (posM (hearL n.ms m) n.name) (isM (hearL n.ms m) n.name)).length≤20):=fun hc hR=>by
  obtain ⟨f1,f2,f3,f4,f5,f6,f7⟩:=rf_facts (n:={ n with ms:=hearL n.ms m,rs:=putL n.rs m }) hc hR
  have hl:=(chk_zero hc).1
  have h1:At (refL (hearL n.ms m) (posM (hearL n.ms m) n.name) (isM (hearL n.ms m) n.name)) n.name (posM (hearL n.ms m) n.name) true:=by
   have h2:=at_set f2 (x:=liveAgain ((hearL n.ms m).getD (posM (hearL n.ms m) n.name) dm)) f6
   have h3:(refL (hearL n.ms m) (posM (hearL n.ms m) n.name) (isM (hearL n.ms m) n.name))=(hearL n.ms m).set (posM (hearL n.ms m) n.name) (liveAgain ((hearL n.ms m).getD (posM (hearL n.ms m) n.name) dm)):=f3
   rw [h3];exact h2
  refine ⟨⟨_,fst_some_of h1⟩,f5,?_,?_⟩
  ·have h4:mOf (refL (hearL n.ms m) (posM (hearL n.ms m) n.name) (isM (hearL n.ms m) n.name)) n.name=liveAgain ((hearL n.ms m).getD (posM (hearL n.ms m) n.name) dm):=f4
   rw [h4]
   show ((hearL n.ms m).getD (posM (hearL n.ms m) n.name) dm).name.size≤maxLen
   have f6':((hearL n.ms m).getD (posM (hearL n.ms m) n.name) dm).name=n.name:=f6
   rw [f6'];exact hi.name
  ·have h3:(refL (hearL n.ms m) (posM (hearL n.ms m) n.name) (isM (hearL n.ms m) n.name))=(hearL n.ms m).set (posM (hearL n.ms m) n.name) (liveAgain ((hearL n.ms m).getD (posM (hearL n.ms m) n.name) dm)):=f3
   rw [h3,List.length_set];exact hl
 have HMA:Hid (chk (hearL n.ms m)=0→refR (hearL n.ms m) (posM (hearL n.ms m) n.name) (isM (hearL n.ms m) n.name)=true→∀ W v,Sl W v (refL (hearL n.ms m) (posM (hearL n.ms m) n.name) (isM (hearL n.ms m) n.name))→Calls Tryz.prog 52 #[v,.string t0a] W fun e w'=>∃ k:Nat,e=.returned (.int .i64 k)∧k < (refL (hearL n.ms m) (posM (hearL n.ms m) n.name) (isM (hearL n.ms m) n.name)).length∧(refL (hearL n.ms m) (posM (hearL n.ms m) n.name) (isM (hearL n.ms m) n.name)).getD k dm=mOf (refL (hearL n.ms m) (posM (hearL n.ms m) n.name) (isM (hearL n.ms m) n.name)) n.name∧w'=W):=fun hc hR W v hv=>by
  obtain ⟨⟨q,hq⟩,_,_,hl⟩:=HRQ.out hc hR
  rw [e0]
  refine (memAt_any _ v n.name W hv (by omega)).mono ?_
  rintro e w' ⟨r,rfl,ha,rfl⟩
  rcases ha.out with ⟨k,hk,rfl,hf⟩ | ⟨_,hf⟩
  ·exact ⟨k,rfl,hk,(mOf_some hf).symm,rfl⟩
  ·rw [hq] at hf;cases hf
 have HP2:Hid (chk (hearL n.ms m)=0→chkR (putL n.rs m)=0→refR (hearL n.ms m) (posM (hearL n.ms m) n.name) (isM (hearL n.ms m) n.name)=true→∀ W v,RSl W v (putL n.rs m)→Calls Tryz.prog 126 #[v,.agg #[.string (mOf (refL (hearL n.ms m) (posM (hearL n.ms m) n.name) (isM (hearL n.ms m) n.name)) n.name).name,.int .i64 (mOf (refL (hearL n.ms m) (posM (hearL n.ms m) n.name) (isM (hearL n.ms m) n.name)) n.name).state,.int .i64 (mOf (refL (hearL n.ms m) (posM (hearL n.ms m) n.name) (isM (hearL n.ms m) n.name)) n.name).life,.int .i64 (mOf (refL (hearL n.ms m) (posM (hearL n.ms m) n.name) (isM (hearL n.ms m) n.name)) n.name).addr,.bool (mOf (refL (hearL n.ms m) (posM (hearL n.ms m) n.name) (isM (hearL n.ms m) n.name)) n.name).server]] W fun e w'=>∃ a k c,e=.returned (.tuple #[.slice a k c,.int .i64 (putE (putL n.rs m) (mOf (refL (hearL n.ms m) (posM (hearL n.ms m) n.name) (isM (hearL n.ms m) n.name)) n.name))])∧Below W.heap.size W w'∧RSl w' (.slice a k c) (if putE (putL n.rs m) (mOf (refL (hearL n.ms m) (posM (hearL n.ms m) n.name) (isM (hearL n.ms m) n.name)) n.name)=0 then putL (putL n.rs m) (mOf (refL (hearL n.ms m) (posM (hearL n.ms m) n.name) (isM (hearL n.ms m) n.name)) n.name) else [])):=fun hc hr hR W v hv=>putDoc_any _ v _ W hv (HRQ.out hc hR).2.2.1 hr
 have HRN:Hid (chk (hearL n.ms m)=0→refR (hearL n.ms m) (posM (hearL n.ms m) n.name) (isM (hearL n.ms m) n.name)=true→refL (hearL n.ms m) (posM (hearL n.ms m) n.name) (isM (hearL n.ms m) n.name)≠[]):=fun hc hR e=>by
  obtain ⟨⟨q,hq⟩,_⟩:=HRQ.out hc hR
  rw [e] at hq
  cases hq
 clear HRQ hi hp hrise
 have HMN:Hid (m.name=n.name↔m.name=t0a):=by rw [e0];exact Iff.rfl
 generalize spE n m=SE at *
 generalize spN n m=SN at *
 have HRFX:Hid (chk (hearL n.ms m)=0→∀ W v,Sl W v (hearL n.ms m)→Calls Tryz.prog 127 #[v,.string t0a] W fun e w'=>∃ v':Value,e=.returned (.tuple #[v',.bool (refR (hearL n.ms m) (posM (hearL n.ms m) n.name) (isM (hearL n.ms m) n.name)),.int .i64 (refE (hearL n.ms m) (posM (hearL n.ms m) n.name) (isM (hearL n.ms m) n.name))])∧Below W.heap.size W w'∧(refE (hearL n.ms m) (posM (hearL n.ms m) n.name) (isM (hearL n.ms m) n.name)=0→Sl w' v' (refL (hearL n.ms m) (posM (hearL n.ms m) n.name) (isM (hearL n.ms m) n.name)))):=HRF.out
 clear HRF
 generalize hq1:mOf (refL (hearL n.ms m) (posM (hearL n.ms m) n.name) (isM (hearL n.ms m) n.name)) n.name=M2 at *
 generalize hq2:refL (hearL n.ms m) (posM (hearL n.ms m) n.name) (isM (hearL n.ms m) n.name)=RL at *
 generalize hq3:refR (hearL n.ms m) (posM (hearL n.ms m) n.name) (isM (hearL n.ms m) n.name)=RR at *
 generalize hq4:refE (hearL n.ms m) (posM (hearL n.ms m) n.name) (isM (hearL n.ms m) n.name)=RE at *
 clear hq1 hq2 hq3 hq4
 have HRF2:Hid (chk (hearL n.ms m)=0→∀ W v,Sl W v (hearL n.ms m)→Calls Tryz.prog 127 #[v,.string t0a] W fun e w'=>∃ v':Value,e=.returned (.tuple #[v',.bool RR,.int .i64 RE])∧Below W.heap.size W w'∧(RE=0→Sl w' v' RL)):=HRFX.out
 clear HRFX
 have HY4:Hid (¬ 20 < (hearL n.ms m).length→chgB n.ms m=true→putE n.rs m=0→chk (hearL n.ms m)=0∧chkR (putL n.rs m)=0∧(m.name≠t0a→SE=0∧SN={ n with ms:=hearL n.ms m,rs:=putL n.rs m })∧(m.name=t0a→(RE≠0→SE=RE)∧(RE=0→RR=false→SE=0∧SN={ n with ms:=hearL n.ms m,rs:=putL n.rs m })∧(RE=0→RR=true→SE=putE (putL n.rs m) M2∧SN={ n with ms:=RL,rs:=putL (putL n.rs m) M2 }))):=fun a b c=>by
  obtain ⟨g1,g2,g3,g4,g5⟩:=HX4.out a b c
  obtain ⟨k1,k2,k3⟩:=HX5.out
  rw [g1] at g4 g5
  refine ⟨g2,g3,fun h=>g4 (fun e=>h (HMN.out.1 e)),fun h=>?_⟩
  obtain ⟨g6,g7⟩:=g5 (HMN.out.2 h)
  refine ⟨fun h1=>g6.trans (k1 h1),fun h1 h2=>⟨g6.trans (k2 h1 h2).1,g7.trans (k2 h1 h2).2⟩,fun h1 h2=>⟨g6.trans (k3 h1 h2).1,g7.trans (k3 h1 h2).2⟩⟩
 clear HX4 HX5 HMN HJE
 generalize putE (putL n.rs m) M2=PE2 at *
 generalize putL (putL n.rs m) M2=PL2 at *
 generalize putL n.rs m=PL at *
 generalize putE n.rs m=PE at *
 generalize chgB n.ms m=chg at *
 generalize hearL n.ms m=L1 at *
 clear e0 e1 e6 e7 e8 e9 e10 he hme
 obtain ⟨mn,st,lf,ad,sb⟩:=m
 simp only at HHM HPR HY4 ⊢
 obtain ⟨W0,hW0⟩:∃ W0,W0=((w.alloc (.cells #[.string t0a,.string t1a,.slice p2a k2a c2a,.slice p3a k3a c3a,.slice p4a k4a c4a,.slice p5a k5a c5a,.int .i64 i6a,.int .i64 i7a,.int .i64 i8a,.int .i64 i9a,.int .i64 i10a,.slice p11a k11a c11a] 30)).alloc (.cells #[.string mn,.int .i64 st,.int .i64 lf,.int .i64 ad,.bool sb] 37)).alloc (.cells #[.string ⟨#[]⟩,.string ⟨#[]⟩,.slice none 0 0,.slice none 0 0,.slice none 0 0,.slice none 0 0,.int .i64 0,.int .i64 0,.int .i64 0,.int .i64 0,.int .i64 0,.slice none 0 0] 30):=⟨_,rfl⟩
 have hbw_W0:Below w.heap.size w W0:=by rw [hW0];exact (((Below.refl _ _).alloc (Nat.le_refl _) _).alloc (by simp) _).alloc (by simp<;>omega) _
 have hg_W0:W0.heap[w.heap.size]?=some (.cells #[.string t0a,.string t1a,.slice p2a k2a c2a,.slice p3a k3a c3a,.slice p4a k4a c4a,.slice p5a k5a c5a,.int .i64 i6a,.int .i64 i7a,.int .i64 i8a,.int .i64 i9a,.int .i64 i10a,.slice p11a k11a c11a] 30 (0,0)):=by rw [hW0,Below.heap_alloc _ _ _ (by simp<;>omega),Below.heap_alloc _ _ _ (by simp)];exact heap_alloc_new w _
 have hm_W0:W0.heap[w.heap.size+1]?=some (.cells #[.string mn,.int .i64 st,.int .i64 lf,.int .i64 ad,.bool sb] 37 (0,0)):=by
  have h:=heap_alloc_new (w.alloc (.cells #[.string t0a,.string t1a,.slice p2a k2a c2a,.slice p3a k3a c3a,.slice p4a k4a c4a,.slice p5a k5a c5a,.int .i64 i6a,.int .i64 i7a,.int .i64 i8a,.int .i64 i9a,.int .i64 i10a,.slice p11a k11a c11a] 30)) (.cells #[.string mn,.int .i64 st,.int .i64 lf,.int .i64 ad,.bool sb] 37)
  rw [hW0,Below.heap_alloc _ _ _ (by simp)];simpa using h
 have hz_W0:W0.heap[w.heap.size+1+1]?=some (.cells #[.string ⟨#[]⟩,.string ⟨#[]⟩,.slice none 0 0,.slice none 0 0,.slice none 0 0,.slice none 0 0,.int .i64 0,.int .i64 0,.int .i64 0,.int .i64 0,.int .i64 0,.slice none 0 0] 30 (0,0)):=by
  have h:=heap_alloc_new ((w.alloc (.cells #[.string t0a,.string t1a,.slice p2a k2a c2a,.slice p3a k3a c3a,.slice p4a k4a c4a,.slice p5a k5a c5a,.int .i64 i6a,.int .i64 i7a,.int .i64 i8a,.int .i64 i9a,.int .i64 i10a,.slice p11a k11a c11a] 30)).alloc (.cells #[.string mn,.int .i64 st,.int .i64 lf,.int .i64 ad,.bool sb] 37)) (.cells #[.string ⟨#[]⟩,.string ⟨#[]⟩,.slice none 0 0,.slice none 0 0,.slice none 0 0,.slice none 0 0,.int .i64 0,.int .i64 0,.int .i64 0,.int .i64 0,.int .i64 0,.slice none 0 0] 30)
  rw [hW0];simpa using h
 have hs_W0:w.heap.size+1+1 < W0.heap.size:=by rw [hW0];simp
 have a0:W0.cell? ⟨w.heap.size,0,none⟩=some (.string t0a):=cellsAt hg_W0 0
 have a1:W0.cell? ⟨w.heap.size,1,none⟩=some (.string t1a):=cellsAt hg_W0 1
 have a2:W0.cell? ⟨w.heap.size,2,none⟩=some (.slice p2a k2a c2a):=cellsAt hg_W0 2
 have a3:W0.cell? ⟨w.heap.size,3,none⟩=some (.slice p3a k3a c3a):=cellsAt hg_W0 3
 have a4:W0.cell? ⟨w.heap.size,4,none⟩=some (.slice p4a k4a c4a):=cellsAt hg_W0 4
 have a5:W0.cell? ⟨w.heap.size,5,none⟩=some (.slice p5a k5a c5a):=cellsAt hg_W0 5
 have a6:W0.cell? ⟨w.heap.size,6,none⟩=some (.int .i64 i6a):=cellsAt hg_W0 6
 have a7:W0.cell? ⟨w.heap.size,7,none⟩=some (.int .i64 i7a):=cellsAt hg_W0 7
 have a8:W0.cell? ⟨w.heap.size,8,none⟩=some (.int .i64 i8a):=cellsAt hg_W0 8
 have a9:W0.cell? ⟨w.heap.size,9,none⟩=some (.int .i64 i9a):=cellsAt hg_W0 9
 have a10:W0.cell? ⟨w.heap.size,10,none⟩=some (.int .i64 i10a):=cellsAt hg_W0 10
 have a11:W0.cell? ⟨w.heap.size,11,none⟩=some (.slice p11a k11a c11a):=cellsAt hg_W0 11
 have b0:W0.cell? ⟨w.heap.size+1,0,none⟩=some (.string mn):=cellsAt hm_W0 0
 have b1:W0.cell? ⟨w.heap.size+1,1,none⟩=some (.int .i64 st):=cellsAt hm_W0 1
 have b2:W0.cell? ⟨w.heap.size+1,2,none⟩=some (.int .i64 lf):=cellsAt hm_W0 2
 have b3:W0.cell? ⟨w.heap.size+1,3,none⟩=some (.int .i64 ad):=cellsAt hm_W0 3
 have b4:W0.cell? ⟨w.heap.size+1,4,none⟩=some (.bool sb):=cellsAt hm_W0 4
 have HW0:Hid (Below w.heap.size w W0∧W0.heap[w.heap.size]?=some (.cells #[.string t0a,.string t1a,.slice p2a k2a c2a,.slice p3a k3a c3a,.slice p4a k4a c4a,.slice p5a k5a c5a,.int .i64 i6a,.int .i64 i7a,.int .i64 i8a,.int .i64 i9a,.int .i64 i10a,.slice p11a k11a c11a] 30 (0,0))∧W0.heap[w.heap.size+1]?=some (.cells #[.string mn,.int .i64 st,.int .i64 lf,.int .i64 ad,.bool sb] 37 (0,0))∧W0.heap[w.heap.size+1+1]?=some (.cells #[.string ⟨#[]⟩,.string ⟨#[]⟩,.slice none 0 0,.slice none 0 0,.slice none 0 0,.slice none 0 0,.int .i64 0,.int .i64 0,.int .i64 0,.int .i64 0,.int .i64 0,.slice none 0 0] 30 (0,0))):=⟨hbw_W0,hg_W0,hm_W0,hz_W0⟩
 clear hbw_W0 hg_W0 hm_W0 hz_W0
 go_enter Tryz.func69,Tryz.ntmps69
 go_upto_region 1 with fail
 rw [← hW0]
 clear hW0
 go_wp2_with fail
 refine (HHM.out W0 HW0.out.1).mono ?_
 rintro e w1 ⟨la,lc,rfl,hsl,hb1⟩
 obtain ⟨hbw_W0,hg_W0,hm_W0,hz_W0⟩:=HW0.out
 have hg_w1:w1.heap[w.heap.size]?=some (.cells #[.string t0a,.string t1a,.slice p2a k2a c2a,.slice p3a k3a c3a,.slice p4a k4a c4a,.slice p5a k5a c5a,.int .i64 i6a,.int .i64 i7a,.int .i64 i8a,.int .i64 i9a,.int .i64 i10a,.slice p11a k11a c11a] 30 (0,0)):=(hb1.block _ (by omega)).trans hg_W0
 have hz_w1:w1.heap[w.heap.size+1+1]?=some (.cells #[.string ⟨#[]⟩,.string ⟨#[]⟩,.slice none 0 0,.slice none 0 0,.slice none 0 0,.slice none 0 0,.int .i64 0,.int .i64 0,.int .i64 0,.int .i64 0,.int .i64 0,.slice none 0 0] 30 (0,0)):=(hb1.block _ (by omega)).trans hz_W0
 have hm_w1:w1.heap[w.heap.size+1]?=some (.cells #[.string mn,.int .i64 st,.int .i64 lf,.int .i64 ad,.bool sb] 37 (0,0)):=(hb1.block _ (by omega)).trans hm_W0
 have hbw_w1:Below w.heap.size w w1:=hbw_W0.trans (hb1.mono hbw_W0.size)
 have hs_w1:w.heap.size+1+1 < w1.heap.size:=by have:=hb1.size;omega
 clear a0 a1 a2 a3 a4 a5 a6 a7 a8 a9 a10 a11 b0 b1 b2 b3 b4 hbw_W0 hg_W0 hm_W0 hz_W0 HHM HW0
 have a0:w1.cell? ⟨w.heap.size,0,none⟩=some (.string t0a):=cellsAt hg_w1 0
 have a1:w1.cell? ⟨w.heap.size,1,none⟩=some (.string t1a):=cellsAt hg_w1 1
 have a2:w1.cell? ⟨w.heap.size,2,none⟩=some (.slice p2a k2a c2a):=cellsAt hg_w1 2
 have a3:w1.cell? ⟨w.heap.size,3,none⟩=some (.slice p3a k3a c3a):=cellsAt hg_w1 3
 have a4:w1.cell? ⟨w.heap.size,4,none⟩=some (.slice p4a k4a c4a):=cellsAt hg_w1 4
 have a5:w1.cell? ⟨w.heap.size,5,none⟩=some (.slice p5a k5a c5a):=cellsAt hg_w1 5
 have a6:w1.cell? ⟨w.heap.size,6,none⟩=some (.int .i64 i6a):=cellsAt hg_w1 6
 have a7:w1.cell? ⟨w.heap.size,7,none⟩=some (.int .i64 i7a):=cellsAt hg_w1 7
 have a8:w1.cell? ⟨w.heap.size,8,none⟩=some (.int .i64 i8a):=cellsAt hg_w1 8
 have a9:w1.cell? ⟨w.heap.size,9,none⟩=some (.int .i64 i9a):=cellsAt hg_w1 9
 have a10:w1.cell? ⟨w.heap.size,10,none⟩=some (.int .i64 i10a):=cellsAt hg_w1 10
 have a11:w1.cell? ⟨w.heap.size,11,none⟩=some (.slice p11a k11a c11a):=cellsAt hg_w1 11
 have z0:w1.cell? ⟨w.heap.size+1+1,0,none⟩=some (.string ⟨#[]⟩):=cellsAt hz_w1 0
 have zz0:w1.frozen? ⟨w.heap.size+1+1,0,none⟩=false:=frozen_of hz_w1 0
 have z1:w1.cell? ⟨w.heap.size+1+1,1,none⟩=some (.string ⟨#[]⟩):=cellsAt hz_w1 1
 have zz1:w1.frozen? ⟨w.heap.size+1+1,1,none⟩=false:=frozen_of hz_w1 1
 have z2:w1.cell? ⟨w.heap.size+1+1,2,none⟩=some (.slice none 0 0):=cellsAt hz_w1 2
 have zz2:w1.frozen? ⟨w.heap.size+1+1,2,none⟩=false:=frozen_of hz_w1 2
 have z3:w1.cell? ⟨w.heap.size+1+1,3,none⟩=some (.slice none 0 0):=cellsAt hz_w1 3
 have zz3:w1.frozen? ⟨w.heap.size+1+1,3,none⟩=false:=frozen_of hz_w1 3
 have z4:w1.cell? ⟨w.heap.size+1+1,4,none⟩=some (.slice none 0 0):=cellsAt hz_w1 4
 have zz4:w1.frozen? ⟨w.heap.size+1+1,4,none⟩=false:=frozen_of hz_w1 4
 have z5:w1.cell? ⟨w.heap.size+1+1,5,none⟩=some (.slice none 0 0):=cellsAt hz_w1 5
 have zz5:w1.frozen? ⟨w.heap.size+1+1,5,none⟩=false:=frozen_of hz_w1 5
 have z6:w1.cell? ⟨w.heap.size+1+1,6,none⟩=some (.int .i64 0):=cellsAt hz_w1 6
 have zz6:w1.frozen? ⟨w.heap.size+1+1,6,none⟩=false:=frozen_of hz_w1 6
 have z7:w1.cell? ⟨w.heap.size+1+1,7,none⟩=some (.int .i64 0):=cellsAt hz_w1 7
 have zz7:w1.frozen? ⟨w.heap.size+1+1,7,none⟩=false:=frozen_of hz_w1 7
 have z8:w1.cell? ⟨w.heap.size+1+1,8,none⟩=some (.int .i64 0):=cellsAt hz_w1 8
 have zz8:w1.frozen? ⟨w.heap.size+1+1,8,none⟩=false:=frozen_of hz_w1 8
 have z9:w1.cell? ⟨w.heap.size+1+1,9,none⟩=some (.int .i64 0):=cellsAt hz_w1 9
 have zz9:w1.frozen? ⟨w.heap.size+1+1,9,none⟩=false:=frozen_of hz_w1 9
 have z10:w1.cell? ⟨w.heap.size+1+1,10,none⟩=some (.int .i64 0):=cellsAt hz_w1 10
 have zz10:w1.frozen? ⟨w.heap.size+1+1,10,none⟩=false:=frozen_of hz_w1 10
 have z11:w1.cell? ⟨w.heap.size+1+1,11,none⟩=some (.slice none 0 0):=cellsAt hz_w1 11
 have zz11:w1.frozen? ⟨w.heap.size+1+1,11,none⟩=false:=frozen_of hz_w1 11
 have b0:w1.cell? ⟨w.heap.size+1,0,none⟩=some (.string mn):=cellsAt hm_w1 0
 have b1:w1.cell? ⟨w.heap.size+1,1,none⟩=some (.int .i64 st):=cellsAt hm_w1 1
 have b2:w1.cell? ⟨w.heap.size+1,2,none⟩=some (.int .i64 lf):=cellsAt hm_w1 2
 have b3:w1.cell? ⟨w.heap.size+1,3,none⟩=some (.int .i64 ad):=cellsAt hm_w1 3
 have b4:w1.cell? ⟨w.heap.size+1,4,none⟩=some (.bool sb):=cellsAt hm_w1 4
 have HSL:Hid (Sl w1 (.slice la L1.length lc) L1):=hsl
 have HW1:Hid (Below w.heap.size w w1∧w1.heap[w.heap.size]?=some (.cells #[.string t0a,.string t1a,.slice p2a k2a c2a,.slice p3a k3a c3a,.slice p4a k4a c4a,.slice p5a k5a c5a,.int .i64 i6a,.int .i64 i7a,.int .i64 i8a,.int .i64 i9a,.int .i64 i10a,.slice p11a k11a c11a] 30 (0,0))∧w1.heap[w.heap.size+1]?=some (.cells #[.string mn,.int .i64 st,.int .i64 lf,.int .i64 ad,.bool sb] 37 (0,0))∧w1.heap[w.heap.size+1+1]?=some (.cells #[.string ⟨#[]⟩,.string ⟨#[]⟩,.slice none 0 0,.slice none 0 0,.slice none 0 0,.slice none 0 0,.int .i64 0,.int .i64 0,.int .i64 0,.int .i64 0,.int .i64 0,.slice none 0 0] 30 (0,0))):=⟨hbw_w1,hg_w1,hm_w1,hz_w1⟩
 have HN1:Hid (IsNd w1 n #[.string t0a,.string t1a,.slice p2a k2a c2a,.slice p3a k3a c3a,.slice p4a k4a c4a,.slice p5a k5a c5a,.int .i64 i6a,.int .i64 i7a,.int .i64 i8a,.int .i64 i9a,.int .i64 i10a,.slice p11a k11a c11a]):=HN0.out.below hbw_w1
 clear hsl hb1 hbw_w1 hg_w1 hm_w1 hz_w1 HN0
 by_cases h20:20 < L1.length
 ·have HSE:Hid (SE=2):=HX1.out h20
  have h20':(20:Int) < (L1.length:Int):=by omega
  clear b0 b1 b2 b3 b4
  obtain ⟨WF,hWF⟩:∃ WF,WF=((((((((((((w1.setCell ⟨w.heap.size+1+1,0,none⟩ (.string t0a)).setCell ⟨w.heap.size+1+1,1,none⟩ (.string t1a)).setCell ⟨w.heap.size+1+1,2,none⟩ (.slice p2a k2a c2a)).setCell ⟨w.heap.size+1+1,3,none⟩ (.slice p3a k3a c3a)).setCell ⟨w.heap.size+1+1,4,none⟩ (.slice p4a k4a c4a)).setCell ⟨w.heap.size+1+1,5,none⟩ (.slice p5a k5a c5a)).setCell ⟨w.heap.size+1+1,6,none⟩ (.int .i64 i6a)).setCell ⟨w.heap.size+1+1,7,none⟩ (.int .i64 i7a)).setCell ⟨w.heap.size+1+1,8,none⟩ (.int .i64 i8a)).setCell ⟨w.heap.size+1+1,9,none⟩ (.int .i64 i9a)).setCell ⟨w.heap.size+1+1,10,none⟩ (.int .i64 i10a)).setCell ⟨w.heap.size+1+1,11,none⟩ (.slice p11a k11a c11a)):=⟨_,rfl⟩
  have hF:WF=setAll (w.heap.size+1+1) [.string t0a,.string t1a,.slice p2a k2a c2a,.slice p3a k3a c3a,.slice p4a k4a c4a,.slice p5a k5a c5a,.int .i64 i6a,.int .i64 i7a,.int .i64 i8a,.int .i64 i9a,.int .i64 i10a,.slice p11a k11a c11a] 0 w1:=by rw [hWF];simp only [setAll,Nat.zero_add,Nat.reduceAdd]
  have hzF:WF.heap[w.heap.size+1+1]?=some (.cells #[.string t0a,.string t1a,.slice p2a k2a c2a,.slice p3a k3a c3a,.slice p4a k4a c4a,.slice p5a k5a c5a,.int .i64 i6a,.int .i64 i7a,.int .i64 i8a,.int .i64 i9a,.int .i64 i10a,.slice p11a k11a c11a] 30 (0,0)):=by rw [hF];exact setAll12 HW1.out.2.2.2 _ _ _ _ _ _ _ _ _ _ _ _
  have HBF:Hid (Below w.heap.size w WF):=by rw [hF];exact setAll_below (by omega) _ _ HW1.out.1
  have HIF:Hid (IsNd WF n #[.string t0a,.string t1a,.slice p2a k2a c2a,.slice p3a k3a c3a,.slice p4a k4a c4a,.slice p5a k5a c5a,.int .i64 i6a,.int .i64 i7a,.int .i64 i8a,.int .i64 i9a,.int .i64 i10a,.slice p11a k11a c11a]):=by rw [hF];exact (HN1.out).setAll (NBox.of HW1.out.2.2.2) _ _
  clear hF
  go_wp2_with fail
  rw [← hWF]
  clear hWF a0 a1 a2 a3 a4 a5 a6 a7 a8 a9 a10 a11 z0 zz0 z1 zz1 z2 zz2 z3 zz3 z4 zz4 z5 zz5 z6 zz6 z7 zz7 z8 zz8 z9 zz9 z10 zz10 z11 zz11
  have z0:WF.cell? ⟨w.heap.size+1+1,0,none⟩=some (.string t0a):=cellsAt hzF 0
  have z1:WF.cell? ⟨w.heap.size+1+1,1,none⟩=some (.string t1a):=cellsAt hzF 1
  have z2:WF.cell? ⟨w.heap.size+1+1,2,none⟩=some (.slice p2a k2a c2a):=cellsAt hzF 2
  have z3:WF.cell? ⟨w.heap.size+1+1,3,none⟩=some (.slice p3a k3a c3a):=cellsAt hzF 3
  have z4:WF.cell? ⟨w.heap.size+1+1,4,none⟩=some (.slice p4a k4a c4a):=cellsAt hzF 4
  have z5:WF.cell? ⟨w.heap.size+1+1,5,none⟩=some (.slice p5a k5a c5a):=cellsAt hzF 5
  have z6:WF.cell? ⟨w.heap.size+1+1,6,none⟩=some (.int .i64 i6a):=cellsAt hzF 6
  have z7:WF.cell? ⟨w.heap.size+1+1,7,none⟩=some (.int .i64 i7a):=cellsAt hzF 7
  have z8:WF.cell? ⟨w.heap.size+1+1,8,none⟩=some (.int .i64 i8a):=cellsAt hzF 8
  have z9:WF.cell? ⟨w.heap.size+1+1,9,none⟩=some (.int .i64 i9a):=cellsAt hzF 9
  have z10:WF.cell? ⟨w.heap.size+1+1,10,none⟩=some (.int .i64 i10a):=cellsAt hzF 10
  have z11:WF.cell? ⟨w.heap.size+1+1,11,none⟩=some (.slice p11a k11a c11a):=cellsAt hzF 11
  refine bodyPost_ret (v:=.tuple #[.agg #[.string t0a,.string t1a,.slice p2a k2a c2a,.slice p3a k3a c3a,.slice p4a k4a c4a,.slice p5a k5a c5a,.int .i64 i6a,.int .i64 i7a,.int .i64 i8a,.int .i64 i9a,.int .i64 i10a,.slice p11a k11a c11a],.int .i64 2]) ?_ rfl ?_
  ·simp [results,Tryz.results69,go_sem,z0,z1,z2,z3,z4,z5,z6,z7,z8,z9,z10,z11]
  ·exact ⟨_,n,(by rw [HSE.out]),HIF.out,(fun h=>by rw [HSE.out] at h;cases h),HBF.out⟩
 have h20':¬ (20:Int) < (L1.length:Int):=by omega
 rcases hcg:chg with _ | _
 ·have HSE:=HX2.out h20 hcg
  subst hcg
  have HS1:Hid (SE=0):=HSE.1
  have HS2:Hid (SN=n):=HSE.2
  clear HSE h20 b0 b1 b2 b3 b4
  obtain ⟨WF,hWF⟩:∃ WF,WF=((((((((((((w1.setCell ⟨w.heap.size+1+1,0,none⟩ (.string t0a)).setCell ⟨w.heap.size+1+1,1,none⟩ (.string t1a)).setCell ⟨w.heap.size+1+1,2,none⟩ (.slice p2a k2a c2a)).setCell ⟨w.heap.size+1+1,3,none⟩ (.slice p3a k3a c3a)).setCell ⟨w.heap.size+1+1,4,none⟩ (.slice p4a k4a c4a)).setCell ⟨w.heap.size+1+1,5,none⟩ (.slice p5a k5a c5a)).setCell ⟨w.heap.size+1+1,6,none⟩ (.int .i64 i6a)).setCell ⟨w.heap.size+1+1,7,none⟩ (.int .i64 i7a)).setCell ⟨w.heap.size+1+1,8,none⟩ (.int .i64 i8a)).setCell ⟨w.heap.size+1+1,9,none⟩ (.int .i64 i9a)).setCell ⟨w.heap.size+1+1,10,none⟩ (.int .i64 i10a)).setCell ⟨w.heap.size+1+1,11,none⟩ (.slice p11a k11a c11a)):=⟨_,rfl⟩
  have hF:WF=setAll (w.heap.size+1+1) [.string t0a,.string t1a,.slice p2a k2a c2a,.slice p3a k3a c3a,.slice p4a k4a c4a,.slice p5a k5a c5a,.int .i64 i6a,.int .i64 i7a,.int .i64 i8a,.int .i64 i9a,.int .i64 i10a,.slice p11a k11a c11a] 0 w1:=by rw [hWF];simp only [setAll,Nat.zero_add,Nat.reduceAdd]
  have hzF:WF.heap[w.heap.size+1+1]?=some (.cells #[.string t0a,.string t1a,.slice p2a k2a c2a,.slice p3a k3a c3a,.slice p4a k4a c4a,.slice p5a k5a c5a,.int .i64 i6a,.int .i64 i7a,.int .i64 i8a,.int .i64 i9a,.int .i64 i10a,.slice p11a k11a c11a] 30 (0,0)):=by rw [hF];exact setAll12 HW1.out.2.2.2 _ _ _ _ _ _ _ _ _ _ _ _
  have HBF:Hid (Below w.heap.size w WF):=by rw [hF];exact setAll_below (by omega) _ _ HW1.out.1
  have HIF:Hid (IsNd WF n #[.string t0a,.string t1a,.slice p2a k2a c2a,.slice p3a k3a c3a,.slice p4a k4a c4a,.slice p5a k5a c5a,.int .i64 i6a,.int .i64 i7a,.int .i64 i8a,.int .i64 i9a,.int .i64 i10a,.slice p11a k11a c11a]):=by rw [hF];exact (HN1.out).setAll (NBox.of HW1.out.2.2.2) _ _
  clear hF
  go_wp2_with fail
  rw [← hWF]
  clear hWF a0 a1 a2 a3 a4 a5 a6 a7 a8 a9 a10 a11 z0 zz0 z1 zz1 z2 zz2 z3 zz3 z4 zz4 z5 zz5 z6 zz6 z7 zz7 z8 zz8 z9 zz9 z10 zz10 z11 zz11
  have z0:WF.cell? ⟨w.heap.size+1+1,0,none⟩=some (.string t0a):=cellsAt hzF 0
  have z1:WF.cell? ⟨w.heap.size+1+1,1,none⟩=some (.string t1a):=cellsAt hzF 1
  have z2:WF.cell? ⟨w.heap.size+1+1,2,none⟩=some (.slice p2a k2a c2a):=cellsAt hzF 2
  have z3:WF.cell? ⟨w.heap.size+1+1,3,none⟩=some (.slice p3a k3a c3a):=cellsAt hzF 3
  have z4:WF.cell? ⟨w.heap.size+1+1,4,none⟩=some (.slice p4a k4a c4a):=cellsAt hzF 4
  have z5:WF.cell? ⟨w.heap.size+1+1,5,none⟩=some (.slice p5a k5a c5a):=cellsAt hzF 5
  have z6:WF.cell? ⟨w.heap.size+1+1,6,none⟩=some (.int .i64 i6a):=cellsAt hzF 6
  have z7:WF.cell? ⟨w.heap.size+1+1,7,none⟩=some (.int .i64 i7a):=cellsAt hzF 7
  have z8:WF.cell? ⟨w.heap.size+1+1,8,none⟩=some (.int .i64 i8a):=cellsAt hzF 8
  have z9:WF.cell? ⟨w.heap.size+1+1,9,none⟩=some (.int .i64 i9a):=cellsAt hzF 9
  have z10:WF.cell? ⟨w.heap.size+1+1,10,none⟩=some (.int .i64 i10a):=cellsAt hzF 10
  have z11:WF.cell? ⟨w.heap.size+1+1,11,none⟩=some (.slice p11a k11a c11a):=cellsAt hzF 11
  refine bodyPost_ret (v:=.tuple #[.agg #[.string t0a,.string t1a,.slice p2a k2a c2a,.slice p3a k3a c3a,.slice p4a k4a c4a,.slice p5a k5a c5a,.int .i64 i6a,.int .i64 i7a,.int .i64 i8a,.int .i64 i9a,.int .i64 i10a,.slice p11a k11a c11a],.int .i64 0]) ?_ rfl ?_
  ·simp [results,Tryz.results69,go_sem,z0,z1,z2,z3,z4,z5,z6,z7,z8,z9,z10,z11]
  ·exact ⟨_,n,(by rw [HS1.out]),HIF.out,(fun _=>HS2.out.symm),HBF.out⟩
 subst hcg
 clear a0 a1 a2 a3 a4 a5 a6 a7 a8 a9 a10 a11 z0 zz0 z1 zz1 z2 zz2 z3 zz3 z4 zz4 z5 zz5 z6 zz6 z7 zz7 z8 zz8 z9 zz9 z10 zz10 z11 zz11 b0 b1 b2 b3 b4
 obtain ⟨hbw_w1,hg_w1,hm_w1,hz_w1⟩:=HW1.out
 have a0:w1.cell? ⟨w.heap.size,0,none⟩=some (.string t0a):=cellsAt hg_w1 0
 have a1:w1.cell? ⟨w.heap.size,1,none⟩=some (.string t1a):=cellsAt hg_w1 1
 have a2:w1.cell? ⟨w.heap.size,2,none⟩=some (.slice p2a k2a c2a):=cellsAt hg_w1 2
 have a3:w1.cell? ⟨w.heap.size,3,none⟩=some (.slice p3a k3a c3a):=cellsAt hg_w1 3
 have a4:w1.cell? ⟨w.heap.size,4,none⟩=some (.slice p4a k4a c4a):=cellsAt hg_w1 4
 have a5:w1.cell? ⟨w.heap.size,5,none⟩=some (.slice p5a k5a c5a):=cellsAt hg_w1 5
 have a6:w1.cell? ⟨w.heap.size,6,none⟩=some (.int .i64 i6a):=cellsAt hg_w1 6
 have a7:w1.cell? ⟨w.heap.size,7,none⟩=some (.int .i64 i7a):=cellsAt hg_w1 7
 have a8:w1.cell? ⟨w.heap.size,8,none⟩=some (.int .i64 i8a):=cellsAt hg_w1 8
 have a9:w1.cell? ⟨w.heap.size,9,none⟩=some (.int .i64 i9a):=cellsAt hg_w1 9
 have a10:w1.cell? ⟨w.heap.size,10,none⟩=some (.int .i64 i10a):=cellsAt hg_w1 10
 have a11:w1.cell? ⟨w.heap.size,11,none⟩=some (.slice p11a k11a c11a):=cellsAt hg_w1 11
 have b0:w1.cell? ⟨w.heap.size+1,0,none⟩=some (.string mn):=cellsAt hm_w1 0
 have b1:w1.cell? ⟨w.heap.size+1,1,none⟩=some (.int .i64 st):=cellsAt hm_w1 1
 have b2:w1.cell? ⟨w.heap.size+1,2,none⟩=some (.int .i64 lf):=cellsAt hm_w1 2
 have b3:w1.cell? ⟨w.heap.size+1,3,none⟩=some (.int .i64 ad):=cellsAt hm_w1 3
 have b4:w1.cell? ⟨w.heap.size+1,4,none⟩=some (.bool sb):=cellsAt hm_w1 4
 clear hbw_w1 hg_w1 hm_w1 hz_w1
 go_wp2_with fail
 refine (HPR.out w1 HW1.out.1).mono ?_
 rintro e w2 ⟨ra,rk,rc,rfl,hb2,hrs⟩
 obtain ⟨hbw_w1,hg_w1,hm_w1,hz_w1⟩:=HW1.out
 have hg_w2:w2.heap[w.heap.size]?=some (.cells #[.string t0a,.string t1a,.slice p2a k2a c2a,.slice p3a k3a c3a,.slice p4a k4a c4a,.slice p5a k5a c5a,.int .i64 i6a,.int .i64 i7a,.int .i64 i8a,.int .i64 i9a,.int .i64 i10a,.slice p11a k11a c11a] 30 (0,0)):=(hb2.block _ (by omega)).trans hg_w1
 have hz_w2:w2.heap[w.heap.size+1+1]?=some (.cells #[.string ⟨#[]⟩,.string ⟨#[]⟩,.slice none 0 0,.slice none 0 0,.slice none 0 0,.slice none 0 0,.int .i64 0,.int .i64 0,.int .i64 0,.int .i64 0,.int .i64 0,.slice none 0 0] 30 (0,0)):=(hb2.block _ (by omega)).trans hz_w1
 have hm_w2:w2.heap[w.heap.size+1]?=some (.cells #[.string mn,.int .i64 st,.int .i64 lf,.int .i64 ad,.bool sb] 37 (0,0)):=(hb2.block _ (by omega)).trans hm_w1
 have hbw_w2:Below w.heap.size w w2:=hbw_w1.trans (hb2.mono hbw_w1.size)
 have hs_w2:w.heap.size+1+1 < w2.heap.size:=by have:=hb2.size;omega
 clear a0 a1 a2 a3 a4 a5 a6 a7 a8 a9 a10 a11 b0 b1 b2 b3 b4
 have HSL2:Hid (Sl w2 (.slice la L1.length lc) L1):=HSL.out.below hb2
 have HN2:Hid (IsNd w2 n #[.string t0a,.string t1a,.slice p2a k2a c2a,.slice p3a k3a c3a,.slice p4a k4a c4a,.slice p5a k5a c5a,.int .i64 i6a,.int .i64 i7a,.int .i64 i8a,.int .i64 i9a,.int .i64 i10a,.slice p11a k11a c11a]):=HN1.out.below hb2
 have HRS:Hid (RSl w2 (.slice ra rk rc) (if PE=0 then PL else [])):=hrs
 clear hrs hb2 hbw_w1 hg_w1 hm_w1 hz_w1 HW1 HN1 HSL HPR HX1 HX2
 by_cases hpe:PE=0
 rotate_left
 ·have HSE:Hid (SE=PE):=HX3.out h20 (by first | rfl | trivial) hpe
  have HPE:Hid (PE≠0):=hpe
  have hpe':(PE != 0)=true:=by simpa using hpe
  have a0:w2.cell? ⟨w.heap.size,0,none⟩=some (.string t0a):=cellsAt hg_w2 0
  have a1:w2.cell? ⟨w.heap.size,1,none⟩=some (.string t1a):=cellsAt hg_w2 1
  have a2:w2.cell? ⟨w.heap.size,2,none⟩=some (.slice p2a k2a c2a):=cellsAt hg_w2 2
  have a3:w2.cell? ⟨w.heap.size,3,none⟩=some (.slice p3a k3a c3a):=cellsAt hg_w2 3
  have a4:w2.cell? ⟨w.heap.size,4,none⟩=some (.slice p4a k4a c4a):=cellsAt hg_w2 4
  have a5:w2.cell? ⟨w.heap.size,5,none⟩=some (.slice p5a k5a c5a):=cellsAt hg_w2 5
  have a6:w2.cell? ⟨w.heap.size,6,none⟩=some (.int .i64 i6a):=cellsAt hg_w2 6
  have a7:w2.cell? ⟨w.heap.size,7,none⟩=some (.int .i64 i7a):=cellsAt hg_w2 7
  have a8:w2.cell? ⟨w.heap.size,8,none⟩=some (.int .i64 i8a):=cellsAt hg_w2 8
  have a9:w2.cell? ⟨w.heap.size,9,none⟩=some (.int .i64 i9a):=cellsAt hg_w2 9
  have a10:w2.cell? ⟨w.heap.size,10,none⟩=some (.int .i64 i10a):=cellsAt hg_w2 10
  have a11:w2.cell? ⟨w.heap.size,11,none⟩=some (.slice p11a k11a c11a):=cellsAt hg_w2 11
  have z0:w2.cell? ⟨w.heap.size+1+1,0,none⟩=some (.string ⟨#[]⟩):=cellsAt hz_w2 0
  have zz0:w2.frozen? ⟨w.heap.size+1+1,0,none⟩=false:=frozen_of hz_w2 0
  have z1:w2.cell? ⟨w.heap.size+1+1,1,none⟩=some (.string ⟨#[]⟩):=cellsAt hz_w2 1
  have zz1:w2.frozen? ⟨w.heap.size+1+1,1,none⟩=false:=frozen_of hz_w2 1
  have z2:w2.cell? ⟨w.heap.size+1+1,2,none⟩=some (.slice none 0 0):=cellsAt hz_w2 2
  have zz2:w2.frozen? ⟨w.heap.size+1+1,2,none⟩=false:=frozen_of hz_w2 2
  have z3:w2.cell? ⟨w.heap.size+1+1,3,none⟩=some (.slice none 0 0):=cellsAt hz_w2 3
  have zz3:w2.frozen? ⟨w.heap.size+1+1,3,none⟩=false:=frozen_of hz_w2 3
  have z4:w2.cell? ⟨w.heap.size+1+1,4,none⟩=some (.slice none 0 0):=cellsAt hz_w2 4
  have zz4:w2.frozen? ⟨w.heap.size+1+1,4,none⟩=false:=frozen_of hz_w2 4
  have z5:w2.cell? ⟨w.heap.size+1+1,5,none⟩=some (.slice none 0 0):=cellsAt hz_w2 5
  have zz5:w2.frozen? ⟨w.heap.size+1+1,5,none⟩=false:=frozen_of hz_w2 5
  have z6:w2.cell? ⟨w.heap.size+1+1,6,none⟩=some (.int .i64 0):=cellsAt hz_w2 6
  have zz6:w2.frozen? ⟨w.heap.size+1+1,6,none⟩=false:=frozen_of hz_w2 6
  have z7:w2.cell? ⟨w.heap.size+1+1,7,none⟩=some (.int .i64 0):=cellsAt hz_w2 7
  have zz7:w2.frozen? ⟨w.heap.size+1+1,7,none⟩=false:=frozen_of hz_w2 7
  have z8:w2.cell? ⟨w.heap.size+1+1,8,none⟩=some (.int .i64 0):=cellsAt hz_w2 8
  have zz8:w2.frozen? ⟨w.heap.size+1+1,8,none⟩=false:=frozen_of hz_w2 8
  have z9:w2.cell? ⟨w.heap.size+1+1,9,none⟩=some (.int .i64 0):=cellsAt hz_w2 9
  have zz9:w2.frozen? ⟨w.heap.size+1+1,9,none⟩=false:=frozen_of hz_w2 9
  have z10:w2.cell? ⟨w.heap.size+1+1,10,none⟩=some (.int .i64 0):=cellsAt hz_w2 10
  have zz10:w2.frozen? ⟨w.heap.size+1+1,10,none⟩=false:=frozen_of hz_w2 10
  have z11:w2.cell? ⟨w.heap.size+1+1,11,none⟩=some (.slice none 0 0):=cellsAt hz_w2 11
  have zz11:w2.frozen? ⟨w.heap.size+1+1,11,none⟩=false:=frozen_of hz_w2 11
  have HZ2:Hid (w2.heap[w.heap.size+1+1]?=some (.cells #[.string ⟨#[]⟩,.string ⟨#[]⟩,.slice none 0 0,.slice none 0 0,.slice none 0 0,.slice none 0 0,.int .i64 0,.int .i64 0,.int .i64 0,.int .i64 0,.int .i64 0,.slice none 0 0] 30 (0,0))):=hz_w2
  have HB2:Hid (Below w.heap.size w w2):=hbw_w2
  clear hpe hg_w2 hz_w2 hm_w2 hbw_w2
  obtain ⟨WF,hWF⟩:∃ WF,WF=((((((((((((w2.setCell ⟨w.heap.size+1+1,0,none⟩ (.string t0a)).setCell ⟨w.heap.size+1+1,1,none⟩ (.string t1a)).setCell ⟨w.heap.size+1+1,2,none⟩ (.slice p2a k2a c2a)).setCell ⟨w.heap.size+1+1,3,none⟩ (.slice p3a k3a c3a)).setCell ⟨w.heap.size+1+1,4,none⟩ (.slice p4a k4a c4a)).setCell ⟨w.heap.size+1+1,5,none⟩ (.slice p5a k5a c5a)).setCell ⟨w.heap.size+1+1,6,none⟩ (.int .i64 i6a)).setCell ⟨w.heap.size+1+1,7,none⟩ (.int .i64 i7a)).setCell ⟨w.heap.size+1+1,8,none⟩ (.int .i64 i8a)).setCell ⟨w.heap.size+1+1,9,none⟩ (.int .i64 i9a)).setCell ⟨w.heap.size+1+1,10,none⟩ (.int .i64 i10a)).setCell ⟨w.heap.size+1+1,11,none⟩ (.slice p11a k11a c11a)):=⟨_,rfl⟩
  have hF:WF=setAll (w.heap.size+1+1) [.string t0a,.string t1a,.slice p2a k2a c2a,.slice p3a k3a c3a,.slice p4a k4a c4a,.slice p5a k5a c5a,.int .i64 i6a,.int .i64 i7a,.int .i64 i8a,.int .i64 i9a,.int .i64 i10a,.slice p11a k11a c11a] 0 w2:=by rw [hWF];simp only [setAll,Nat.zero_add,Nat.reduceAdd]
  have hzF:WF.heap[w.heap.size+1+1]?=some (.cells #[.string t0a,.string t1a,.slice p2a k2a c2a,.slice p3a k3a c3a,.slice p4a k4a c4a,.slice p5a k5a c5a,.int .i64 i6a,.int .i64 i7a,.int .i64 i8a,.int .i64 i9a,.int .i64 i10a,.slice p11a k11a c11a] 30 (0,0)):=by rw [hF];exact setAll12 HZ2.out _ _ _ _ _ _ _ _ _ _ _ _
  have HBF:Hid (Below w.heap.size w WF):=by rw [hF];exact setAll_below (by omega) _ _ HB2.out
  have HIF:Hid (IsNd WF n #[.string t0a,.string t1a,.slice p2a k2a c2a,.slice p3a k3a c3a,.slice p4a k4a c4a,.slice p5a k5a c5a,.int .i64 i6a,.int .i64 i7a,.int .i64 i8a,.int .i64 i9a,.int .i64 i10a,.slice p11a k11a c11a]):=by rw [hF];exact (HN2.out).setAll (NBox.of HZ2.out) _ _
  clear hF
  go_wp2_with fail
  rw [← hWF]
  clear hWF a0 a1 a2 a3 a4 a5 a6 a7 a8 a9 a10 a11 z0 zz0 z1 zz1 z2 zz2 z3 zz3 z4 zz4 z5 zz5 z6 zz6 z7 zz7 z8 zz8 z9 zz9 z10 zz10 z11 zz11
  have z0:WF.cell? ⟨w.heap.size+1+1,0,none⟩=some (.string t0a):=cellsAt hzF 0
  have z1:WF.cell? ⟨w.heap.size+1+1,1,none⟩=some (.string t1a):=cellsAt hzF 1
  have z2:WF.cell? ⟨w.heap.size+1+1,2,none⟩=some (.slice p2a k2a c2a):=cellsAt hzF 2
  have z3:WF.cell? ⟨w.heap.size+1+1,3,none⟩=some (.slice p3a k3a c3a):=cellsAt hzF 3
  have z4:WF.cell? ⟨w.heap.size+1+1,4,none⟩=some (.slice p4a k4a c4a):=cellsAt hzF 4
  have z5:WF.cell? ⟨w.heap.size+1+1,5,none⟩=some (.slice p5a k5a c5a):=cellsAt hzF 5
  have z6:WF.cell? ⟨w.heap.size+1+1,6,none⟩=some (.int .i64 i6a):=cellsAt hzF 6
  have z7:WF.cell? ⟨w.heap.size+1+1,7,none⟩=some (.int .i64 i7a):=cellsAt hzF 7
  have z8:WF.cell? ⟨w.heap.size+1+1,8,none⟩=some (.int .i64 i8a):=cellsAt hzF 8
  have z9:WF.cell? ⟨w.heap.size+1+1,9,none⟩=some (.int .i64 i9a):=cellsAt hzF 9
  have z10:WF.cell? ⟨w.heap.size+1+1,10,none⟩=some (.int .i64 i10a):=cellsAt hzF 10
  have z11:WF.cell? ⟨w.heap.size+1+1,11,none⟩=some (.slice p11a k11a c11a):=cellsAt hzF 11
  refine bodyPost_ret (v:=.tuple #[.agg #[.string t0a,.string t1a,.slice p2a k2a c2a,.slice p3a k3a c3a,.slice p4a k4a c4a,.slice p5a k5a c5a,.int .i64 i6a,.int .i64 i7a,.int .i64 i8a,.int .i64 i9a,.int .i64 i10a,.slice p11a k11a c11a],.int .i64 PE]) ?_ rfl ?_
  ·simp [results,Tryz.results69,go_sem,z0,z1,z2,z3,z4,z5,z6,z7,z8,z9,z10,z11]
  ·exact ⟨_,n,(by rw [HSE.out]),HIF.out,(fun h=>absurd (HSE.out.symm.trans h) HPE.out),HBF.out⟩
 subst hpe
 obtain ⟨hck,hckR,hY5,hY6⟩:=HY4.out h20 (by first | rfl | trivial) (by first | rfl | trivial)
 have HCK:Hid (chk L1=0):=hck
 have HCR:Hid (chkR PL=0):=hckR
 have HY5:Hid (mn≠t0a→SE=0∧SN=({ n with ms:=L1,rs:=PL }:Nd)):=hY5
 have HY6:Hid (mn=t0a→(RE≠0→SE=RE)∧(RE=0→RR=false→SE=0∧SN=({ n with ms:=L1,rs:=PL }:Nd))∧(RE=0→RR=true→SE=PE2∧SN={ n with ms:=RL,rs:=PL2 })):=hY6
 have x2:w2.cell? ⟨w.heap.size,2,none⟩=some (.slice p2a k2a c2a):=cellsAt hg_w2 2
 have xz2:w2.frozen? ⟨w.heap.size,2,none⟩=false:=frozen_of hg_w2 2
 have x3:w2.cell? ⟨w.heap.size,3,none⟩=some (.slice p3a k3a c3a):=cellsAt hg_w2 3
 have xz3:w2.frozen? ⟨w.heap.size,3,none⟩=false:=frozen_of hg_w2 3
 obtain ⟨W3,hW3⟩:∃ W3,W3=(w2.setCell ⟨w.heap.size,2,none⟩ (.slice la L1.length lc)).setCell ⟨w.heap.size,3,none⟩ (.slice ra rk rc):=⟨_,rfl⟩
 have hg_W3:W3.heap[w.heap.size]?=some (.cells #[.string t0a,.string t1a,.slice la L1.length lc,.slice ra rk rc,.slice p4a k4a c4a,.slice p5a k5a c5a,.int .i64 i6a,.int .i64 i7a,.int .i64 i8a,.int .i64 i9a,.int .i64 i10a,.slice p11a k11a c11a] 30 (0,0)):=by rw [hW3];exact Joins.block_setCell (i:=3) (Joins.block_setCell (i:=2) hg_w2 _) _
 have hz_W3:W3.heap[w.heap.size+1+1]?=some (.cells #[.string ⟨#[]⟩,.string ⟨#[]⟩,.slice none 0 0,.slice none 0 0,.slice none 0 0,.slice none 0 0,.int .i64 0,.int .i64 0,.int .i64 0,.int .i64 0,.int .i64 0,.slice none 0 0] 30 (0,0)):=by rw [hW3];exact (Below.heap_setCell _ _ _ _ (by simp only;omega)).trans ((Below.heap_setCell _ _ _ _ (by simp only;omega)).trans hz_w2)
 have hm_W3:W3.heap[w.heap.size+1]?=some (.cells #[.string mn,.int .i64 st,.int .i64 lf,.int .i64 ad,.bool sb] 37 (0,0)):=by rw [hW3];exact (Below.heap_setCell _ _ _ _ (by simp only;omega)).trans ((Below.heap_setCell _ _ _ _ (by simp only;omega)).trans hm_w2)
 have hbw_W3:Below w.heap.size w W3:=by rw [hW3];exact (hbw_w2.setCell (p:=⟨w.heap.size,2,none⟩) (Nat.le_refl _) _).setCell (p:=⟨w.heap.size,3,none⟩) (Nat.le_refl _) _
 have hsh:Sh (fun k=>k=w.heap.size) w2 W3:=by rw [hW3];exact ((Sh.refl _ _).setCell (S:=fun k=>k=w.heap.size) rfl _).setCell (S:=fun k=>k=w.heap.size) rfl _
 have hs_W3:w.heap.size+1+1 < W3.heap.size:=(Array.getElem?_eq_some_iff.1 hz_W3).1
 have HSL3:Hid (Sl W3 (.slice la L1.length lc) L1):=sl_sh1 HSL2.out (NBox.of hg_w2) hsh
 have HRS3:Hid (RSl W3 (.slice ra rk rc) PL):=rsl_sh1 (by have h:=HRS.out;rw [if_pos rfl] at h;exact h) (NBox.of hg_w2) hsh
 have HN3:Hid (IsNd W3 ({ n with ms:=L1,rs:=PL }:Nd) #[.string t0a,.string t1a,.slice la L1.length lc,.slice ra rk rc,.slice p4a k4a c4a,.slice p5a k5a c5a,.int .i64 i6a,.int .i64 i7a,.int .i64 i8a,.int .i64 i9a,.int .i64 i10a,.slice p11a k11a c11a]):=HFI.out W3 la L1.length lc ra rk rc L1 PL hbw_W3 HSL3.out HRS3.out
 have a0:W3.cell? ⟨w.heap.size,0,none⟩=some (.string t0a):=cellsAt hg_W3 0
 have a1:W3.cell? ⟨w.heap.size,1,none⟩=some (.string t1a):=cellsAt hg_W3 1
 have a2:W3.cell? ⟨w.heap.size,2,none⟩=some (.slice la L1.length lc):=cellsAt hg_W3 2
 have a3:W3.cell? ⟨w.heap.size,3,none⟩=some (.slice ra rk rc):=cellsAt hg_W3 3
 have a4:W3.cell? ⟨w.heap.size,4,none⟩=some (.slice p4a k4a c4a):=cellsAt hg_W3 4
 have a5:W3.cell? ⟨w.heap.size,5,none⟩=some (.slice p5a k5a c5a):=cellsAt hg_W3 5
 have a6:W3.cell? ⟨w.heap.size,6,none⟩=some (.int .i64 i6a):=cellsAt hg_W3 6
 have a7:W3.cell? ⟨w.heap.size,7,none⟩=some (.int .i64 i7a):=cellsAt hg_W3 7
 have a8:W3.cell? ⟨w.heap.size,8,none⟩=some (.int .i64 i8a):=cellsAt hg_W3 8
 have a9:W3.cell? ⟨w.heap.size,9,none⟩=some (.int .i64 i9a):=cellsAt hg_W3 9
 have a10:W3.cell? ⟨w.heap.size,10,none⟩=some (.int .i64 i10a):=cellsAt hg_W3 10
 have a11:W3.cell? ⟨w.heap.size,11,none⟩=some (.slice p11a k11a c11a):=cellsAt hg_W3 11
 have z0:W3.cell? ⟨w.heap.size+1+1,0,none⟩=some (.string ⟨#[]⟩):=cellsAt hz_W3 0
 have zz0:W3.frozen? ⟨w.heap.size+1+1,0,none⟩=false:=frozen_of hz_W3 0
 have z1:W3.cell? ⟨w.heap.size+1+1,1,none⟩=some (.string ⟨#[]⟩):=cellsAt hz_W3 1
 have zz1:W3.frozen? ⟨w.heap.size+1+1,1,none⟩=false:=frozen_of hz_W3 1
 have z2:W3.cell? ⟨w.heap.size+1+1,2,none⟩=some (.slice none 0 0):=cellsAt hz_W3 2
 have zz2:W3.frozen? ⟨w.heap.size+1+1,2,none⟩=false:=frozen_of hz_W3 2
 have z3:W3.cell? ⟨w.heap.size+1+1,3,none⟩=some (.slice none 0 0):=cellsAt hz_W3 3
 have zz3:W3.frozen? ⟨w.heap.size+1+1,3,none⟩=false:=frozen_of hz_W3 3
 have z4:W3.cell? ⟨w.heap.size+1+1,4,none⟩=some (.slice none 0 0):=cellsAt hz_W3 4
 have zz4:W3.frozen? ⟨w.heap.size+1+1,4,none⟩=false:=frozen_of hz_W3 4
 have z5:W3.cell? ⟨w.heap.size+1+1,5,none⟩=some (.slice none 0 0):=cellsAt hz_W3 5
 have zz5:W3.frozen? ⟨w.heap.size+1+1,5,none⟩=false:=frozen_of hz_W3 5
 have z6:W3.cell? ⟨w.heap.size+1+1,6,none⟩=some (.int .i64 0):=cellsAt hz_W3 6
 have zz6:W3.frozen? ⟨w.heap.size+1+1,6,none⟩=false:=frozen_of hz_W3 6
 have z7:W3.cell? ⟨w.heap.size+1+1,7,none⟩=some (.int .i64 0):=cellsAt hz_W3 7
 have zz7:W3.frozen? ⟨w.heap.size+1+1,7,none⟩=false:=frozen_of hz_W3 7
 have z8:W3.cell? ⟨w.heap.size+1+1,8,none⟩=some (.int .i64 0):=cellsAt hz_W3 8
 have zz8:W3.frozen? ⟨w.heap.size+1+1,8,none⟩=false:=frozen_of hz_W3 8
 have z9:W3.cell? ⟨w.heap.size+1+1,9,none⟩=some (.int .i64 0):=cellsAt hz_W3 9
 have zz9:W3.frozen? ⟨w.heap.size+1+1,9,none⟩=false:=frozen_of hz_W3 9
 have z10:W3.cell? ⟨w.heap.size+1+1,10,none⟩=some (.int .i64 0):=cellsAt hz_W3 10
 have zz10:W3.frozen? ⟨w.heap.size+1+1,10,none⟩=false:=frozen_of hz_W3 10
 have z11:W3.cell? ⟨w.heap.size+1+1,11,none⟩=some (.slice none 0 0):=cellsAt hz_W3 11
 have zz11:W3.frozen? ⟨w.heap.size+1+1,11,none⟩=false:=frozen_of hz_W3 11
 have b0:W3.cell? ⟨w.heap.size+1,0,none⟩=some (.string mn):=cellsAt hm_W3 0
 have b1:W3.cell? ⟨w.heap.size+1,1,none⟩=some (.int .i64 st):=cellsAt hm_W3 1
 have b2:W3.cell? ⟨w.heap.size+1,2,none⟩=some (.int .i64 lf):=cellsAt hm_W3 2
 have b3:W3.cell? ⟨w.heap.size+1,3,none⟩=some (.int .i64 ad):=cellsAt hm_W3 3
 have b4:W3.cell? ⟨w.heap.size+1,4,none⟩=some (.bool sb):=cellsAt hm_W3 4
 have HW3:Hid (Below w.heap.size w W3∧W3.heap[w.heap.size]?=some (.cells #[.string t0a,.string t1a,.slice la L1.length lc,.slice ra rk rc,.slice p4a k4a c4a,.slice p5a k5a c5a,.int .i64 i6a,.int .i64 i7a,.int .i64 i8a,.int .i64 i9a,.int .i64 i10a,.slice p11a k11a c11a] 30 (0,0))∧W3.heap[w.heap.size+1]?=some (.cells #[.string mn,.int .i64 st,.int .i64 lf,.int .i64 ad,.bool sb] 37 (0,0))∧W3.heap[w.heap.size+1+1]?=some (.cells #[.string ⟨#[]⟩,.string ⟨#[]⟩,.slice none 0 0,.slice none 0 0,.slice none 0 0,.slice none 0 0,.int .i64 0,.int .i64 0,.int .i64 0,.int .i64 0,.int .i64 0,.slice none 0 0] 30 (0,0))):=⟨hbw_W3,hg_W3,hm_W3,hz_W3⟩
 clear hck hckR hY5 hY6 hsh hg_W3 hz_W3 hm_W3 hbw_W3 hg_w2 hz_w2 hm_w2 hbw_w2 HSL2 HRS HN2 HY4 HX3 h20
 have h00:((0:Int) != 0)=false:=rfl
 go_upto_region 10 with fail
 rw [← hW3]
 clear hW3 x2 xz2 x3 xz3
 by_cases hnm:mn=t0a
 rotate_left
 ·have hq:(mn.toList == t0a.toList)=false:=by rw [beq_names,decide_eq_false hnm]
  have HS:=HY5.out hnm
  have HS1:Hid (SE=0):=HS.1
  have HS2:Hid (SN=({ n with ms:=L1,rs:=PL }:Nd)):=HS.2
  clear hnm HS
  obtain ⟨WF,hWF⟩:∃ WF,WF=((((((((((((W3.setCell ⟨w.heap.size+1+1,0,none⟩ (.string t0a)).setCell ⟨w.heap.size+1+1,1,none⟩ (.string t1a)).setCell ⟨w.heap.size+1+1,2,none⟩ (.slice la L1.length lc)).setCell ⟨w.heap.size+1+1,3,none⟩ (.slice ra rk rc)).setCell ⟨w.heap.size+1+1,4,none⟩ (.slice p4a k4a c4a)).setCell ⟨w.heap.size+1+1,5,none⟩ (.slice p5a k5a c5a)).setCell ⟨w.heap.size+1+1,6,none⟩ (.int .i64 i6a)).setCell ⟨w.heap.size+1+1,7,none⟩ (.int .i64 i7a)).setCell ⟨w.heap.size+1+1,8,none⟩ (.int .i64 i8a)).setCell ⟨w.heap.size+1+1,9,none⟩ (.int .i64 i9a)).setCell ⟨w.heap.size+1+1,10,none⟩ (.int .i64 i10a)).setCell ⟨w.heap.size+1+1,11,none⟩ (.slice p11a k11a c11a)):=⟨_,rfl⟩
  have hF:WF=setAll (w.heap.size+1+1) [.string t0a,.string t1a,.slice la L1.length lc,.slice ra rk rc,.slice p4a k4a c4a,.slice p5a k5a c5a,.int .i64 i6a,.int .i64 i7a,.int .i64 i8a,.int .i64 i9a,.int .i64 i10a,.slice p11a k11a c11a] 0 W3:=by rw [hWF];simp only [setAll,Nat.zero_add,Nat.reduceAdd]
  have hzF:WF.heap[w.heap.size+1+1]?=some (.cells #[.string t0a,.string t1a,.slice la L1.length lc,.slice ra rk rc,.slice p4a k4a c4a,.slice p5a k5a c5a,.int .i64 i6a,.int .i64 i7a,.int .i64 i8a,.int .i64 i9a,.int .i64 i10a,.slice p11a k11a c11a] 30 (0,0)):=by rw [hF];exact setAll12 HW3.out.2.2.2 _ _ _ _ _ _ _ _ _ _ _ _
  have HBF:Hid (Below w.heap.size w WF):=by rw [hF];exact setAll_below (by omega) _ _ HW3.out.1
  have HIF:Hid (IsNd WF ({ n with ms:=L1,rs:=PL }:Nd) #[.string t0a,.string t1a,.slice la L1.length lc,.slice ra rk rc,.slice p4a k4a c4a,.slice p5a k5a c5a,.int .i64 i6a,.int .i64 i7a,.int .i64 i8a,.int .i64 i9a,.int .i64 i10a,.slice p11a k11a c11a]):=by rw [hF];exact (HN3.out).setAll (NBox.of HW3.out.2.2.2) _ _
  clear hF
  go_wp2_with fail
  rw [← hWF]
  clear hWF a0 a1 a2 a3 a4 a5 a6 a7 a8 a9 a10 a11 z0 zz0 z1 zz1 z2 zz2 z3 zz3 z4 zz4 z5 zz5 z6 zz6 z7 zz7 z8 zz8 z9 zz9 z10 zz10 z11 zz11
  have z0:WF.cell? ⟨w.heap.size+1+1,0,none⟩=some (.string t0a):=cellsAt hzF 0
  have z1:WF.cell? ⟨w.heap.size+1+1,1,none⟩=some (.string t1a):=cellsAt hzF 1
  have z2:WF.cell? ⟨w.heap.size+1+1,2,none⟩=some (.slice la L1.length lc):=cellsAt hzF 2
  have z3:WF.cell? ⟨w.heap.size+1+1,3,none⟩=some (.slice ra rk rc):=cellsAt hzF 3
  have z4:WF.cell? ⟨w.heap.size+1+1,4,none⟩=some (.slice p4a k4a c4a):=cellsAt hzF 4
  have z5:WF.cell? ⟨w.heap.size+1+1,5,none⟩=some (.slice p5a k5a c5a):=cellsAt hzF 5
  have z6:WF.cell? ⟨w.heap.size+1+1,6,none⟩=some (.int .i64 i6a):=cellsAt hzF 6
  have z7:WF.cell? ⟨w.heap.size+1+1,7,none⟩=some (.int .i64 i7a):=cellsAt hzF 7
  have z8:WF.cell? ⟨w.heap.size+1+1,8,none⟩=some (.int .i64 i8a):=cellsAt hzF 8
  have z9:WF.cell? ⟨w.heap.size+1+1,9,none⟩=some (.int .i64 i9a):=cellsAt hzF 9
  have z10:WF.cell? ⟨w.heap.size+1+1,10,none⟩=some (.int .i64 i10a):=cellsAt hzF 10
  have z11:WF.cell? ⟨w.heap.size+1+1,11,none⟩=some (.slice p11a k11a c11a):=cellsAt hzF 11
  refine bodyPost_ret (v:=.tuple #[.agg #[.string t0a,.string t1a,.slice la L1.length lc,.slice ra rk rc,.slice p4a k4a c4a,.slice p5a k5a c5a,.int .i64 i6a,.int .i64 i7a,.int .i64 i8a,.int .i64 i9a,.int .i64 i10a,.slice p11a k11a c11a],.int .i64 0]) ?_ rfl ?_
  ·simp [results,Tryz.results69,go_sem,z0,z1,z2,z3,z4,z5,z6,z7,z8,z9,z10,z11]
  ·exact ⟨_,({ n with ms:=L1,rs:=PL }:Nd),(by rw [HS1.out]),HIF.out,(fun _=>HS2.out.symm),HBF.out⟩
 have hq:(mn.toList == t0a.toList)=true:=by rw [hnm];simp
 have hq2:mn.toList=t0a.toList:=by rw [hnm]
 obtain ⟨hA1,hA2,hA3⟩:=HY6.out hnm
 have HA1:Hid (RE≠0→SE=RE):=hA1
 have HA2:Hid (RE=0→RR=false→SE=0∧SN=({ n with ms:=L1,rs:=PL }:Nd)):=hA2
 have HA3:Hid (RE=0→RR=true→SE=PE2∧SN={ n with ms:=RL,rs:=PL2 }):=hA3
 clear hA1 hA2 hA3 hnm HY5 HY6
 go_wp2_with fail
 refine (HRF2.out HCK.out W3 _ HSL3.out).mono ?_
 rintro e w4 ⟨v4,rfl,hb4,hv4⟩
 obtain ⟨hbw_W3,hg_W3,hm_W3,hz_W3⟩:=HW3.out
 have hg_w4:w4.heap[w.heap.size]?=some (.cells #[.string t0a,.string t1a,.slice la L1.length lc,.slice ra rk rc,.slice p4a k4a c4a,.slice p5a k5a c5a,.int .i64 i6a,.int .i64 i7a,.int .i64 i8a,.int .i64 i9a,.int .i64 i10a,.slice p11a k11a c11a] 30 (0,0)):=(hb4.block _ (by omega)).trans hg_W3
 have hz_w4:w4.heap[w.heap.size+1+1]?=some (.cells #[.string ⟨#[]⟩,.string ⟨#[]⟩,.slice none 0 0,.slice none 0 0,.slice none 0 0,.slice none 0 0,.int .i64 0,.int .i64 0,.int .i64 0,.int .i64 0,.int .i64 0,.slice none 0 0] 30 (0,0)):=(hb4.block _ (by omega)).trans hz_W3
 have hm_w4:w4.heap[w.heap.size+1]?=some (.cells #[.string mn,.int .i64 st,.int .i64 lf,.int .i64 ad,.bool sb] 37 (0,0)):=(hb4.block _ (by omega)).trans hm_W3
 have hbw_w4:Below w.heap.size w w4:=hbw_W3.trans (hb4.mono hbw_W3.size)
 have hs_w4:w.heap.size+1+1 < w4.heap.size:=by have:=hb4.size;omega
 have HN4:Hid (IsNd w4 ({ n with ms:=L1,rs:=PL }:Nd) #[.string t0a,.string t1a,.slice la L1.length lc,.slice ra rk rc,.slice p4a k4a c4a,.slice p5a k5a c5a,.int .i64 i6a,.int .i64 i7a,.int .i64 i8a,.int .i64 i9a,.int .i64 i10a,.slice p11a k11a c11a]):=HN3.out.below hb4
 have HRS4:Hid (RSl w4 (.slice ra rk rc) PL):=HRS3.out.below hb4
 have HV4:Hid (RE=0→Sl w4 v4 RL):=hv4
 clear a0 a1 a2 a3 a4 a5 a6 a7 a8 a9 a10 a11 z0 zz0 z1 zz1 z2 zz2 z3 zz3 z4 zz4 z5 zz5 z6 zz6 z7 zz7 z8 zz8 z9 zz9 z10 zz10 z11 zz11 b0 b1 b2 b3 b4
 have a0:w4.cell? ⟨w.heap.size,0,none⟩=some (.string t0a):=cellsAt hg_w4 0
 have a1:w4.cell? ⟨w.heap.size,1,none⟩=some (.string t1a):=cellsAt hg_w4 1
 have a2:w4.cell? ⟨w.heap.size,2,none⟩=some (.slice la L1.length lc):=cellsAt hg_w4 2
 have a3:w4.cell? ⟨w.heap.size,3,none⟩=some (.slice ra rk rc):=cellsAt hg_w4 3
 have a4:w4.cell? ⟨w.heap.size,4,none⟩=some (.slice p4a k4a c4a):=cellsAt hg_w4 4
 have a5:w4.cell? ⟨w.heap.size,5,none⟩=some (.slice p5a k5a c5a):=cellsAt hg_w4 5
 have a6:w4.cell? ⟨w.heap.size,6,none⟩=some (.int .i64 i6a):=cellsAt hg_w4 6
 have a7:w4.cell? ⟨w.heap.size,7,none⟩=some (.int .i64 i7a):=cellsAt hg_w4 7
 have a8:w4.cell? ⟨w.heap.size,8,none⟩=some (.int .i64 i8a):=cellsAt hg_w4 8
 have a9:w4.cell? ⟨w.heap.size,9,none⟩=some (.int .i64 i9a):=cellsAt hg_w4 9
 have a10:w4.cell? ⟨w.heap.size,10,none⟩=some (.int .i64 i10a):=cellsAt hg_w4 10
 have a11:w4.cell? ⟨w.heap.size,11,none⟩=some (.slice p11a k11a c11a):=cellsAt hg_w4 11
 have z0:w4.cell? ⟨w.heap.size+1+1,0,none⟩=some (.string ⟨#[]⟩):=cellsAt hz_w4 0
 have zz0:w4.frozen? ⟨w.heap.size+1+1,0,none⟩=false:=frozen_of hz_w4 0
 have z1:w4.cell? ⟨w.heap.size+1+1,1,none⟩=some (.string ⟨#[]⟩):=cellsAt hz_w4 1
 have zz1:w4.frozen? ⟨w.heap.size+1+1,1,none⟩=false:=frozen_of hz_w4 1
 have z2:w4.cell? ⟨w.heap.size+1+1,2,none⟩=some (.slice none 0 0):=cellsAt hz_w4 2
 have zz2:w4.frozen? ⟨w.heap.size+1+1,2,none⟩=false:=frozen_of hz_w4 2
 have z3:w4.cell? ⟨w.heap.size+1+1,3,none⟩=some (.slice none 0 0):=cellsAt hz_w4 3
 have zz3:w4.frozen? ⟨w.heap.size+1+1,3,none⟩=false:=frozen_of hz_w4 3
 have z4:w4.cell? ⟨w.heap.size+1+1,4,none⟩=some (.slice none 0 0):=cellsAt hz_w4 4
 have zz4:w4.frozen? ⟨w.heap.size+1+1,4,none⟩=false:=frozen_of hz_w4 4
 have z5:w4.cell? ⟨w.heap.size+1+1,5,none⟩=some (.slice none 0 0):=cellsAt hz_w4 5
 have zz5:w4.frozen? ⟨w.heap.size+1+1,5,none⟩=false:=frozen_of hz_w4 5
 have z6:w4.cell? ⟨w.heap.size+1+1,6,none⟩=some (.int .i64 0):=cellsAt hz_w4 6
 have zz6:w4.frozen? ⟨w.heap.size+1+1,6,none⟩=false:=frozen_of hz_w4 6
 have z7:w4.cell? ⟨w.heap.size+1+1,7,none⟩=some (.int .i64 0):=cellsAt hz_w4 7
 have zz7:w4.frozen? ⟨w.heap.size+1+1,7,none⟩=false:=frozen_of hz_w4 7
 have z8:w4.cell? ⟨w.heap.size+1+1,8,none⟩=some (.int .i64 0):=cellsAt hz_w4 8
 have zz8:w4.frozen? ⟨w.heap.size+1+1,8,none⟩=false:=frozen_of hz_w4 8
 have z9:w4.cell? ⟨w.heap.size+1+1,9,none⟩=some (.int .i64 0):=cellsAt hz_w4 9
 have zz9:w4.frozen? ⟨w.heap.size+1+1,9,none⟩=false:=frozen_of hz_w4 9
 have z10:w4.cell? ⟨w.heap.size+1+1,10,none⟩=some (.int .i64 0):=cellsAt hz_w4 10
 have zz10:w4.frozen? ⟨w.heap.size+1+1,10,none⟩=false:=frozen_of hz_w4 10
 have z11:w4.cell? ⟨w.heap.size+1+1,11,none⟩=some (.slice none 0 0):=cellsAt hz_w4 11
 have zz11:w4.frozen? ⟨w.heap.size+1+1,11,none⟩=false:=frozen_of hz_w4 11
 have HW4:Hid (Below w.heap.size w w4∧w4.heap[w.heap.size]?=some (.cells #[.string t0a,.string t1a,.slice la L1.length lc,.slice ra rk rc,.slice p4a k4a c4a,.slice p5a k5a c5a,.int .i64 i6a,.int .i64 i7a,.int .i64 i8a,.int .i64 i9a,.int .i64 i10a,.slice p11a k11a c11a] 30 (0,0))∧w4.heap[w.heap.size+1]?=some (.cells #[.string mn,.int .i64 st,.int .i64 lf,.int .i64 ad,.bool sb] 37 (0,0))∧w4.heap[w.heap.size+1+1]?=some (.cells #[.string ⟨#[]⟩,.string ⟨#[]⟩,.slice none 0 0,.slice none 0 0,.slice none 0 0,.slice none 0 0,.int .i64 0,.int .i64 0,.int .i64 0,.int .i64 0,.int .i64 0,.slice none 0 0] 30 (0,0))):=⟨hbw_w4,hg_w4,hm_w4,hz_w4⟩
 clear hb4 hv4 hbw_W3 hg_W3 hm_W3 hz_W3 hbw_w4 hg_w4 hm_w4 hz_w4 HN3 HRS3 HSL3 HRF2 HW3
 by_cases hre:RE=0
 rotate_left
 ·have HSE:Hid (SE=RE):=HA1.out hre
  have HRE:Hid (RE≠0):=hre
  have hre':(RE != 0)=true:=by simpa using hre
  clear hre
  obtain ⟨WF,hWF⟩:∃ WF,WF=((((((((((((w4.setCell ⟨w.heap.size+1+1,0,none⟩ (.string t0a)).setCell ⟨w.heap.size+1+1,1,none⟩ (.string t1a)).setCell ⟨w.heap.size+1+1,2,none⟩ (.slice la L1.length lc)).setCell ⟨w.heap.size+1+1,3,none⟩ (.slice ra rk rc)).setCell ⟨w.heap.size+1+1,4,none⟩ (.slice p4a k4a c4a)).setCell ⟨w.heap.size+1+1,5,none⟩ (.slice p5a k5a c5a)).setCell ⟨w.heap.size+1+1,6,none⟩ (.int .i64 i6a)).setCell ⟨w.heap.size+1+1,7,none⟩ (.int .i64 i7a)).setCell ⟨w.heap.size+1+1,8,none⟩ (.int .i64 i8a)).setCell ⟨w.heap.size+1+1,9,none⟩ (.int .i64 i9a)).setCell ⟨w.heap.size+1+1,10,none⟩ (.int .i64 i10a)).setCell ⟨w.heap.size+1+1,11,none⟩ (.slice p11a k11a c11a)):=⟨_,rfl⟩
  have hF:WF=setAll (w.heap.size+1+1) [.string t0a,.string t1a,.slice la L1.length lc,.slice ra rk rc,.slice p4a k4a c4a,.slice p5a k5a c5a,.int .i64 i6a,.int .i64 i7a,.int .i64 i8a,.int .i64 i9a,.int .i64 i10a,.slice p11a k11a c11a] 0 w4:=by rw [hWF];simp only [setAll,Nat.zero_add,Nat.reduceAdd]
  have hzF:WF.heap[w.heap.size+1+1]?=some (.cells #[.string t0a,.string t1a,.slice la L1.length lc,.slice ra rk rc,.slice p4a k4a c4a,.slice p5a k5a c5a,.int .i64 i6a,.int .i64 i7a,.int .i64 i8a,.int .i64 i9a,.int .i64 i10a,.slice p11a k11a c11a] 30 (0,0)):=by rw [hF];exact setAll12 HW4.out.2.2.2 _ _ _ _ _ _ _ _ _ _ _ _
  have HBF:Hid (Below w.heap.size w WF):=by rw [hF];exact setAll_below (by omega) _ _ HW4.out.1
  have HIF:Hid (IsNd WF ({ n with ms:=L1,rs:=PL }:Nd) #[.string t0a,.string t1a,.slice la L1.length lc,.slice ra rk rc,.slice p4a k4a c4a,.slice p5a k5a c5a,.int .i64 i6a,.int .i64 i7a,.int .i64 i8a,.int .i64 i9a,.int .i64 i10a,.slice p11a k11a c11a]):=by rw [hF];exact (HN4.out).setAll (NBox.of HW4.out.2.2.2) _ _
  clear hF
  go_wp2_with fail
  rw [← hWF]
  clear hWF a0 a1 a2 a3 a4 a5 a6 a7 a8 a9 a10 a11 z0 zz0 z1 zz1 z2 zz2 z3 zz3 z4 zz4 z5 zz5 z6 zz6 z7 zz7 z8 zz8 z9 zz9 z10 zz10 z11 zz11
  have z0:WF.cell? ⟨w.heap.size+1+1,0,none⟩=some (.string t0a):=cellsAt hzF 0
  have z1:WF.cell? ⟨w.heap.size+1+1,1,none⟩=some (.string t1a):=cellsAt hzF 1
  have z2:WF.cell? ⟨w.heap.size+1+1,2,none⟩=some (.slice la L1.length lc):=cellsAt hzF 2
  have z3:WF.cell? ⟨w.heap.size+1+1,3,none⟩=some (.slice ra rk rc):=cellsAt hzF 3
  have z4:WF.cell? ⟨w.heap.size+1+1,4,none⟩=some (.slice p4a k4a c4a):=cellsAt hzF 4
  have z5:WF.cell? ⟨w.heap.size+1+1,5,none⟩=some (.slice p5a k5a c5a):=cellsAt hzF 5
  have z6:WF.cell? ⟨w.heap.size+1+1,6,none⟩=some (.int .i64 i6a):=cellsAt hzF 6
  have z7:WF.cell? ⟨w.heap.size+1+1,7,none⟩=some (.int .i64 i7a):=cellsAt hzF 7
  have z8:WF.cell? ⟨w.heap.size+1+1,8,none⟩=some (.int .i64 i8a):=cellsAt hzF 8
  have z9:WF.cell? ⟨w.heap.size+1+1,9,none⟩=some (.int .i64 i9a):=cellsAt hzF 9
  have z10:WF.cell? ⟨w.heap.size+1+1,10,none⟩=some (.int .i64 i10a):=cellsAt hzF 10
  have z11:WF.cell? ⟨w.heap.size+1+1,11,none⟩=some (.slice p11a k11a c11a):=cellsAt hzF 11
  refine bodyPost_ret (v:=.tuple #[.agg #[.string t0a,.string t1a,.slice la L1.length lc,.slice ra rk rc,.slice p4a k4a c4a,.slice p5a k5a c5a,.int .i64 i6a,.int .i64 i7a,.int .i64 i8a,.int .i64 i9a,.int .i64 i10a,.slice p11a k11a c11a],.int .i64 RE]) ?_ rfl ?_
  ·simp [results,Tryz.results69,go_sem,z0,z1,z2,z3,z4,z5,z6,z7,z8,z9,z10,z11]
  ·exact ⟨_,({ n with ms:=L1,rs:=PL }:Nd),(by rw [HSE.out]),HIF.out,(fun h=>absurd (HSE.out.symm.trans h) HRE.out),HBF.out⟩
 subst hre
 have hsv:=HV4.out (by first | rfl | trivial)
 obtain ⟨ja,jc,hj,_⟩:=hsv
 subst hj
 have HSR:Hid (Sl w4 (.slice ja RL.length jc) RL):=HV4.out (by first | rfl | trivial)
 clear HV4
 rcases hrr:RR with _ | _
 ·have HS:=HA2.out (by first | rfl | trivial) hrr
  have HS1:Hid (SE=0):=HS.1
  have HS2:Hid (SN=({ n with ms:=L1,rs:=PL }:Nd)):=HS.2
  subst hrr
  clear HS
  obtain ⟨WF,hWF⟩:∃ WF,WF=((((((((((((w4.setCell ⟨w.heap.size+1+1,0,none⟩ (.string t0a)).setCell ⟨w.heap.size+1+1,1,none⟩ (.string t1a)).setCell ⟨w.heap.size+1+1,2,none⟩ (.slice la L1.length lc)).setCell ⟨w.heap.size+1+1,3,none⟩ (.slice ra rk rc)).setCell ⟨w.heap.size+1+1,4,none⟩ (.slice p4a k4a c4a)).setCell ⟨w.heap.size+1+1,5,none⟩ (.slice p5a k5a c5a)).setCell ⟨w.heap.size+1+1,6,none⟩ (.int .i64 i6a)).setCell ⟨w.heap.size+1+1,7,none⟩ (.int .i64 i7a)).setCell ⟨w.heap.size+1+1,8,none⟩ (.int .i64 i8a)).setCell ⟨w.heap.size+1+1,9,none⟩ (.int .i64 i9a)).setCell ⟨w.heap.size+1+1,10,none⟩ (.int .i64 i10a)).setCell ⟨w.heap.size+1+1,11,none⟩ (.slice p11a k11a c11a)):=⟨_,rfl⟩
  have hF:WF=setAll (w.heap.size+1+1) [.string t0a,.string t1a,.slice la L1.length lc,.slice ra rk rc,.slice p4a k4a c4a,.slice p5a k5a c5a,.int .i64 i6a,.int .i64 i7a,.int .i64 i8a,.int .i64 i9a,.int .i64 i10a,.slice p11a k11a c11a] 0 w4:=by rw [hWF];simp only [setAll,Nat.zero_add,Nat.reduceAdd]
  have hzF:WF.heap[w.heap.size+1+1]?=some (.cells #[.string t0a,.string t1a,.slice la L1.length lc,.slice ra rk rc,.slice p4a k4a c4a,.slice p5a k5a c5a,.int .i64 i6a,.int .i64 i7a,.int .i64 i8a,.int .i64 i9a,.int .i64 i10a,.slice p11a k11a c11a] 30 (0,0)):=by rw [hF];exact setAll12 HW4.out.2.2.2 _ _ _ _ _ _ _ _ _ _ _ _
  have HBF:Hid (Below w.heap.size w WF):=by rw [hF];exact setAll_below (by omega) _ _ HW4.out.1
  have HIF:Hid (IsNd WF ({ n with ms:=L1,rs:=PL }:Nd) #[.string t0a,.string t1a,.slice la L1.length lc,.slice ra rk rc,.slice p4a k4a c4a,.slice p5a k5a c5a,.int .i64 i6a,.int .i64 i7a,.int .i64 i8a,.int .i64 i9a,.int .i64 i10a,.slice p11a k11a c11a]):=by rw [hF];exact (HN4.out).setAll (NBox.of HW4.out.2.2.2) _ _
  clear hF
  go_wp2_with fail
  rw [← hWF]
  clear hWF a0 a1 a2 a3 a4 a5 a6 a7 a8 a9 a10 a11 z0 zz0 z1 zz1 z2 zz2 z3 zz3 z4 zz4 z5 zz5 z6 zz6 z7 zz7 z8 zz8 z9 zz9 z10 zz10 z11 zz11
  have z0:WF.cell? ⟨w.heap.size+1+1,0,none⟩=some (.string t0a):=cellsAt hzF 0
  have z1:WF.cell? ⟨w.heap.size+1+1,1,none⟩=some (.string t1a):=cellsAt hzF 1
  have z2:WF.cell? ⟨w.heap.size+1+1,2,none⟩=some (.slice la L1.length lc):=cellsAt hzF 2
  have z3:WF.cell? ⟨w.heap.size+1+1,3,none⟩=some (.slice ra rk rc):=cellsAt hzF 3
  have z4:WF.cell? ⟨w.heap.size+1+1,4,none⟩=some (.slice p4a k4a c4a):=cellsAt hzF 4
  have z5:WF.cell? ⟨w.heap.size+1+1,5,none⟩=some (.slice p5a k5a c5a):=cellsAt hzF 5
  have z6:WF.cell? ⟨w.heap.size+1+1,6,none⟩=some (.int .i64 i6a):=cellsAt hzF 6
  have z7:WF.cell? ⟨w.heap.size+1+1,7,none⟩=some (.int .i64 i7a):=cellsAt hzF 7
  have z8:WF.cell? ⟨w.heap.size+1+1,8,none⟩=some (.int .i64 i8a):=cellsAt hzF 8
  have z9:WF.cell? ⟨w.heap.size+1+1,9,none⟩=some (.int .i64 i9a):=cellsAt hzF 9
  have z10:WF.cell? ⟨w.heap.size+1+1,10,none⟩=some (.int .i64 i10a):=cellsAt hzF 10
  have z11:WF.cell? ⟨w.heap.size+1+1,11,none⟩=some (.slice p11a k11a c11a):=cellsAt hzF 11
  refine bodyPost_ret (v:=.tuple #[.agg #[.string t0a,.string t1a,.slice la L1.length lc,.slice ra rk rc,.slice p4a k4a c4a,.slice p5a k5a c5a,.int .i64 i6a,.int .i64 i7a,.int .i64 i8a,.int .i64 i9a,.int .i64 i10a,.slice p11a k11a c11a],.int .i64 0]) ?_ rfl ?_
  ·simp [results,Tryz.results69,go_sem,z0,z1,z2,z3,z4,z5,z6,z7,z8,z9,z10,z11]
  ·exact ⟨_,({ n with ms:=L1,rs:=PL }:Nd),(by rw [HS1.out]),HIF.out,(fun _=>HS2.out.symm),HBF.out⟩
 subst hrr
 have hS3:=HA3.out (by first | rfl | trivial) (by first | rfl | trivial)
 have HS1:Hid (SE=PE2):=hS3.1
 have HS2:Hid (SN={ n with ms:=RL,rs:=PL2 }):=hS3.2
 have hrn:=HRN.out HCK.out (by first | rfl | trivial)
 clear a0 a1 a2 a3 a4 a5 a6 a7 a8 a9 a10 a11 z0 zz0 z1 zz1 z2 zz2 z3 zz3 z4 zz4 z5 zz5 z6 zz6 z7 zz7 z8 zz8 z9 zz9 z10 zz10 z11 zz11 hS3
 obtain ⟨hbw_w4,hg_w4,hm_w4,hz_w4⟩:=HW4.out
 have hsr:=HSR.out
 obtain ⟨ja2,jc2,hj2,hnz,hrow⟩:=hsr
 rcases hrow with h0 | ⟨g,off,hga,hlt,hr4⟩
 ·exact absurd h0 hrn
 injection hj2 with hj3 hj4 hj5
 rw [hga] at hj3
 subst hj3
 have x2:w4.cell? ⟨w.heap.size,2,none⟩=some (.slice la L1.length lc):=cellsAt hg_w4 2
 have xz2:w4.frozen? ⟨w.heap.size,2,none⟩=false:=frozen_of hg_w4 2
 obtain ⟨W5,hW5⟩:∃ W5,W5=w4.setCell ⟨w.heap.size,2,none⟩ (.slice (some ⟨g,off,none⟩) RL.length jc):=⟨_,rfl⟩
 have hg_W5:W5.heap[w.heap.size]?=some (.cells #[.string t0a,.string t1a,.slice (some ⟨g,off,none⟩) RL.length jc,.slice ra rk rc,.slice p4a k4a c4a,.slice p5a k5a c5a,.int .i64 i6a,.int .i64 i7a,.int .i64 i8a,.int .i64 i9a,.int .i64 i10a,.slice p11a k11a c11a] 30 (0,0)):=by rw [hW5];exact Joins.block_setCell (i:=2) hg_w4 _
 have hz_W5:W5.heap[w.heap.size+1+1]?=some (.cells #[.string ⟨#[]⟩,.string ⟨#[]⟩,.slice none 0 0,.slice none 0 0,.slice none 0 0,.slice none 0 0,.int .i64 0,.int .i64 0,.int .i64 0,.int .i64 0,.int .i64 0,.slice none 0 0] 30 (0,0)):=by rw [hW5];exact (Below.heap_setCell _ _ _ _ (by simp only;omega)).trans hz_w4
 have hbw_W5:Below w.heap.size w W5:=by rw [hW5];exact hbw_w4.setCell (p:=⟨w.heap.size,2,none⟩) (Nat.le_refl _) _
 have hsh:Sh (fun k=>k=w.heap.size) w4 W5:=by rw [hW5];exact (Sh.refl _ _).setCell (S:=fun k=>k=w.heap.size) rfl _
 have hs_W5:w.heap.size+1+1 < W5.heap.size:=(Array.getElem?_eq_some_iff.1 hz_W5).1
 have HSR5:Hid (Sl W5 (.slice (some ⟨g,off,none⟩) RL.length jc) RL):=sl_sh1 HSR.out (NBox.of hg_w4) hsh
 have HRS5:Hid (RSl W5 (.slice ra rk rc) PL):=rsl_sh1 HRS4.out (NBox.of hg_w4) hsh
 have HROW:Hid (Row W5 g off RL):=by
  obtain ⟨_,_,hv,_,hr⟩:=HSR5.out
  rcases hr with h0 | ⟨g2,off2,hga2,_,hr⟩
  ·exact absurd h0 hrn
  ·injection hv with hv1 _ _
   rw [hga2] at hv1
   injection hv1 with hv1
   injection hv1 with hv2 hv3
   subst hv2 hv3
   exact hr
 have HMA2:Hid (Calls Tryz.prog 52 #[.slice (some ⟨g,off,none⟩) RL.length jc,.string t0a] W5.drew fun e w'=>∃ k:Nat,e=.returned (.int .i64 k)∧k < RL.length∧RL.getD k dm=M2∧w'=W5.drew):=HMA.out HCK.out (by first | rfl | trivial) _ _ (HSR5.out.below (Below.refl _ _).drew)
 have HPP2:Hid (Calls Tryz.prog 126 #[.slice ra rk rc,.agg #[.string M2.name,.int .i64 M2.state,.int .i64 M2.life,.int .i64 M2.addr,.bool M2.server]] W5.drew fun e w'=>∃ a k c,e=.returned (.tuple #[.slice a k c,.int .i64 PE2])∧Below W5.drew.heap.size W5.drew w'∧RSl w' (.slice a k c) (if PE2=0 then PL2 else [])):=HP2.out HCK.out HCR.out (by first | rfl | trivial) _ _ (HRS5.out.below (Below.refl _ _).drew)
 have HW5:Hid (Below w.heap.size w W5∧W5.heap[w.heap.size]?=some (.cells #[.string t0a,.string t1a,.slice (some ⟨g,off,none⟩) RL.length jc,.slice ra rk rc,.slice p4a k4a c4a,.slice p5a k5a c5a,.int .i64 i6a,.int .i64 i7a,.int .i64 i8a,.int .i64 i9a,.int .i64 i10a,.slice p11a k11a c11a] 30 (0,0))∧W5.heap[w.heap.size+1+1]?=some (.cells #[.string ⟨#[]⟩,.string ⟨#[]⟩,.slice none 0 0,.slice none 0 0,.slice none 0 0,.slice none 0 0,.int .i64 0,.int .i64 0,.int .i64 0,.int .i64 0,.int .i64 0,.slice none 0 0] 30 (0,0))):=⟨hbw_W5,hg_W5,hz_W5⟩
 have y3:W5.cell? ⟨w.heap.size,3,none⟩=some (.slice ra rk rc):=cellsAt hg_W5 3
 have y0:W5.cell? ⟨w.heap.size,0,none⟩=some (.string t0a):=cellsAt hg_W5 0
 clear hsh hbw_w4 hg_w4 hm_w4 hz_w4 hr4 hlt hnz hga hj4 hj5 hrn HSR HRS4 HMA HP2 HN4 HW4 HA1 HA2 HA3 HCK HCR HRN hbw_W5 hg_W5 hz_W5
 obtain ⟨m0,m1,m2,m3,m4⟩:=M2
 simp only at HPP2
 go_upto_region 16 with fail
 rw [← hW5]
 clear hW5 x2 xz2
 go_region_with (first
  | (go_at_call 52;refine HMA2.out.mono ?_;rintro e w' ⟨k,rfl,hk,hgd,hww⟩;subst hww;have hki:(k:Int) < (RL.length:Int):=by omega
     obtain ⟨c0,c1,c2,c3,c4⟩:=HROW.out k hk;rw [hgd] at c0 c1 c2 c3 c4;simp only at c0 c1 c2 c3 c4;clear hgd)
  | (go_at_call 126;refine HPP2.out.mono ?_;rintro e w6 ⟨qa,qk,qc,rfl,hb6,hq6⟩;have HB56:Hid (Below W5.heap.size W5 w6):=(Below.refl W5.heap.size W5).drew.trans hb6;have HQ6:Hid (RSl w6 (.slice qa qk qc) (if PE2=0 then PL2 else [])):=hq6;have hg6:w6.heap[w.heap.size]?=some (.cells #[.string t0a,.string t1a,.slice (some ⟨g,off,none⟩) RL.length jc,.slice ra rk rc,.slice p4a k4a c4a,.slice p5a k5a c5a,.int .i64 i6a,.int .i64 i7a,.int .i64 i8a,.int .i64 i9a,.int .i64 i10a,.slice p11a k11a c11a] 30 (0,0)):=(HB56.out.block _ (by omega)).trans HW5.out.2.1;have u3:w6.cell? ⟨w.heap.size,3,none⟩=some (.slice ra rk rc):=cellsAt hg6 3;have uf:w6.frozen? ⟨w.heap.size,3,none⟩=false:=frozen_of hg6 3;clear hb6 hq6 hg6))
 all_goals
  obtain ⟨W7,hW7⟩:∃ W7,W7=w6.setCell ⟨w.heap.size,3,none⟩ (.slice qa qk qc):=⟨_,rfl⟩
  rw [← hW7]
  have hg6:w6.heap[w.heap.size]?=some (.cells #[.string t0a,.string t1a,.slice (some ⟨g,off,none⟩) RL.length jc,.slice ra rk rc,.slice p4a k4a c4a,.slice p5a k5a c5a,.int .i64 i6a,.int .i64 i7a,.int .i64 i8a,.int .i64 i9a,.int .i64 i10a,.slice p11a k11a c11a] 30 (0,0)):=(HB56.out.block _ (by omega)).trans HW5.out.2.1
  have hz6:w6.heap[w.heap.size+1+1]?=some (.cells #[.string ⟨#[]⟩,.string ⟨#[]⟩,.slice none 0 0,.slice none 0 0,.slice none 0 0,.slice none 0 0,.int .i64 0,.int .i64 0,.int .i64 0,.int .i64 0,.int .i64 0,.slice none 0 0] 30 (0,0)):=(HB56.out.block _ (by omega)).trans HW5.out.2.2
  have hb6:Below w.heap.size w w6:=HW5.out.1.trans (HB56.out.mono HW5.out.1.size)
  have hg7:W7.heap[w.heap.size]?=some (.cells #[.string t0a,.string t1a,.slice (some ⟨g,off,none⟩) RL.length jc,.slice qa qk qc,.slice p4a k4a c4a,.slice p5a k5a c5a,.int .i64 i6a,.int .i64 i7a,.int .i64 i8a,.int .i64 i9a,.int .i64 i10a,.slice p11a k11a c11a] 30 (0,0)):=by rw [hW7];exact Joins.block_setCell (i:=3) hg6 _
  have hz7:W7.heap[w.heap.size+1+1]?=some (.cells #[.string ⟨#[]⟩,.string ⟨#[]⟩,.slice none 0 0,.slice none 0 0,.slice none 0 0,.slice none 0 0,.int .i64 0,.int .i64 0,.int .i64 0,.int .i64 0,.int .i64 0,.slice none 0 0] 30 (0,0)):=by rw [hW7];exact (Below.heap_setCell _ _ _ _ (by simp only;omega)).trans hz6
  have hb7:Below w.heap.size w W7:=by rw [hW7];exact hb6.setCell (p:=⟨w.heap.size,3,none⟩) (Nat.le_refl _) _
  have hsh:Sh (fun k=>k=w.heap.size) w6 W7:=by rw [hW7];exact (Sh.refl _ _).setCell (S:=fun k=>k=w.heap.size) rfl _
  have HN7:Hid (IsNd W7 ({ n with ms:=RL,rs:=if PE2=0 then PL2 else [] }:Nd) #[.string t0a,.string t1a,.slice (some ⟨g,off,none⟩) RL.length jc,.slice qa qk qc,.slice p4a k4a c4a,.slice p5a k5a c5a,.int .i64 i6a,.int .i64 i7a,.int .i64 i8a,.int .i64 i9a,.int .i64 i10a,.slice p11a k11a c11a]):=HFI.out W7 _ _ _ qa qk qc RL _ hb7 (sl_sh1 (HSR5.out.below HB56.out) (NBox.of hg6) hsh) (rsl_sh1 HQ6.out (NBox.of hg6) hsh)
  have a0:W7.cell? ⟨w.heap.size,0,none⟩=some (.string t0a):=cellsAt hg7 0
  have a1:W7.cell? ⟨w.heap.size,1,none⟩=some (.string t1a):=cellsAt hg7 1
  have a2:W7.cell? ⟨w.heap.size,2,none⟩=some (.slice (some ⟨g,off,none⟩) RL.length jc):=cellsAt hg7 2
  have a3:W7.cell? ⟨w.heap.size,3,none⟩=some (.slice qa qk qc):=cellsAt hg7 3
  have a4:W7.cell? ⟨w.heap.size,4,none⟩=some (.slice p4a k4a c4a):=cellsAt hg7 4
  have a5:W7.cell? ⟨w.heap.size,5,none⟩=some (.slice p5a k5a c5a):=cellsAt hg7 5
  have a6:W7.cell? ⟨w.heap.size,6,none⟩=some (.int .i64 i6a):=cellsAt hg7 6
  have a7:W7.cell? ⟨w.heap.size,7,none⟩=some (.int .i64 i7a):=cellsAt hg7 7
  have a8:W7.cell? ⟨w.heap.size,8,none⟩=some (.int .i64 i8a):=cellsAt hg7 8
  have a9:W7.cell? ⟨w.heap.size,9,none⟩=some (.int .i64 i9a):=cellsAt hg7 9
  have a10:W7.cell? ⟨w.heap.size,10,none⟩=some (.int .i64 i10a):=cellsAt hg7 10
  have a11:W7.cell? ⟨w.heap.size,11,none⟩=some (.slice p11a k11a c11a):=cellsAt hg7 11
  have z0:W7.cell? ⟨w.heap.size+1+1,0,none⟩=some (.string ⟨#[]⟩):=cellsAt hz7 0
  have zz0:W7.frozen? ⟨w.heap.size+1+1,0,none⟩=false:=frozen_of hz7 0
  have z1:W7.cell? ⟨w.heap.size+1+1,1,none⟩=some (.string ⟨#[]⟩):=cellsAt hz7 1
  have zz1:W7.frozen? ⟨w.heap.size+1+1,1,none⟩=false:=frozen_of hz7 1
  have z2:W7.cell? ⟨w.heap.size+1+1,2,none⟩=some (.slice none 0 0):=cellsAt hz7 2
  have zz2:W7.frozen? ⟨w.heap.size+1+1,2,none⟩=false:=frozen_of hz7 2
  have z3:W7.cell? ⟨w.heap.size+1+1,3,none⟩=some (.slice none 0 0):=cellsAt hz7 3
  have zz3:W7.frozen? ⟨w.heap.size+1+1,3,none⟩=false:=frozen_of hz7 3
  have z4:W7.cell? ⟨w.heap.size+1+1,4,none⟩=some (.slice none 0 0):=cellsAt hz7 4
  have zz4:W7.frozen? ⟨w.heap.size+1+1,4,none⟩=false:=frozen_of hz7 4
  have z5:W7.cell? ⟨w.heap.size+1+1,5,none⟩=some (.slice none 0 0):=cellsAt hz7 5
  have zz5:W7.frozen? ⟨w.heap.size+1+1,5,none⟩=false:=frozen_of hz7 5
  have z6:W7.cell? ⟨w.heap.size+1+1,6,none⟩=some (.int .i64 0):=cellsAt hz7 6
  have zz6:W7.frozen? ⟨w.heap.size+1+1,6,none⟩=false:=frozen_of hz7 6
  have z7:W7.cell? ⟨w.heap.size+1+1,7,none⟩=some (.int .i64 0):=cellsAt hz7 7
  have zz7:W7.frozen? ⟨w.heap.size+1+1,7,none⟩=false:=frozen_of hz7 7
  have z8:W7.cell? ⟨w.heap.size+1+1,8,none⟩=some (.int .i64 0):=cellsAt hz7 8
  have zz8:W7.frozen? ⟨w.heap.size+1+1,8,none⟩=false:=frozen_of hz7 8
  have z9:W7.cell? ⟨w.heap.size+1+1,9,none⟩=some (.int .i64 0):=cellsAt hz7 9
  have zz9:W7.frozen? ⟨w.heap.size+1+1,9,none⟩=false:=frozen_of hz7 9
  have z10:W7.cell? ⟨w.heap.size+1+1,10,none⟩=some (.int .i64 0):=cellsAt hz7 10
  have zz10:W7.frozen? ⟨w.heap.size+1+1,10,none⟩=false:=frozen_of hz7 10
  have z11:W7.cell? ⟨w.heap.size+1+1,11,none⟩=some (.slice none 0 0):=cellsAt hz7 11
  have zz11:W7.frozen? ⟨w.heap.size+1+1,11,none⟩=false:=frozen_of hz7 11
  have HZ7:Hid (W7.heap[w.heap.size+1+1]?=some (.cells #[.string ⟨#[]⟩,.string ⟨#[]⟩,.slice none 0 0,.slice none 0 0,.slice none 0 0,.slice none 0 0,.int .i64 0,.int .i64 0,.int .i64 0,.int .i64 0,.int .i64 0,.slice none 0 0] 30 (0,0))):=hz7
  have HB7:Hid (Below w.heap.size w W7):=hb7
  clear hW7 hg6 hz6 hb6 hg7 hz7 hb7 hsh y0 y3 u3 uf
  obtain ⟨WF,hWF⟩:∃ WF,WF=((((((((((((W7.setCell ⟨w.heap.size+1+1,0,none⟩ (.string t0a)).setCell ⟨w.heap.size+1+1,1,none⟩ (.string t1a)).setCell ⟨w.heap.size+1+1,2,none⟩ (.slice (some ⟨g,off,none⟩) RL.length jc)).setCell ⟨w.heap.size+1+1,3,none⟩ (.slice qa qk qc)).setCell ⟨w.heap.size+1+1,4,none⟩ (.slice p4a k4a c4a)).setCell ⟨w.heap.size+1+1,5,none⟩ (.slice p5a k5a c5a)).setCell ⟨w.heap.size+1+1,6,none⟩ (.int .i64 i6a)).setCell ⟨w.heap.size+1+1,7,none⟩ (.int .i64 i7a)).setCell ⟨w.heap.size+1+1,8,none⟩ (.int .i64 i8a)).setCell ⟨w.heap.size+1+1,9,none⟩ (.int .i64 i9a)).setCell ⟨w.heap.size+1+1,10,none⟩ (.int .i64 i10a)).setCell ⟨w.heap.size+1+1,11,none⟩ (.slice p11a k11a c11a)):=⟨_,rfl⟩
  have hF:WF=setAll (w.heap.size+1+1) [.string t0a,.string t1a,.slice (some ⟨g,off,none⟩) RL.length jc,.slice qa qk qc,.slice p4a k4a c4a,.slice p5a k5a c5a,.int .i64 i6a,.int .i64 i7a,.int .i64 i8a,.int .i64 i9a,.int .i64 i10a,.slice p11a k11a c11a] 0 W7:=by rw [hWF];simp only [setAll,Nat.zero_add,Nat.reduceAdd]
  have hzF:WF.heap[w.heap.size+1+1]?=some (.cells #[.string t0a,.string t1a,.slice (some ⟨g,off,none⟩) RL.length jc,.slice qa qk qc,.slice p4a k4a c4a,.slice p5a k5a c5a,.int .i64 i6a,.int .i64 i7a,.int .i64 i8a,.int .i64 i9a,.int .i64 i10a,.slice p11a k11a c11a] 30 (0,0)):=by rw [hF];exact setAll12 HZ7.out _ _ _ _ _ _ _ _ _ _ _ _
  have HBF:Hid (Below w.heap.size w WF):=by rw [hF];exact setAll_below (by omega) _ _ HB7.out
  have HIF:Hid (IsNd WF ({ n with ms:=RL,rs:=if PE2=0 then PL2 else [] }:Nd) #[.string t0a,.string t1a,.slice (some ⟨g,off,none⟩) RL.length jc,.slice qa qk qc,.slice p4a k4a c4a,.slice p5a k5a c5a,.int .i64 i6a,.int .i64 i7a,.int .i64 i8a,.int .i64 i9a,.int .i64 i10a,.slice p11a k11a c11a]):=by rw [hF];exact (HN7.out).setAll (NBox.of HZ7.out) _ _
  clear hF
  go_wp2_with fail
  rw [← hWF]
  clear hWF a0 a1 a2 a3 a4 a5 a6 a7 a8 a9 a10 a11 z0 zz0 z1 zz1 z2 zz2 z3 zz3 z4 zz4 z5 zz5 z6 zz6 z7 zz7 z8 zz8 z9 zz9 z10 zz10 z11 zz11
  have z0:WF.cell? ⟨w.heap.size+1+1,0,none⟩=some (.string t0a):=cellsAt hzF 0
  have z1:WF.cell? ⟨w.heap.size+1+1,1,none⟩=some (.string t1a):=cellsAt hzF 1
  have z2:WF.cell? ⟨w.heap.size+1+1,2,none⟩=some (.slice (some ⟨g,off,none⟩) RL.length jc):=cellsAt hzF 2
  have z3:WF.cell? ⟨w.heap.size+1+1,3,none⟩=some (.slice qa qk qc):=cellsAt hzF 3
  have z4:WF.cell? ⟨w.heap.size+1+1,4,none⟩=some (.slice p4a k4a c4a):=cellsAt hzF 4
  have z5:WF.cell? ⟨w.heap.size+1+1,5,none⟩=some (.slice p5a k5a c5a):=cellsAt hzF 5
  have z6:WF.cell? ⟨w.heap.size+1+1,6,none⟩=some (.int .i64 i6a):=cellsAt hzF 6
  have z7:WF.cell? ⟨w.heap.size+1+1,7,none⟩=some (.int .i64 i7a):=cellsAt hzF 7
  have z8:WF.cell? ⟨w.heap.size+1+1,8,none⟩=some (.int .i64 i8a):=cellsAt hzF 8
  have z9:WF.cell? ⟨w.heap.size+1+1,9,none⟩=some (.int .i64 i9a):=cellsAt hzF 9
  have z10:WF.cell? ⟨w.heap.size+1+1,10,none⟩=some (.int .i64 i10a):=cellsAt hzF 10
  have z11:WF.cell? ⟨w.heap.size+1+1,11,none⟩=some (.slice p11a k11a c11a):=cellsAt hzF 11
  refine bodyPost_ret (v:=.tuple #[.agg #[.string t0a,.string t1a,.slice (some ⟨g,off,none⟩) RL.length jc,.slice qa qk qc,.slice p4a k4a c4a,.slice p5a k5a c5a,.int .i64 i6a,.int .i64 i7a,.int .i64 i8a,.int .i64 i9a,.int .i64 i10a,.slice p11a k11a c11a],.int .i64 PE2]) ?_ rfl ?_
  ·simp [results,Tryz.results69,go_sem,z0,z1,z2,z3,z4,z5,z6,z7,z8,z9,z10,z11]
  ·exact ⟨_,({ n with ms:=RL,rs:=if PE2=0 then PL2 else [] }:Nd),(by rw [HS1.out]),HIF.out,(fun h=>by rw [if_pos (HS1.out.symm.trans h),HS2.out]),HBF.out⟩
end Go.Proofs.YtikgjgmgbfjcgaaGreat
