import Derived.Test.YtikgjgmgbfjcgaaGreatW14
import Derived.Test.YtikgjgmgbfjcgaaGreatW25
import Derived.Test.YtikgjgmgbfjcgaaGreatW45
import Derived.Test.YtikgjgmgbfjcgaaGreatW49
namespace Go.Proofs.YtikgjgmgbfjcgaaGreat
namespace Wh
open Go.RowKit
set_option maxHeartbeats 6400000 in
set_option maxRecDepth 100000 in
theorem refPut_any (ms:List Whe) (v:Value) (m:Whe) (w:World) (hv:Sl w v ms) (hn:ms.length≤1000) (hr:Rise ms) (p:Nat) (f:Bool) (hat:At ms m p f) :
 Calls Tryz.prog 73 #[v,.agg #[.string m.node,.int .i64 m.x,.int .i64 m.y,.int .i64 m.z,.int .i64 m.h,.int .i64 m.s]] w fun e w'=>∃ v',e=.returned v'∧Own (w.heap.size+1) w' v' (RL.put ms m p f)∧Below w.heap.size w w':=by
 obtain ⟨i0,hi0,hz0,hzs,hzb⟩:=info_parts Tryz.info104
 have hb0:Below w.heap.size w (w.alloc (.cells #[.string m.node,.int .i64 m.x,.int .i64 m.y,.int .i64 m.z,.int .i64 m.h,.int .i64 m.s] 104)):=(Below.refl _ _).alloc (Nat.le_refl _) _
 have HR:Hid (Rise ms):=hr
 have HAT:Hid (At ms m p f):=hat
 have hpn:=hat.le
 obtain ⟨pa,ca,rfl,_,ha⟩:=hv
 have HA0:Hid (ms=[]∨∃ b off,pa=some ⟨b,off,none⟩∧b < w.heap.size∧Row w b off ms):=ha
 clear ha hat hr
 generalize hna:ms.length=n at *
 have HN:Hid (ms.length=n):=hna
 clear hna
 obtain ⟨q,hq⟩:∃ q,q=if f=true then p+1 else p:=⟨_,rfl⟩
 have HQ:Hid (q=if f=true then p+1 else p):=hq
 have hqp:q≤p+1:=by rw [hq];split<;>omega
 clear hq
 have HPUT:Hid (p < n→RL.outL ms m p q n=RL.put ms m p f):=fun h=>by rw [HQ.out,← HN.out];exact RL.put_out (by rw [HN.out];exact h)
 have HLAST:Hid (p=n→f=false∧RL.outL ms m p q n++[m]=RL.put ms m p f):=fun h=>by
  have hf:f=false:=by
   cases f
   ·rfl
   ·have:=(HAT.out.is.1 rfl).1;have:=HN.out;omega
  subst hf
  exact ⟨rfl,by rw [← HN.out];exact RL.put_last (by rw [HN.out];exact h)⟩
 go_enter Tryz.func73,Tryz.ntmps73
 go_wp2_with fail
 obtain ⟨W1,hW1⟩:∃ W1,W1=w.alloc (.cells #[.string m.node,.int .i64 m.x,.int .i64 m.y,.int .i64 m.z,.int .i64 m.h,.int .i64 m.s] 104):=⟨_,rfl⟩
 have hs1:W1.heap.size=w.heap.size+1:=by rw [hW1];simp
 have hg1:W1.heap[w.heap.size]?=some (.cells #[.string m.node,.int .i64 m.x,.int .i64 m.y,.int .i64 m.z,.int .i64 m.h,.int .i64 m.s] 104 (0,0)):=by rw [hW1];exact heap_alloc_new w _
 have d0:W1.cell? ⟨w.heap.size,0,none⟩=some (.string m.node):=cellsAt hg1 0
 have d1:W1.cell? ⟨w.heap.size,1,none⟩=some (.int .i64 m.x):=cellsAt hg1 1
 have d2:W1.cell? ⟨w.heap.size,2,none⟩=some (.int .i64 m.y):=cellsAt hg1 2
 have d3:W1.cell? ⟨w.heap.size,3,none⟩=some (.int .i64 m.z):=cellsAt hg1 3
 have d4:W1.cell? ⟨w.heap.size,4,none⟩=some (.int .i64 m.h):=cellsAt hg1 4
 have d5:W1.cell? ⟨w.heap.size,5,none⟩=some (.int .i64 m.s):=cellsAt hg1 5
 have hb01:Hid (Below w.heap.size w W1):=by rw [hW1];exact hb0
 have HW1:Hid (W1=w.alloc (.cells #[.string m.node,.int .i64 m.x,.int .i64 m.y,.int .i64 m.z,.int .i64 m.h,.int .i64 m.s] 104)):=hW1
 have HA:Hid (ms=[]∨∃ b off,pa=some ⟨b,off,none⟩∧b < w.heap.size+1∧Row W1 b off ms):=by
  rcases HA0.out with h | ⟨b,off,h1,h2,h3⟩
  ·exact .inl h
  ·exact .inr ⟨b,off,h1,by omega,h3.later hb01.out h2⟩
 clear hW1 hg1 hb0 HA0
 have hw1:w.heap.size < w.heap.size+1:=by omega
 go_loopw [5,6,7] (fun kn b i w'=>∃ (k:Nat) (bb:Bool),k≤n∧i=.int .i64 k∧b=.bool bb∧Hid (bb=true↔p < k)∧Below (w.heap.size+1) W1 w'∧Hid (Own (w.heap.size+1) w' kn (RL.outL ms m p q k))) (fun _ _ i _=>n - (intOf i).toNat)
 case atStart=>exact ⟨0,false,Nat.zero_le _,rfl,rfl,⟨fun h=>(by cases h),fun h=>(by omega)⟩,by rw [HW1.out];exact Below.refl _ _,own_nil _ _⟩
 case round=>
  obtain ⟨k,bb,hk,rfl,rfl,hbb,hbl,HO⟩:=hrel
  have hbc:∀ b o,b < w.heap.size+1→wr.cell? ⟨b,o,none⟩=W1.cell? ⟨b,o,none⟩:=fun b o h=>hbl.cell (p:=⟨b,o,none⟩) h
  have hsz:=hbl.size
  have hlen:=RL.outL_len (ms:=ms) (m:=m) (p:=p) (q:=q) (k:=k)
  have hlen2:(RL.outL ms m p q k).length≤2001:=by have:=HN.out;omega
  clear hlen
  by_cases hlt:k < n
  ·obtain ⟨b1,o1,hp1,hl1,hr1⟩:∃ b off,pa=some ⟨b,off,none⟩∧b < w.heap.size+1∧Row W1 b off ms:=by
    rcases HA.out with h | h
    ·have:=HN.out;rw [h] at this;simp at this;omega
    ·exact h
   subst hp1
   obtain ⟨c0,c1,c2,c3,c4,c5⟩:=hr1 k (by rw [HN.out];exact hlt)
   clear hr1
   have hkl:k < ms.length:=by rw [HN.out];exact hlt
   have HLO:Hid (k < p→RL.outL ms m p q (k+1)=RL.outL ms m p q k++[ms.getD k dm]∧ord (ms.getD k dm) m < 0):=fun h=>⟨RL.outL_lo dm h hkl,HAT.out.lo k h⟩
   have HHI:Hid (p < k→RL.outL ms m p q (k+1)=RL.outL ms m p q k++[ms.getD k dm]∧0 < ord (ms.getD k dm) m):=fun h=>⟨RL.outL_hi dm h (by omega) hkl,RL.at_hi_ne ord dm keyed HAT.out HR.out k h hkl⟩
   have HEQ:Hid (k=p→f=true→RL.outL ms m p q (k+1)=RL.outL ms m p q k++[m]∧ord (ms.getD k dm) m=0):=fun h hf=>by
    have hq:q=p+1:=HQ.out.trans (if_pos hf)
    rw [hq,h]
    exact ⟨RL.outL_eq,(HAT.out.is.1 hf).2⟩
   have HNE:Hid (k=p→f=false→RL.outL ms m p q (k+1)=(RL.outL ms m p q k++[m])++[ms.getD k dm]∧0 < ord (ms.getD k dm) m):=fun h hf=>by
    have hq:q=p:=HQ.out.trans (if_neg (by rw [hf];exact Bool.false_ne_true))
    rw [hq,h]
    refine ⟨RL.outL_ne dm (by omega),?_⟩
    have h1:=HAT.out.hi p (Nat.le_refl _) (by omega)
    have h2:¬ ord (ms.getD p dm) m=0:=fun e=>by have:=HAT.out.is.2 ⟨by omega,e⟩;rw [hf] at this;cases this
    omega
   generalize ms.getD k dm=mk at *
   rcases Nat.lt_trichotomy k p with hkp | hkp | hkp
   ·have hbf:bb=false:=by
     cases bb
     ·rfl
     ·have:=hbb.out.1 rfl;omega
    subst hbf
    obtain ⟨hO,hls⟩:=HLO.out hkp
    have HOL:Hid (RL.outL ms m p q (k+1)=RL.outL ms m p q k++[mk]):=hO
    have hl1':Op.bytesLess mk.node.toList m.node.toList=true:=(cmpI_lt _ _).1 hls
    obtain ⟨hne1,hne2⟩:=beq_name (a:=mk.node) (b:=m.node) (fun e=>by have h:ord mk m=0:=(cmpI_eq _ _).2 e;omega)
    clear hO hls HLO HHI HEQ HNE hbb
    generalize RL.outL ms m p q k=L at *
    go_wp2_with fail
    go_quiet (fail)
    go_wp2_with fail
    go_quiet (fail)
    go_wp2_with (at_builtin;refine wpList_append_own _ rfl _ _ 28 rfl (w.heap.size+1) 104 i0 _ 6 56 Tryz.underlying28 hi0 hz0 hzs hzb rfl (by omega) _ (L).length (fl (L)) rfl ?hown ⟨wr.heap.size,0,none⟩ 1 1 (mk).cs rfl rfl ?hnews (cs_one _) ?h63 ?hbytes ?hbase ?_)
    case hown=>(refine HO.out.below ?_;repeat (first | exact Below.refl _ _ | refine below_drewN ?_ _ | refine Below.alloc ?_ (by simp) _ | refine Below.drew ?_))
    case hnews=>(intro j u hj;rw [Addr.add_lit];exact (cellsAt (heap_alloc_new wr (.cells #[.string mk.node,.int .i64 mk.x,.int .i64 mk.y,.int .i64 mk.z,.int .i64 mk.h,.int .i64 mk.s] 104)) (0+j)).trans (by simpa [Whe.cs] using hj))
    case h63=>(unfold maxLen;omega)
    case hbytes=>omega
    case hbase=>(simp;omega)
    intro v' w2 r1 r2 r3
    have HBX:Hid (Below (w.heap.size+1) W1 w2):=by
     have h0:Below (w.heap.size+1) W1 (wr.alloc (.cells #[.string mk.node,.int .i64 mk.x,.int .i64 mk.y,.int .i64 mk.z,.int .i64 mk.h,.int .i64 mk.s] 104)):=hbl.alloc (by omega) _
     exact h0.trans ((Below.refl _ _).grown (w:=wr.alloc (.cells #[.string mk.node,.int .i64 mk.x,.int .i64 mk.y,.int .i64 mk.z,.int .i64 mk.h,.int .i64 mk.s] 104)) ⟨r2.os,r2.tape,r2.output,r2.size,r2.block⟩ (by simp;omega) (fun j hj=>(HO.out.lt j hj).1))
    have HOX:Hid (Own (w.heap.size+1) w2 v' (L++[mk])):=own_snoc (by first | exact r1 | (rw [List.length_append];exact r1))
    clear r1 r2 r3
    go_wp2_with fail
    exact ⟨⟨k+1,false,by omega,by go_num,rfl,⟨fun h=>(by cases h),fun h=>(by omega)⟩,HBX.out,(by rw [HOL.out];exact HOX.out)⟩,by simp [intOf];omega⟩
   ·have hbf:bb=false:=by
     cases bb
     ·rfl
     ·have:=hbb.out.1 rfl;omega
    subst hbf
    have hkp1:p≤k:=by omega
    have hkp2:k≤p:=by omega
    have HKP:Hid (k=p):=hkp
    clear hkp
    cases f
    ·obtain ⟨hO,hls⟩:=HNE.out HKP.out rfl
     have HOL:Hid (RL.outL ms m p q (k+1)=(RL.outL ms m p q k++[m])++[mk]):=hO
     have hl1':Op.bytesLess mk.node.toList m.node.toList=false:=less_asymm ((cmpI_gt _ _).1 hls)
     obtain ⟨hne1,hne2⟩:=beq_name (a:=mk.node) (b:=m.node) (fun e=>by have h:ord mk m=0:=(cmpI_eq _ _).2 e;omega)
     clear hO hls HLO HHI HEQ HNE hbb
     generalize RL.outL ms m p q k=L at *
     go_wp2_with fail
     go_quiet (fail)
     go_wp2_with (at_builtin;refine wpList_append_own _ rfl _ _ 28 rfl (w.heap.size+1) 104 i0 _ 6 56 Tryz.underlying28 hi0 hz0 hzs hzb rfl (by omega) _ (L).length (fl (L)) rfl ?hown ⟨wr.heap.size,0,none⟩ 1 1 (m).cs rfl rfl ?hnews (cs_one _) ?h63 ?hbytes ?hbase ?_)
     case hown=>(refine HO.out.below ?_;repeat (first | exact Below.refl _ _ | refine below_drewN ?_ _ | refine Below.alloc ?_ (by simp) _ | refine Below.drew ?_))
     case hnews=>(intro j u hj;rw [Addr.add_lit];exact (cellsAt (heap_alloc_new wr (.cells #[.string m.node,.int .i64 m.x,.int .i64 m.y,.int .i64 m.z,.int .i64 m.h,.int .i64 m.s] 104)) (0+j)).trans (by simpa [Whe.cs] using hj))
     case h63=>(unfold maxLen;omega)
     case hbytes=>omega
     case hbase=>(simp;omega)
     intro v' w2 r1 r2 r3
     have HBX:Hid (Below (w.heap.size+1) W1 w2):=by
      have h0:Below (w.heap.size+1) W1 (wr.alloc (.cells #[.string m.node,.int .i64 m.x,.int .i64 m.y,.int .i64 m.z,.int .i64 m.h,.int .i64 m.s] 104)):=hbl.alloc (by omega) _
      exact h0.trans ((Below.refl _ _).grown (w:=wr.alloc (.cells #[.string m.node,.int .i64 m.x,.int .i64 m.y,.int .i64 m.z,.int .i64 m.h,.int .i64 m.s] 104)) ⟨r2.os,r2.tape,r2.output,r2.size,r2.block⟩ (by simp;omega) (fun j hj=>(HO.out.lt j hj).1))
     have HOX:Hid (Own (w.heap.size+1) w2 v' (L++[m])):=own_snoc (by first | exact r1 | (rw [List.length_append];exact r1))
     clear r1 r2 r3
     have hbl2:=HBX.out
     have hbc2:∀ b o,b < w.heap.size+1→w2.cell? ⟨b,o,none⟩=W1.cell? ⟨b,o,none⟩:=fun b o h=>hbl2.cell (p:=⟨b,o,none⟩) h
     have hsz2:=hbl2.size
     clear hbl hbc hsz HO
     have hl2:(L++[m]).length≤2002:=by simp;omega
     go_wp2_with fail
     go_quiet (fail)
     go_wp2_with (at_builtin;refine wpList_append_own _ rfl _ _ 28 rfl (w.heap.size+1) 104 i0 _ 6 56 Tryz.underlying28 hi0 hz0 hzs hzb rfl (by omega) _ (L++[m]).length (fl (L++[m])) rfl ?hown ⟨w2.heap.size,0,none⟩ 1 1 (mk).cs rfl rfl ?hnews (cs_one _) ?h63 ?hbytes ?hbase ?_)
     case hown=>(refine HOX.out.below ?_;repeat (first | exact Below.refl _ _ | refine below_drewN ?_ _ | refine Below.alloc ?_ (by simp) _ | refine Below.drew ?_))
     case hnews=>(intro j u hj;rw [Addr.add_lit];exact (cellsAt (heap_alloc_new w2 (.cells #[.string mk.node,.int .i64 mk.x,.int .i64 mk.y,.int .i64 mk.z,.int .i64 mk.h,.int .i64 mk.s] 104)) (0+j)).trans (by simpa [Whe.cs] using hj))
     case h63=>(unfold maxLen;omega)
     case hbytes=>omega
     case hbase=>(simp;omega)
     clear HBX
     intro v' w3 r1 r2 r3
     have HBXY:Hid (Below (w.heap.size+1) W1 w3):=by
      have h0:Below (w.heap.size+1) W1 (w2.alloc (.cells #[.string mk.node,.int .i64 mk.x,.int .i64 mk.y,.int .i64 mk.z,.int .i64 mk.h,.int .i64 mk.s] 104)):=hbl2.alloc (by omega) _
      exact h0.trans ((Below.refl _ _).grown (w:=w2.alloc (.cells #[.string mk.node,.int .i64 mk.x,.int .i64 mk.y,.int .i64 mk.z,.int .i64 mk.h,.int .i64 mk.s] 104)) ⟨r2.os,r2.tape,r2.output,r2.size,r2.block⟩ (by simp;omega) (fun j hj=>(HOX.out.lt j hj).1))
     have HOXY:Hid (Own (w.heap.size+1) w3 v' ((L++[m])++[mk])):=own_snoc (by first | exact r1 | (rw [List.length_append];exact r1))
     clear r1 r2 r3
     go_wp2_with fail
     exact ⟨⟨k+1,true,by omega,by go_num,rfl,⟨fun _=>(by omega),fun _=>(rfl)⟩,HBXY.out,(by rw [HOL.out];exact HOXY.out)⟩,by simp [intOf];omega⟩
    ·obtain ⟨hO,hls⟩:=HEQ.out HKP.out rfl
     have HOL:Hid (RL.outL ms m p q (k+1)=RL.outL ms m p q k++[m]):=hO
     have hce:mk.node=m.node:=(cmpI_eq _ _).1 hls
     rw [hce] at c0
     have hl1':Op.bytesLess m.node.toList m.node.toList=false:=bl_irrefl _
     clear hO hls HLO HHI HEQ HNE hbb
     generalize RL.outL ms m p q k=L at *
     go_wp2_with fail
     go_quiet (fail)
     go_wp2_with (at_builtin;refine wpList_append_own _ rfl _ _ 28 rfl (w.heap.size+1) 104 i0 _ 6 56 Tryz.underlying28 hi0 hz0 hzs hzb rfl (by omega) _ (L).length (fl (L)) rfl ?hown ⟨wr.heap.size,0,none⟩ 1 1 (m).cs rfl rfl ?hnews (cs_one _) ?h63 ?hbytes ?hbase ?_)
     case hown=>(refine HO.out.below ?_;repeat (first | exact Below.refl _ _ | refine below_drewN ?_ _ | refine Below.alloc ?_ (by simp) _ | refine Below.drew ?_))
     case hnews=>(intro j u hj;rw [Addr.add_lit];exact (cellsAt (heap_alloc_new wr (.cells #[.string m.node,.int .i64 m.x,.int .i64 m.y,.int .i64 m.z,.int .i64 m.h,.int .i64 m.s] 104)) (0+j)).trans (by simpa [Whe.cs] using hj))
     case h63=>(unfold maxLen;omega)
     case hbytes=>omega
     case hbase=>(simp;omega)
     intro v' w2 r1 r2 r3
     have HBX:Hid (Below (w.heap.size+1) W1 w2):=by
      have h0:Below (w.heap.size+1) W1 (wr.alloc (.cells #[.string m.node,.int .i64 m.x,.int .i64 m.y,.int .i64 m.z,.int .i64 m.h,.int .i64 m.s] 104)):=hbl.alloc (by omega) _
      exact h0.trans ((Below.refl _ _).grown (w:=wr.alloc (.cells #[.string m.node,.int .i64 m.x,.int .i64 m.y,.int .i64 m.z,.int .i64 m.h,.int .i64 m.s] 104)) ⟨r2.os,r2.tape,r2.output,r2.size,r2.block⟩ (by simp;omega) (fun j hj=>(HO.out.lt j hj).1))
     have HOX:Hid (Own (w.heap.size+1) w2 v' (L++[m])):=own_snoc (by first | exact r1 | (rw [List.length_append];exact r1))
     clear r1 r2 r3
     have hbl2:=HBX.out
     have hbc2:∀ b o,b < w.heap.size+1→w2.cell? ⟨b,o,none⟩=W1.cell? ⟨b,o,none⟩:=fun b o h=>hbl2.cell (p:=⟨b,o,none⟩) h
     have hsz2:=hbl2.size
     clear hbl hbc hsz HO
     go_wp2_with fail
     go_quiet (fail)
     go_wp2_with fail
     exact ⟨⟨k+1,true,by omega,by go_num,rfl,⟨fun _=>(by omega),fun _=>rfl⟩,below_drewN HBX.out _,(by rw [HOL.out];exact HOX.out.below (below_drewN (Below.refl _ _) _))⟩,by simp [intOf];omega⟩
   ·have hbf:bb=true:=hbb.out.2 hkp
    subst hbf
    obtain ⟨hO,hls⟩:=HHI.out hkp
    have HOL:Hid (RL.outL ms m p q (k+1)=RL.outL ms m p q k++[mk]):=hO
    have hl1':Op.bytesLess mk.node.toList m.node.toList=false:=less_asymm ((cmpI_gt _ _).1 hls)
    obtain ⟨hne1,hne2⟩:=beq_name (a:=mk.node) (b:=m.node) (fun e=>by have h:ord mk m=0:=(cmpI_eq _ _).2 e;omega)
    clear hO hls HLO HHI HEQ HNE hbb
    generalize RL.outL ms m p q k=L at *
    go_wp2_with fail
    go_quiet (fail)
    go_wp2_with fail
    go_quiet (fail)
    go_wp2_with (at_builtin;refine wpList_append_own _ rfl _ _ 28 rfl (w.heap.size+1) 104 i0 _ 6 56 Tryz.underlying28 hi0 hz0 hzs hzb rfl (by omega) _ (L).length (fl (L)) rfl ?hown ⟨wr.heap.size,0,none⟩ 1 1 (mk).cs rfl rfl ?hnews (cs_one _) ?h63 ?hbytes ?hbase ?_)
    case hown=>(refine HO.out.below ?_;repeat (first | exact Below.refl _ _ | refine below_drewN ?_ _ | refine Below.alloc ?_ (by simp) _ | refine Below.drew ?_))
    case hnews=>(intro j u hj;rw [Addr.add_lit];exact (cellsAt (heap_alloc_new wr (.cells #[.string mk.node,.int .i64 mk.x,.int .i64 mk.y,.int .i64 mk.z,.int .i64 mk.h,.int .i64 mk.s] 104)) (0+j)).trans (by simpa [Whe.cs] using hj))
    case h63=>(unfold maxLen;omega)
    case hbytes=>omega
    case hbase=>(simp;omega)
    intro v' w2 r1 r2 r3
    have HBX:Hid (Below (w.heap.size+1) W1 w2):=by
     have h0:Below (w.heap.size+1) W1 (wr.alloc (.cells #[.string mk.node,.int .i64 mk.x,.int .i64 mk.y,.int .i64 mk.z,.int .i64 mk.h,.int .i64 mk.s] 104)):=hbl.alloc (by omega) _
     exact h0.trans ((Below.refl _ _).grown (w:=wr.alloc (.cells #[.string mk.node,.int .i64 mk.x,.int .i64 mk.y,.int .i64 mk.z,.int .i64 mk.h,.int .i64 mk.s] 104)) ⟨r2.os,r2.tape,r2.output,r2.size,r2.block⟩ (by simp;omega) (fun j hj=>(HO.out.lt j hj).1))
    have HOX:Hid (Own (w.heap.size+1) w2 v' (L++[mk])):=own_snoc (by first | exact r1 | (rw [List.length_append];exact r1))
    clear r1 r2 r3
    go_wp2_with fail
    exact ⟨⟨k+1,true,by omega,by go_num,rfl,⟨fun _=>(by omega),fun _=>(rfl)⟩,HBX.out,(by rw [HOL.out];exact HOX.out)⟩,by simp [intOf];omega⟩
  ·have hkn:k=n:=by omega
   subst hkn
   have HBX:Hid (Below w.heap.size w wr):=hb01.out.trans (hbl.mono (by omega))
   by_cases hpk:p < k
   ·have hbf:bb=true:=hbb.out.2 hpk
    subst hbf
    have HFO:Hid (Own (w.heap.size+1) wr u5 (RL.put ms m p f)):=by
     have h:=HO.out
     rw [HPUT.out hpk] at h
     exact h
    clear HO hlen2
    go_wp2_with fail
    go_ret
    exact ⟨u5,rfl,HFO.out,HBX.out⟩
   ·have hbf:bb=false:=by
     cases bb
     ·rfl
     ·have:=hbb.out.1 rfl;omega
    subst hbf
    obtain ⟨hf,hput⟩:=HLAST.out (by omega)
    have HPL:Hid (RL.outL ms m p q k++[m]=RL.put ms m p f):=hput
    clear hput HPUT HLAST
    generalize RL.outL ms m p q k=L at *
    go_wp2_with (at_builtin;refine wpList_append_own _ rfl _ _ 28 rfl (w.heap.size+1) 104 i0 _ 6 56 Tryz.underlying28 hi0 hz0 hzs hzb rfl (by omega) _ (L).length (fl (L)) rfl ?hown ⟨wr.heap.size,0,none⟩ 1 1 (m).cs rfl rfl ?hnews (cs_one _) ?h63 ?hbytes ?hbase ?_)
    case hown=>(refine HO.out.below ?_;repeat (first | exact Below.refl _ _ | refine below_drewN ?_ _ | refine Below.alloc ?_ (by simp) _ | refine Below.drew ?_))
    case hnews=>(intro j u hj;rw [Addr.add_lit];exact (cellsAt (heap_alloc_new wr (.cells #[.string m.node,.int .i64 m.x,.int .i64 m.y,.int .i64 m.z,.int .i64 m.h,.int .i64 m.s] 104)) (0+j)).trans (by simpa [Whe.cs] using hj))
    case h63=>(unfold maxLen;omega)
    case hbytes=>omega
    case hbase=>(simp;omega)
    intro v' w2 r1 r2 r3
    have HBY:Hid (Below w.heap.size w w2):=by
     have h0:Below (w.heap.size+1) W1 (wr.alloc (.cells #[.string m.node,.int .i64 m.x,.int .i64 m.y,.int .i64 m.z,.int .i64 m.h,.int .i64 m.s] 104)):=hbl.alloc (by omega) _
     have h1:Below (w.heap.size+1) W1 w2:=h0.trans ((Below.refl _ _).grown (w:=wr.alloc (.cells #[.string m.node,.int .i64 m.x,.int .i64 m.y,.int .i64 m.z,.int .i64 m.h,.int .i64 m.s] 104)) ⟨r2.os,r2.tape,r2.output,r2.size,r2.block⟩ (by simp;omega) (fun j hj=>(HO.out.lt j hj).1))
     exact hb01.out.trans (h1.mono (by omega))
    have HFO:Hid (Own (w.heap.size+1) w2 v' (RL.put ms m p f)):=by rw [← HPL.out];exact own_snoc r1
    clear r1 r2 r3
    go_wp2_with fail
    go_ret
    exact ⟨v',rfl,HFO.out,HBY.out⟩
end Wh
end Go.Proofs.YtikgjgmgbfjcgaaGreat
namespace Go.Proofs.YtikgjgmgbfjcgaaGreat
open Go.RowKit
theorem Wh.put_hear {ms:List Wh.Whe} {m:Wh.Whe} {p:Nat} {f:Bool} (h:Wh.At ms m p f):RL.put ms m p f=Wh.hearL ms m:=by
 rw [Wh.hearL_at ms m p f h]
 unfold RL.put
 cases f
 ·rfl
 ·have hp:=(h.is.1 rfl).1
  simp only [if_true,Wh.newE]
  exact (List.set_eq_take_append_cons_drop (l:=ms) (i:=p) (a:=m) |>.trans (if_pos hp)).symm
theorem putWhere_is (l:List Wh.Whe) (v:Value) (x:Wh.Whe) (w:World) (hv:Wh.Sl w v l) (hn:l.length≤20) (hr:Wh.Rise l) :
 Calls Tryz.prog 73 #[v,.agg #[.string x.node,.int .i64 x.x,.int .i64 x.y,.int .i64 x.z,.int .i64 x.h,.int .i64 x.s]] w fun e w'=>∃ a c,e=.returned (.slice a (Wh.hearL l x).length c)∧Wh.Own (w.heap.size+1) w' (.slice a (Wh.hearL l x).length c) (Wh.hearL l x)∧Below w.heap.size w w':=by
 obtain ⟨p,f,hat⟩:=Wh.at_any l hr x
 refine (Wh.refPut_any l v x w hv (by omega) hr p f hat).mono ?_
 rintro e w' ⟨v',rfl,ho,hb⟩
 rw [Wh.put_hear hat] at ho
 obtain ⟨a,c,rfl,_⟩:=own_slice ho
 exact ⟨a,c,rfl,ho,hb⟩
set_option maxHeartbeats 51200000 in
set_option maxRecDepth 100000 in
theorem traceOf_is (n:Nd) (t:ByteArray) (p:Pl) (r:Int) (A:Array Value) (w:World) (h:IsNd w n A) (he:n.e=0) (ht:t.size≤maxLen) :
 Calls Tryz.prog 32 #[.agg A,.string t,.agg #[.int .i64 p.x,.int .i64 p.y,.int .i64 p.z,.int .i64 p.h,.int .i64 p.s],.int .i64 r] w fun e w'=>∃ C,e=.returned (.tuple #[.agg C,.int .i64 (trE n t p r)])∧Res w' (trE n t p r) (trN n t p r) C∧Below w.heap.size w w':=by
 have hp:=Nd.parts (Nd.e_zero he).1
 have hok:=h.ok
 have hfi:Wh.Fine n.wh:=Wh.fine_chk hp.wh hok.wh
 have HN0:Hid (IsNd w n A):=h
 obtain ⟨vm,vr,vs,vg,vw,hA,hi⟩:=h
 obtain ⟨t0a,t1a,p2a,k2a,c2a,p3a,k3a,c3a,p4a,k4a,c4a,p5a,k5a,c5a,i6a,i7a,i8a,i9a,i10a,p11a,k11a,c11a,rfl⟩:=HN0.out.letters
 simp only [ndV,ndA,Array.mk.injEq,List.cons.injEq,and_true] at hA
 obtain ⟨e0,e1,e2,e3,e4,e5,e6,e7,e8,e9,e10,e11⟩:=hA
 subst e2 e3 e4 e5 e11
 injection e0 with e0
 injection e1 with e1
 injection e6 with _ e6
 injection e7 with _ e7
 injection e8 with _ e8
 injection e9 with _ e9
 injection e10 with _ e10
 simp only [ndV] at HN0 ⊢
 have HLA:Hid (∀ W,Calls Tryz.prog 13 #[.string t] W fun e w'=>e=.returned (.bool (labB t))∧w'=W):=fun W=>isLabel_any t W ht
 have HBW:Hid (∀ W,Calls Tryz.prog 43 #[.int .i64 r,.int .i64 1,.int .i64 5000000] W fun e w'=>e=.returned (.bool (betw r 1 5000000))∧w'=W):=fun W=>between_any' r 1 5000000 W
 have HCP:Hid (∀ W,Calls Tryz.prog 50 #[.agg #[.int .i64 p.x,.int .i64 p.y,.int .i64 p.z,.int .i64 p.h,.int .i64 p.s]] W fun e w'=>e=.returned (.int .i64 (chkP p))∧Below W.heap.size W w'):=fun W=>(checkPlace_any p W).mono (by rintro e w' ⟨rfl,rfl⟩;exact ⟨rfl,(Below.refl _ _).alloc (Nat.le_refl _) _⟩)
 have HMV:Hid (chkP p=0→betw r 1 5000000=true→∀ W,Calls Tryz.prog 82 #[.agg #[.int .i64 i6a,.int .i64 i7a,.int .i64 i8a,.int .i64 i9a,.int .i64 i10a],.agg #[.int .i64 p.x,.int .i64 p.y,.int .i64 p.z,.int .i64 p.h,.int .i64 p.s],.int .i64 r] W fun e w'=>e=.returned (.agg #[.int .i64 (moveP n.p p r).x,.int .i64 (moveP n.p p r).y,.int .i64 (moveP n.p p r).z,.int .i64 (moveP n.p p r).h,.int .i64 (moveP n.p p r).s])∧Below W.heap.size W w'):=fun h1 h2 W=>by
  obtain ⟨r0,r1⟩:=betw_true h2
  rw [e6,e7,e8,e9,e10]
  exact moveOf_any n.p p r W ((okP_iff _).1 hp.p) ((okP_iff _).1 h1) r0 r1
 have HPW:Hid (∀ W,Below w.heap.size w W→Calls Tryz.prog 73 #[.slice p11a k11a c11a,.agg #[.string t,.int .i64 p.x,.int .i64 p.y,.int .i64 p.z,.int .i64 p.h,.int .i64 p.s]] W fun e w'=>∃ a c,e=.returned (.slice a (Wh.hearL n.wh (trW t p)).length c)∧Wh.Own (W.heap.size+1) w' (.slice a (Wh.hearL n.wh (trW t p)).length c) (Wh.hearL n.wh (trW t p))∧Below W.heap.size W w'):=fun W hW=>
  putWhere_is n.wh _ (trW t p) W (hi.wh.below hW) hfi.len hfi.rise
 have HFI:Hid (∀ W va vc,Below w.heap.size w W→Wh.Sl W (.slice va (Wh.hearL n.wh (trW t p)).length vc) (Wh.hearL n.wh (trW t p))→IsNd W (trN n t p r) #[.string t0a,.string t1a,.slice p2a k2a c2a,.slice p3a k3a c3a,.slice p4a k4a c4a,.slice p5a k5a c5a,.int .i64 (moveP n.p p r).x,.int .i64 (moveP n.p p r).y,.int .i64 (moveP n.p p r).z,.int .i64 (moveP n.p p r).h,.int .i64 (moveP n.p p r).s,.slice va (Wh.hearL n.wh (trW t p)).length vc]):=fun W va vc hW h1=>by
  have hI:=hi.below hW
  refine ⟨.slice p2a k2a c2a,.slice p3a k3a c3a,.slice p4a k4a c4a,.slice p5a k5a c5a,.slice va (Wh.hearL n.wh (trW t p)).length vc,?_,?_⟩
  ·simp only [ndA,trN,e0,e1]
  ·exact ⟨hI.ms,hI.rs,hI.sv,hI.gw,h1,hI.name,hI.centre⟩
 have HOK:Hid (∀ j,((Wh.hearL n.wh (trW t p)).getD j Wh.dm).ok):=Wh.ns_get (Wh.ns_hear hfi.ok ht)
 have HE:Hid (trE n t p r=if labB t=true then (if chkP p=0 then (if t=t0a then 6 else if betw r 1 5000000=true then (if 20 < (Wh.hearL n.wh (trW t p)).length then 2 else 0) else 3) else 3) else 1):=by rw [e0];rfl
 have HCO:=chkP_or p
 generalize trE n t p r=SE at *
 generalize trN n t p r=SN at *
 generalize Wh.hearL n.wh (trW t p)=HL at *
 generalize hmp:moveP n.p p r=MP at *
 clear hmp hp hok hfi hi he e0 e1 e6 e7 e8 e9 e10
 generalize chkP p=cp at *
 generalize betw r 1 5000000=bt at *
 obtain ⟨px,py,pz,ph,ps⟩:=p
 obtain ⟨mx,my,mz,mh,ms_⟩:=MP
 generalize hvk:HL.length=vk at *
 simp only at HCP HMV HPW HFI
 obtain ⟨W0,hW0⟩:∃ W0,W0=((w.alloc (.cells #[.string t0a,.string t1a,.slice p2a k2a c2a,.slice p3a k3a c3a,.slice p4a k4a c4a,.slice p5a k5a c5a,.int .i64 i6a,.int .i64 i7a,.int .i64 i8a,.int .i64 i9a,.int .i64 i10a,.slice p11a k11a c11a] 30)).alloc (.cells #[.int .i64 px,.int .i64 py,.int .i64 pz,.int .i64 ph,.int .i64 ps] 27)).alloc (.cells #[.string ⟨#[]⟩,.string ⟨#[]⟩,.slice none 0 0,.slice none 0 0,.slice none 0 0,.slice none 0 0,.int .i64 0,.int .i64 0,.int .i64 0,.int .i64 0,.int .i64 0,.slice none 0 0] 30):=⟨_,rfl⟩
 have HW0:Hid (Below w.heap.size w W0∧W0.heap[w.heap.size]?=some (.cells #[.string t0a,.string t1a,.slice p2a k2a c2a,.slice p3a k3a c3a,.slice p4a k4a c4a,.slice p5a k5a c5a,.int .i64 i6a,.int .i64 i7a,.int .i64 i8a,.int .i64 i9a,.int .i64 i10a,.slice p11a k11a c11a] 30 (0,0))∧W0.heap[w.heap.size+1]?=some (.cells #[.int .i64 px,.int .i64 py,.int .i64 pz,.int .i64 ph,.int .i64 ps] 27 (0,0))∧W0.heap[w.heap.size+1+1]?=some (.cells #[.string ⟨#[]⟩,.string ⟨#[]⟩,.slice none 0 0,.slice none 0 0,.slice none 0 0,.slice none 0 0,.int .i64 0,.int .i64 0,.int .i64 0,.int .i64 0,.int .i64 0,.slice none 0 0] 30 (0,0))∧w.heap.size+1+1 < W0.heap.size):=by
  refine ⟨?_,?_,?_,?_,?_⟩
  ·rw [hW0];exact (((Below.refl _ _).alloc (Nat.le_refl _) _).alloc (by simp) _).alloc (by simp<;>omega) _
  ·rw [hW0,Below.heap_alloc _ _ _ (by simp<;>omega),Below.heap_alloc _ _ _ (by simp)];exact heap_alloc_new w _
  ·have h:=heap_alloc_new (w.alloc (.cells #[.string t0a,.string t1a,.slice p2a k2a c2a,.slice p3a k3a c3a,.slice p4a k4a c4a,.slice p5a k5a c5a,.int .i64 i6a,.int .i64 i7a,.int .i64 i8a,.int .i64 i9a,.int .i64 i10a,.slice p11a k11a c11a] 30)) (.cells #[.int .i64 px,.int .i64 py,.int .i64 pz,.int .i64 ph,.int .i64 ps] 27)
   rw [hW0,Below.heap_alloc _ _ _ (by simp)];simpa using h
  ·have h:=heap_alloc_new ((w.alloc (.cells #[.string t0a,.string t1a,.slice p2a k2a c2a,.slice p3a k3a c3a,.slice p4a k4a c4a,.slice p5a k5a c5a,.int .i64 i6a,.int .i64 i7a,.int .i64 i8a,.int .i64 i9a,.int .i64 i10a,.slice p11a k11a c11a] 30)).alloc (.cells #[.int .i64 px,.int .i64 py,.int .i64 pz,.int .i64 ph,.int .i64 ps] 27)) (.cells #[.string ⟨#[]⟩,.string ⟨#[]⟩,.slice none 0 0,.slice none 0 0,.slice none 0 0,.slice none 0 0,.int .i64 0,.int .i64 0,.int .i64 0,.int .i64 0,.int .i64 0,.slice none 0 0] 30)
   rw [hW0];simpa using h
  ·rw [hW0];simp
 obtain ⟨hb0,hg0,hp0,hz0,hs0⟩:=HW0.out
 obtain ⟨z0,z1,z2,z3,z4,z5,z6,z7,z8,z9,z10,z11⟩:=cells12 hz0
 obtain ⟨zz0,zz1,zz2,zz3,zz4,zz5,zz6,zz7,zz8,zz9,zz10,zz11⟩:=frz12 hz0
 obtain ⟨c0,c1,c2,c3,c4⟩:=cells5 hp0
 clear hb0 hg0 hp0 hz0
 go_enter Tryz.func32,Tryz.ntmps32
 go_upto_region 1 with fail
 rw [← hW0]
 clear hW0
 rcases hlab:labB t with _ | _
 ·have HSE:Hid (SE=1):=HE.out.trans (by rw [hlab];rfl)
  rw [hlab] at HLA
  clear HE
  obtain ⟨WF,hWF⟩:∃ WF,WF=((((((((((((W0.setCell ⟨w.heap.size+1+1,0,none⟩ (.string ⟨#[]⟩)).setCell ⟨w.heap.size+1+1,1,none⟩ (.string ⟨#[]⟩)).setCell ⟨w.heap.size+1+1,2,none⟩ (.slice none 0 0)).setCell ⟨w.heap.size+1+1,3,none⟩ (.slice none 0 0)).setCell ⟨w.heap.size+1+1,4,none⟩ (.slice none 0 0)).setCell ⟨w.heap.size+1+1,5,none⟩ (.slice none 0 0)).setCell ⟨w.heap.size+1+1,6,none⟩ (.int .i64 0)).setCell ⟨w.heap.size+1+1,7,none⟩ (.int .i64 0)).setCell ⟨w.heap.size+1+1,8,none⟩ (.int .i64 0)).setCell ⟨w.heap.size+1+1,9,none⟩ (.int .i64 0)).setCell ⟨w.heap.size+1+1,10,none⟩ (.int .i64 0)).setCell ⟨w.heap.size+1+1,11,none⟩ (.slice none 0 0)):=⟨_,rfl⟩
  have hF:WF=setAll (w.heap.size+1+1) [.string ⟨#[]⟩,.string ⟨#[]⟩,.slice none 0 0,.slice none 0 0,.slice none 0 0,.slice none 0 0,.int .i64 0,.int .i64 0,.int .i64 0,.int .i64 0,.int .i64 0,.slice none 0 0] 0 W0:=by rw [hWF];simp only [setAll,Nat.zero_add,Nat.reduceAdd]
  have hzF:WF.heap[w.heap.size+1+1]?=some (.cells #[.string ⟨#[]⟩,.string ⟨#[]⟩,.slice none 0 0,.slice none 0 0,.slice none 0 0,.slice none 0 0,.int .i64 0,.int .i64 0,.int .i64 0,.int .i64 0,.int .i64 0,.slice none 0 0] 30 (0,0)):=by rw [hF];exact setAll12 HW0.out.2.2.2.1 _ _ _ _ _ _ _ _ _ _ _ _
  have HBF:Hid (Below w.heap.size w WF):=by rw [hF];exact setAll_below (by omega) _ _ HW0.out.1
  clear hF
  go_wp2_with (first | (go_at_call 13;refine (HLA.out _).mono ?_;rintro e w' ⟨rfl,hww⟩;have hwq:=hww.symm;subst hwq) | fail)
  rw [← hWF]
  clear hWF z0 zz0 z1 zz1 z2 zz2 z3 zz3 z4 zz4 z5 zz5 z6 zz6 z7 zz7 z8 zz8 z9 zz9 z10 zz10 z11 zz11
  obtain ⟨z0,z1,z2,z3,z4,z5,z6,z7,z8,z9,z10,z11⟩:=cells12 hzF
  refine bodyPost_ret (v:=.tuple #[.agg #[.string ⟨#[]⟩,.string ⟨#[]⟩,.slice none 0 0,.slice none 0 0,.slice none 0 0,.slice none 0 0,.int .i64 0,.int .i64 0,.int .i64 0,.int .i64 0,.int .i64 0,.slice none 0 0],.int .i64 1]) ?_ rfl ?_
  ·simp [results,Tryz.results32,go_sem,z0,z1,z2,z3,z4,z5,z6,z7,z8,z9,z10,z11]
  ·exact ⟨_,(by rw [HSE.out];rfl),.inl ⟨(by rw [HSE.out];decide),rfl⟩,HBF.out⟩
 have HE2:Hid (SE=if cp=0 then (if t=t0a then 6 else if bt=true then (if 20 < vk then 2 else 0) else 3) else 3):=HE.out.trans (by rw [hlab];rfl)
 rw [hlab] at HLA
 clear HE z0 zz0 z1 zz1 z2 zz2 z3 zz3 z4 zz4 z5 zz5 z6 zz6 z7 zz7 z8 zz8 z9 zz9 z10 zz10 z11 zz11
 go_wp2_with (first | (go_at_call 13;refine (HLA.out _).mono ?_;rintro e w' ⟨rfl,hww⟩;have hwq:=hww.symm;subst hwq) | fail)
 refine (HCP.out W0).mono ?_
 rintro e w1 ⟨rfl,hb1⟩
 have HW1:Hid (Below w.heap.size w w1∧w1.heap[w.heap.size]?=some (.cells #[.string t0a,.string t1a,.slice p2a k2a c2a,.slice p3a k3a c3a,.slice p4a k4a c4a,.slice p5a k5a c5a,.int .i64 i6a,.int .i64 i7a,.int .i64 i8a,.int .i64 i9a,.int .i64 i10a,.slice p11a k11a c11a] 30 (0,0))∧w1.heap[w.heap.size+1]?=some (.cells #[.int .i64 px,.int .i64 py,.int .i64 pz,.int .i64 ph,.int .i64 ps] 27 (0,0))∧w1.heap[w.heap.size+1+1]?=some (.cells #[.string ⟨#[]⟩,.string ⟨#[]⟩,.slice none 0 0,.slice none 0 0,.slice none 0 0,.slice none 0 0,.int .i64 0,.int .i64 0,.int .i64 0,.int .i64 0,.int .i64 0,.slice none 0 0] 30 (0,0))∧w.heap.size+1+1 < w1.heap.size):=⟨HW0.out.1.trans (hb1.mono HW0.out.1.size),(hb1.block _ (by omega)).trans HW0.out.2.1,(hb1.block _ (by omega)).trans HW0.out.2.2.1,(hb1.block _ hs0).trans HW0.out.2.2.2.1,by have:=hb1.size;omega⟩
 clear hb1 c0 c1 c2 c3 c4 hs0 HW0
 obtain ⟨hbw,hg1,hp1,hz1,hs1⟩:=HW1.out
 obtain ⟨z0,z1,z2,z3,z4,z5,z6,z7,z8,z9,z10,z11⟩:=cells12 hz1
 obtain ⟨zz0,zz1,zz2,zz3,zz4,zz5,zz6,zz7,zz8,zz9,zz10,zz11⟩:=frz12 hz1
 obtain ⟨c0,c1,c2,c3,c4⟩:=cells5 hp1
 obtain ⟨a0,a1,a2,a3,a4,a5,a6,a7,a8,a9,a10,a11⟩:=cells12 hg1
 clear hbw hg1 hp1 hz1
 rcases HCO with hcp | hcp
 rotate_left
 ·have HSE:Hid (SE=3):=HE2.out.trans (by rw [hcp];rfl)
  rw [hcp]
  clear HE2 hcp a0 a1 a2 a3 a4 a5 a6 a7 a8 a9 a10 a11 c0 c1 c2 c3 c4
  obtain ⟨WF,hWF⟩:∃ WF,WF=((((((((((((w1.setCell ⟨w.heap.size+1+1,0,none⟩ (.string ⟨#[]⟩)).setCell ⟨w.heap.size+1+1,1,none⟩ (.string ⟨#[]⟩)).setCell ⟨w.heap.size+1+1,2,none⟩ (.slice none 0 0)).setCell ⟨w.heap.size+1+1,3,none⟩ (.slice none 0 0)).setCell ⟨w.heap.size+1+1,4,none⟩ (.slice none 0 0)).setCell ⟨w.heap.size+1+1,5,none⟩ (.slice none 0 0)).setCell ⟨w.heap.size+1+1,6,none⟩ (.int .i64 0)).setCell ⟨w.heap.size+1+1,7,none⟩ (.int .i64 0)).setCell ⟨w.heap.size+1+1,8,none⟩ (.int .i64 0)).setCell ⟨w.heap.size+1+1,9,none⟩ (.int .i64 0)).setCell ⟨w.heap.size+1+1,10,none⟩ (.int .i64 0)).setCell ⟨w.heap.size+1+1,11,none⟩ (.slice none 0 0)):=⟨_,rfl⟩
  have hF:WF=setAll (w.heap.size+1+1) [.string ⟨#[]⟩,.string ⟨#[]⟩,.slice none 0 0,.slice none 0 0,.slice none 0 0,.slice none 0 0,.int .i64 0,.int .i64 0,.int .i64 0,.int .i64 0,.int .i64 0,.slice none 0 0] 0 w1:=by rw [hWF];simp only [setAll,Nat.zero_add,Nat.reduceAdd]
  have hzF:WF.heap[w.heap.size+1+1]?=some (.cells #[.string ⟨#[]⟩,.string ⟨#[]⟩,.slice none 0 0,.slice none 0 0,.slice none 0 0,.slice none 0 0,.int .i64 0,.int .i64 0,.int .i64 0,.int .i64 0,.int .i64 0,.slice none 0 0] 30 (0,0)):=by rw [hF];exact setAll12 HW1.out.2.2.2.1 _ _ _ _ _ _ _ _ _ _ _ _
  have HBF:Hid (Below w.heap.size w WF):=by rw [hF];exact setAll_below (by omega) _ _ HW1.out.1
  clear hF
  go_wp2_with fail
  rw [← hWF]
  clear hWF z0 zz0 z1 zz1 z2 zz2 z3 zz3 z4 zz4 z5 zz5 z6 zz6 z7 zz7 z8 zz8 z9 zz9 z10 zz10 z11 zz11
  obtain ⟨z0,z1,z2,z3,z4,z5,z6,z7,z8,z9,z10,z11⟩:=cells12 hzF
  refine bodyPost_ret (v:=.tuple #[.agg #[.string ⟨#[]⟩,.string ⟨#[]⟩,.slice none 0 0,.slice none 0 0,.slice none 0 0,.slice none 0 0,.int .i64 0,.int .i64 0,.int .i64 0,.int .i64 0,.int .i64 0,.slice none 0 0],.int .i64 3]) ?_ rfl ?_
  ·simp [results,Tryz.results32,go_sem,z0,z1,z2,z3,z4,z5,z6,z7,z8,z9,z10,z11]
  ·exact ⟨_,(by rw [HSE.out];rfl),.inl ⟨(by rw [HSE.out];decide),rfl⟩,HBF.out⟩
 have HE3:Hid (SE=if t=t0a then 6 else if bt=true then (if 20 < vk then 2 else 0) else 3):=HE2.out.trans (by rw [hcp];rfl)
 have HMV2:Hid (bt=true→_):=HMV.out hcp
 rw [hcp]
 clear HE2 hcp HMV HCP HLA
 by_cases hnm:t=t0a
 ·have HSE:Hid (SE=6):=HE3.out.trans (if_pos hnm)
  have hq:(t.toList == t0a.toList)=true:=by rw [hnm];simp
  have hq2:t.toList=t0a.toList:=by rw [hnm]
  clear HE3 hnm c0 c1 c2 c3 c4
  obtain ⟨WF,hWF⟩:∃ WF,WF=((((((((((((w1.setCell ⟨w.heap.size+1+1,0,none⟩ (.string ⟨#[]⟩)).setCell ⟨w.heap.size+1+1,1,none⟩ (.string ⟨#[]⟩)).setCell ⟨w.heap.size+1+1,2,none⟩ (.slice none 0 0)).setCell ⟨w.heap.size+1+1,3,none⟩ (.slice none 0 0)).setCell ⟨w.heap.size+1+1,4,none⟩ (.slice none 0 0)).setCell ⟨w.heap.size+1+1,5,none⟩ (.slice none 0 0)).setCell ⟨w.heap.size+1+1,6,none⟩ (.int .i64 0)).setCell ⟨w.heap.size+1+1,7,none⟩ (.int .i64 0)).setCell ⟨w.heap.size+1+1,8,none⟩ (.int .i64 0)).setCell ⟨w.heap.size+1+1,9,none⟩ (.int .i64 0)).setCell ⟨w.heap.size+1+1,10,none⟩ (.int .i64 0)).setCell ⟨w.heap.size+1+1,11,none⟩ (.slice none 0 0)):=⟨_,rfl⟩
  have hF:WF=setAll (w.heap.size+1+1) [.string ⟨#[]⟩,.string ⟨#[]⟩,.slice none 0 0,.slice none 0 0,.slice none 0 0,.slice none 0 0,.int .i64 0,.int .i64 0,.int .i64 0,.int .i64 0,.int .i64 0,.slice none 0 0] 0 w1:=by rw [hWF];simp only [setAll,Nat.zero_add,Nat.reduceAdd]
  have hzF:WF.heap[w.heap.size+1+1]?=some (.cells #[.string ⟨#[]⟩,.string ⟨#[]⟩,.slice none 0 0,.slice none 0 0,.slice none 0 0,.slice none 0 0,.int .i64 0,.int .i64 0,.int .i64 0,.int .i64 0,.int .i64 0,.slice none 0 0] 30 (0,0)):=by rw [hF];exact setAll12 HW1.out.2.2.2.1 _ _ _ _ _ _ _ _ _ _ _ _
  have HBF:Hid (Below w.heap.size w WF):=by rw [hF];exact setAll_below (by omega) _ _ HW1.out.1
  clear hF
  go_wp2_with fail
  rw [← hWF]
  clear hWF z0 zz0 z1 zz1 z2 zz2 z3 zz3 z4 zz4 z5 zz5 z6 zz6 z7 zz7 z8 zz8 z9 zz9 z10 zz10 z11 zz11
  obtain ⟨z0,z1,z2,z3,z4,z5,z6,z7,z8,z9,z10,z11⟩:=cells12 hzF
  refine bodyPost_ret (v:=.tuple #[.agg #[.string ⟨#[]⟩,.string ⟨#[]⟩,.slice none 0 0,.slice none 0 0,.slice none 0 0,.slice none 0 0,.int .i64 0,.int .i64 0,.int .i64 0,.int .i64 0,.int .i64 0,.slice none 0 0],.int .i64 6]) ?_ rfl ?_
  ·simp [results,Tryz.results32,go_sem,z0,z1,z2,z3,z4,z5,z6,z7,z8,z9,z10,z11]
  ·exact ⟨_,(by rw [HSE.out];rfl),.inl ⟨(by rw [HSE.out];decide),rfl⟩,HBF.out⟩
 have hq:(t.toList == t0a.toList)=false:=by rw [beq_names,decide_eq_false hnm]
 have HE4:Hid (SE=if bt=true then (if 20 < vk then 2 else 0) else 3):=HE3.out.trans (if_neg hnm)
 clear HE3 hnm
 cases bt
 ·have HSE:Hid (SE=3):=HE4.out.trans (by rfl)
  clear HE4 c0 c1 c2 c3 c4
  obtain ⟨WF,hWF⟩:∃ WF,WF=((((((((((((w1.setCell ⟨w.heap.size+1+1,0,none⟩ (.string ⟨#[]⟩)).setCell ⟨w.heap.size+1+1,1,none⟩ (.string ⟨#[]⟩)).setCell ⟨w.heap.size+1+1,2,none⟩ (.slice none 0 0)).setCell ⟨w.heap.size+1+1,3,none⟩ (.slice none 0 0)).setCell ⟨w.heap.size+1+1,4,none⟩ (.slice none 0 0)).setCell ⟨w.heap.size+1+1,5,none⟩ (.slice none 0 0)).setCell ⟨w.heap.size+1+1,6,none⟩ (.int .i64 0)).setCell ⟨w.heap.size+1+1,7,none⟩ (.int .i64 0)).setCell ⟨w.heap.size+1+1,8,none⟩ (.int .i64 0)).setCell ⟨w.heap.size+1+1,9,none⟩ (.int .i64 0)).setCell ⟨w.heap.size+1+1,10,none⟩ (.int .i64 0)).setCell ⟨w.heap.size+1+1,11,none⟩ (.slice none 0 0)):=⟨_,rfl⟩
  have hF:WF=setAll (w.heap.size+1+1) [.string ⟨#[]⟩,.string ⟨#[]⟩,.slice none 0 0,.slice none 0 0,.slice none 0 0,.slice none 0 0,.int .i64 0,.int .i64 0,.int .i64 0,.int .i64 0,.int .i64 0,.slice none 0 0] 0 w1:=by rw [hWF];simp only [setAll,Nat.zero_add,Nat.reduceAdd]
  have hzF:WF.heap[w.heap.size+1+1]?=some (.cells #[.string ⟨#[]⟩,.string ⟨#[]⟩,.slice none 0 0,.slice none 0 0,.slice none 0 0,.slice none 0 0,.int .i64 0,.int .i64 0,.int .i64 0,.int .i64 0,.int .i64 0,.slice none 0 0] 30 (0,0)):=by rw [hF];exact setAll12 HW1.out.2.2.2.1 _ _ _ _ _ _ _ _ _ _ _ _
  have HBF:Hid (Below w.heap.size w WF):=by rw [hF];exact setAll_below (by omega) _ _ HW1.out.1
  clear hF
  go_wp2_with (first | (go_at_call 43;refine (HBW.out _).mono ?_;rintro e w' ⟨rfl,hww⟩;have hwq:=hww.symm;subst hwq) | fail)
  rw [← hWF]
  clear hWF z0 zz0 z1 zz1 z2 zz2 z3 zz3 z4 zz4 z5 zz5 z6 zz6 z7 zz7 z8 zz8 z9 zz9 z10 zz10 z11 zz11
  obtain ⟨z0,z1,z2,z3,z4,z5,z6,z7,z8,z9,z10,z11⟩:=cells12 hzF
  refine bodyPost_ret (v:=.tuple #[.agg #[.string ⟨#[]⟩,.string ⟨#[]⟩,.slice none 0 0,.slice none 0 0,.slice none 0 0,.slice none 0 0,.int .i64 0,.int .i64 0,.int .i64 0,.int .i64 0,.int .i64 0,.slice none 0 0],.int .i64 3]) ?_ rfl ?_
  ·simp [results,Tryz.results32,go_sem,z0,z1,z2,z3,z4,z5,z6,z7,z8,z9,z10,z11]
  ·exact ⟨_,(by rw [HSE.out];rfl),.inl ⟨(by rw [HSE.out];decide),rfl⟩,HBF.out⟩
 have HE5:Hid (SE=if 20 < vk then 2 else 0):=HE4.out.trans (by rfl)
 have HMC:=HMV2.out rfl
 have HMH:Hid _:=HMC
 clear HMC HMV2 HE4
 go_wp2_with (first | (go_at_call 43;refine (HBW.out _).mono ?_;rintro e w' ⟨rfl,hww⟩;have hwq:=hww.symm;subst hwq) | fail)
 refine (HMH.out w1).mono ?_
 rintro e w3 ⟨rfl,hb3⟩
 have HW3:Hid (Below w.heap.size w w3∧w3.heap[w.heap.size]?=some (.cells #[.string t0a,.string t1a,.slice p2a k2a c2a,.slice p3a k3a c3a,.slice p4a k4a c4a,.slice p5a k5a c5a,.int .i64 i6a,.int .i64 i7a,.int .i64 i8a,.int .i64 i9a,.int .i64 i10a,.slice p11a k11a c11a] 30 (0,0))∧w3.heap[w.heap.size+1]?=some (.cells #[.int .i64 px,.int .i64 py,.int .i64 pz,.int .i64 ph,.int .i64 ps] 27 (0,0))∧w3.heap[w.heap.size+1+1]?=some (.cells #[.string ⟨#[]⟩,.string ⟨#[]⟩,.slice none 0 0,.slice none 0 0,.slice none 0 0,.slice none 0 0,.int .i64 0,.int .i64 0,.int .i64 0,.int .i64 0,.int .i64 0,.slice none 0 0] 30 (0,0))∧w.heap.size+1+1 < w3.heap.size):=⟨HW1.out.1.trans (hb3.mono HW1.out.1.size),(hb3.block _ (by omega)).trans HW1.out.2.1,(hb3.block _ (by omega)).trans HW1.out.2.2.1,(hb3.block _ hs1).trans HW1.out.2.2.2.1,by have:=hb3.size;omega⟩
 clear hb3 hs1 HW1 c0 c1 c2 c3 c4 a0 a1 a2 a3 a4 a5 a6 a7 a8 a9 a10 a11 z0 zz0 z1 zz1 z2 zz2 z3 zz3 z4 zz4 z5 zz5 z6 zz6 z7 zz7 z8 zz8 z9 zz9 z10 zz10 z11 zz11 hq HBW HMH
 obtain ⟨W4,hW4⟩:∃ W4,W4=(((((w3.setCell ⟨w.heap.size,6,none⟩ (.int .i64 mx)).setCell ⟨w.heap.size,7,none⟩ (.int .i64 my)).setCell ⟨w.heap.size,8,none⟩ (.int .i64 mz)).setCell ⟨w.heap.size,9,none⟩ (.int .i64 mh)).setCell ⟨w.heap.size,10,none⟩ (.int .i64 ms_)):=⟨_,rfl⟩
 have HW4:Hid (Below w.heap.size w W4∧W4.heap[w.heap.size]?=some (.cells #[.string t0a,.string t1a,.slice p2a k2a c2a,.slice p3a k3a c3a,.slice p4a k4a c4a,.slice p5a k5a c5a,.int .i64 mx,.int .i64 my,.int .i64 mz,.int .i64 mh,.int .i64 ms_,.slice p11a k11a c11a] 30 (0,0))∧W4.heap[w.heap.size+1]?=some (.cells #[.int .i64 px,.int .i64 py,.int .i64 pz,.int .i64 ph,.int .i64 ps] 27 (0,0))∧W4.heap[w.heap.size+1+1]?=some (.cells #[.string ⟨#[]⟩,.string ⟨#[]⟩,.slice none 0 0,.slice none 0 0,.slice none 0 0,.slice none 0 0,.int .i64 0,.int .i64 0,.int .i64 0,.int .i64 0,.int .i64 0,.slice none 0 0] 30 (0,0))∧w.heap.size+1+1 < W4.heap.size):=by
  obtain ⟨h1,h2,h3,h4,h5⟩:=HW3.out
  have hne:∀ k,k≠w.heap.size→W4.heap[k]?=w3.heap[k]?:=fun k hk=>by
   rw [hW4]
   have e5:∀ (W:World) (j:Nat) (v:Value),(W.setCell ⟨w.heap.size,j,none⟩ v).heap[k]?=W.heap[k]?:=fun W j v=>Below.heap_setCell _ _ _ _ (by simp only;omega)
   rw [e5,e5,e5,e5,e5]
  refine ⟨?_,?_,(hne _ (by omega)).trans h3,(hne _ (by omega)).trans h4,?_⟩
  ·rw [hW4]
   exact ((((h1.setCell (p:=⟨w.heap.size,6,none⟩) (Nat.le_refl _) _).setCell (p:=⟨w.heap.size,7,none⟩) (Nat.le_refl _) _).setCell (p:=⟨w.heap.size,8,none⟩) (Nat.le_refl _) _).setCell (p:=⟨w.heap.size,9,none⟩) (Nat.le_refl _) _).setCell (p:=⟨w.heap.size,10,none⟩) (Nat.le_refl _) _
  ·rw [hW4]
   exact Joins.block_setCell (i:=10) (Joins.block_setCell (i:=9) (Joins.block_setCell (i:=8) (Joins.block_setCell (i:=7) (Joins.block_setCell (i:=6) h2 _) _) _) _) _
  ·have h:=(hne _ (by omega)).trans h4
   exact (Array.getElem?_eq_some_iff.1 h).1
 obtain ⟨hb3,hg3,hp3,hz3,hs3⟩:=HW3.out
 obtain ⟨a0,a1,a2,a3,a4,a5,a6,a7,a8,a9,a10,a11⟩:=cells12 hg3
 obtain ⟨az0,az1,az2,az3,az4,az5,az6,az7,az8,az9,az10,az11⟩:=frz12 hg3
 obtain ⟨c0,c1,c2,c3,c4⟩:=cells5 hp3
 clear hb3 hg3 hp3 hz3
 go_upto_region 10 with fail
 rw [← hW4]
 clear hW4 a0 az0 a1 az1 a2 az2 a3 az3 a4 az4 a5 az5 a6 az6 a7 az7 a8 az8 a9 az9 a10 az10 a11 az11 c0 c1 c2 c3 c4 hs3 HW3
 obtain ⟨hb4,hg4,hp4,hz4,hs4⟩:=HW4.out
 obtain ⟨a0,a1,a2,a3,a4,a5,a6,a7,a8,a9,a10,a11⟩:=cells12 hg4
 obtain ⟨c0,c1,c2,c3,c4⟩:=cells5 hp4
 clear hb4 hg4 hp4 hz4
 go_wp2_with fail
 refine (HPW.out W4 HW4.out.1).mono ?_
 rintro e w5 ⟨va,vc,rfl,ho5,hb5⟩
 have HO5:Hid (Wh.Own (w.heap.size+3) w5 (.slice va vk vc) HL):=Wh.Own.mono ho5 (by omega)
 have HW5:Hid (Below w.heap.size w w5∧w5.heap[w.heap.size]?=some (.cells #[.string t0a,.string t1a,.slice p2a k2a c2a,.slice p3a k3a c3a,.slice p4a k4a c4a,.slice p5a k5a c5a,.int .i64 mx,.int .i64 my,.int .i64 mz,.int .i64 mh,.int .i64 ms_,.slice p11a k11a c11a] 30 (0,0))∧w5.heap[w.heap.size+1]?=some (.cells #[.int .i64 px,.int .i64 py,.int .i64 pz,.int .i64 ph,.int .i64 ps] 27 (0,0))∧w5.heap[w.heap.size+1+1]?=some (.cells #[.string ⟨#[]⟩,.string ⟨#[]⟩,.slice none 0 0,.slice none 0 0,.slice none 0 0,.slice none 0 0,.int .i64 0,.int .i64 0,.int .i64 0,.int .i64 0,.int .i64 0,.slice none 0 0] 30 (0,0))∧w.heap.size+1+1 < w5.heap.size):=⟨HW4.out.1.trans (hb5.mono HW4.out.1.size),(hb5.block _ (by omega)).trans HW4.out.2.1,(hb5.block _ (by omega)).trans HW4.out.2.2.1,(hb5.block _ hs4).trans HW4.out.2.2.2.1,by have:=hb5.size;omega⟩
 clear hb5 hs4 HW4 c0 c1 c2 c3 c4 a0 a1 a2 a3 a4 a5 a6 a7 a8 a9 a10 a11 ho5 HPW
 obtain ⟨W6,hW6⟩:∃ W6,W6=w5.setCell ⟨w.heap.size,11,none⟩ (.slice va vk vc):=⟨_,rfl⟩
 have HW6:Hid (Below w.heap.size w W6∧W6.heap[w.heap.size]?=some (.cells #[.string t0a,.string t1a,.slice p2a k2a c2a,.slice p3a k3a c3a,.slice p4a k4a c4a,.slice p5a k5a c5a,.int .i64 mx,.int .i64 my,.int .i64 mz,.int .i64 mh,.int .i64 ms_,.slice va vk vc] 30 (0,0))∧W6.heap[w.heap.size+1]?=some (.cells #[.int .i64 px,.int .i64 py,.int .i64 pz,.int .i64 ph,.int .i64 ps] 27 (0,0))∧W6.heap[w.heap.size+1+1]?=some (.cells #[.string ⟨#[]⟩,.string ⟨#[]⟩,.slice none 0 0,.slice none 0 0,.slice none 0 0,.slice none 0 0,.int .i64 0,.int .i64 0,.int .i64 0,.int .i64 0,.int .i64 0,.slice none 0 0] 30 (0,0))∧w.heap.size+1+1 < W6.heap.size):=by
  obtain ⟨h1,h2,h3,h4,h5⟩:=HW5.out
  have hne:∀ k,k≠w.heap.size→W6.heap[k]?=w5.heap[k]?:=fun k hk=>by
   rw [hW6]
   exact Below.heap_setCell _ _ _ k (by simp only;omega)
  refine ⟨?_,?_,(hne _ (by omega)).trans h3,(hne _ (by omega)).trans h4,?_⟩
  ·rw [hW6];exact h1.setCell (p:=⟨w.heap.size,11,none⟩) (Nat.le_refl _) _
  ·rw [hW6];exact Joins.block_setCell (i:=11) h2 _
  ·have h:=(hne _ (by omega)).trans h4
   exact (Array.getElem?_eq_some_iff.1 h).1
 have HO6:Hid (Wh.Own (w.heap.size+3) W6 (.slice va vk vc) HL):=by rw [hW6];exact ownsRow_setCell_below HO5.out (by simp only;omega) _
 obtain ⟨hb5,hg5,hp5,hz5,hs5⟩:=HW5.out
 obtain ⟨a0,a1,a2,a3,a4,a5,a6,a7,a8,a9,a10,a11⟩:=cells12 hg5
 obtain ⟨az0,az1,az2,az3,az4,az5,az6,az7,az8,az9,az10,az11⟩:=frz12 hg5
 clear hb5 hg5 hp5 hz5
 go_upto_region 11 with fail
 rw [← hW6]
 clear hW6 a0 az0 a1 az1 a2 az2 a3 az3 a4 az4 a5 az5 a6 az6 a7 az7 a8 az8 a9 az9 a10 az10 a11 az11 hs5 HW5 HO5
 obtain ⟨hb6,hg6,hp6,hz6,hs6⟩:=HW6.out
 obtain ⟨a0,a1,a2,a3,a4,a5,a6,a7,a8,a9,a10,a11⟩:=cells12 hg6
 obtain ⟨z0,z1,z2,z3,z4,z5,z6,z7,z8,z9,z10,z11⟩:=cells12 hz6
 obtain ⟨zz0,zz1,zz2,zz3,zz4,zz5,zz6,zz7,zz8,zz9,zz10,zz11⟩:=frz12 hz6
 clear hb6 hg6 hp6 hz6
 by_cases hk20:20 < vk
 ·have HSE:Hid (SE=2):=HE5.out.trans (if_pos hk20)
  have hki:(20:Int) < (vk:Int):=by omega
  clear hk20 HE5
  obtain ⟨WF,hWF⟩:∃ WF,WF=((((((((((((W6.setCell ⟨w.heap.size+1+1,0,none⟩ (.string ⟨#[]⟩)).setCell ⟨w.heap.size+1+1,1,none⟩ (.string ⟨#[]⟩)).setCell ⟨w.heap.size+1+1,2,none⟩ (.slice none 0 0)).setCell ⟨w.heap.size+1+1,3,none⟩ (.slice none 0 0)).setCell ⟨w.heap.size+1+1,4,none⟩ (.slice none 0 0)).setCell ⟨w.heap.size+1+1,5,none⟩ (.slice none 0 0)).setCell ⟨w.heap.size+1+1,6,none⟩ (.int .i64 0)).setCell ⟨w.heap.size+1+1,7,none⟩ (.int .i64 0)).setCell ⟨w.heap.size+1+1,8,none⟩ (.int .i64 0)).setCell ⟨w.heap.size+1+1,9,none⟩ (.int .i64 0)).setCell ⟨w.heap.size+1+1,10,none⟩ (.int .i64 0)).setCell ⟨w.heap.size+1+1,11,none⟩ (.slice none 0 0)):=⟨_,rfl⟩
  have hF:WF=setAll (w.heap.size+1+1) [.string ⟨#[]⟩,.string ⟨#[]⟩,.slice none 0 0,.slice none 0 0,.slice none 0 0,.slice none 0 0,.int .i64 0,.int .i64 0,.int .i64 0,.int .i64 0,.int .i64 0,.slice none 0 0] 0 W6:=by rw [hWF];simp only [setAll,Nat.zero_add,Nat.reduceAdd]
  have hzF:WF.heap[w.heap.size+1+1]?=some (.cells #[.string ⟨#[]⟩,.string ⟨#[]⟩,.slice none 0 0,.slice none 0 0,.slice none 0 0,.slice none 0 0,.int .i64 0,.int .i64 0,.int .i64 0,.int .i64 0,.int .i64 0,.slice none 0 0] 30 (0,0)):=by rw [hF];exact setAll12 HW6.out.2.2.2.1 _ _ _ _ _ _ _ _ _ _ _ _
  have HBF:Hid (Below w.heap.size w WF):=by rw [hF];exact setAll_below (by omega) _ _ HW6.out.1
  clear hF
  go_wp2_with fail
  rw [← hWF]
  clear hWF z0 zz0 z1 zz1 z2 zz2 z3 zz3 z4 zz4 z5 zz5 z6 zz6 z7 zz7 z8 zz8 z9 zz9 z10 zz10 z11 zz11
  obtain ⟨z0,z1,z2,z3,z4,z5,z6,z7,z8,z9,z10,z11⟩:=cells12 hzF
  refine bodyPost_ret (v:=.tuple #[.agg #[.string ⟨#[]⟩,.string ⟨#[]⟩,.slice none 0 0,.slice none 0 0,.slice none 0 0,.slice none 0 0,.int .i64 0,.int .i64 0,.int .i64 0,.int .i64 0,.int .i64 0,.slice none 0 0],.int .i64 2]) ?_ rfl ?_
  ·simp [results,Tryz.results32,go_sem,z0,z1,z2,z3,z4,z5,z6,z7,z8,z9,z10,z11]
  ·exact ⟨_,(by rw [HSE.out];rfl),.inl ⟨(by rw [HSE.out];decide),rfl⟩,HBF.out⟩
 have HSE:Hid (SE=0):=HE5.out.trans (if_neg hk20)
 have hki:¬ (20:Int) < (vk:Int):=by omega
 clear hk20 HE5
 obtain ⟨W7,hW7⟩:∃ W7,W7=((((((((((((W6.setCell ⟨w.heap.size+1+1,0,none⟩ (.string t0a)).setCell ⟨w.heap.size+1+1,1,none⟩ (.string t1a)).setCell ⟨w.heap.size+1+1,2,none⟩ (.slice p2a k2a c2a)).setCell ⟨w.heap.size+1+1,3,none⟩ (.slice p3a k3a c3a)).setCell ⟨w.heap.size+1+1,4,none⟩ (.slice p4a k4a c4a)).setCell ⟨w.heap.size+1+1,5,none⟩ (.slice p5a k5a c5a)).setCell ⟨w.heap.size+1+1,6,none⟩ (.int .i64 mx)).setCell ⟨w.heap.size+1+1,7,none⟩ (.int .i64 my)).setCell ⟨w.heap.size+1+1,8,none⟩ (.int .i64 mz)).setCell ⟨w.heap.size+1+1,9,none⟩ (.int .i64 mh)).setCell ⟨w.heap.size+1+1,10,none⟩ (.int .i64 ms_)).setCell ⟨w.heap.size+1+1,11,none⟩ (.slice va vk vc)):=⟨_,rfl⟩
 have hF7:W7=setAll (w.heap.size+1+1) [.string t0a,.string t1a,.slice p2a k2a c2a,.slice p3a k3a c3a,.slice p4a k4a c4a,.slice p5a k5a c5a,.int .i64 mx,.int .i64 my,.int .i64 mz,.int .i64 mh,.int .i64 ms_,.slice va vk vc] 0 W6:=by rw [hW7];simp only [setAll,Nat.zero_add,Nat.reduceAdd]
 have hz7:W7.heap[w.heap.size+1+1]?=some (.cells #[.string t0a,.string t1a,.slice p2a k2a c2a,.slice p3a k3a c3a,.slice p4a k4a c4a,.slice p5a k5a c5a,.int .i64 mx,.int .i64 my,.int .i64 mz,.int .i64 mh,.int .i64 ms_,.slice va vk vc] 30 (0,0)):=by rw [hF7];exact setAll12 HW6.out.2.2.2.1 _ _ _ _ _ _ _ _ _ _ _ _
 have HB7:Hid (Below w.heap.size w W7):=by rw [hF7];exact setAll_below (by omega) _ _ HW6.out.1
 have HO7:Hid (Wh.Own (w.heap.size+3) W7 (.slice va vk vc) HL):=by rw [hF7];exact setAll_owns (by omega) _ _ HO6.out
 have HN7:Hid (IsNd W7 SN #[.string t0a,.string t1a,.slice p2a k2a c2a,.slice p3a k3a c3a,.slice p4a k4a c4a,.slice p5a k5a c5a,.int .i64 mx,.int .i64 my,.int .i64 mz,.int .i64 mh,.int .i64 ms_,.slice va vk vc]):=HFI.out W7 va vc HB7.out (by have h:=Wh.Own.sl HO7.out HOK.out;exact h)
 clear hF7
 go_wp2_with fail
 rw [← hW7]
 clear hW7 z0 zz0 z1 zz1 z2 zz2 z3 zz3 z4 zz4 z5 zz5 z6 zz6 z7 zz7 z8 zz8 z9 zz9 z10 zz10 z11 zz11 a0 a1 a2 a3 a4 a5 a6 a7 a8 a9 a10 a11
 obtain ⟨z0,z1,z2,z3,z4,z5,z6,z7,z8,z9,z10,z11⟩:=cells12 hz7
 refine bodyPost_ret (v:=.tuple #[.agg #[.string t0a,.string t1a,.slice p2a k2a c2a,.slice p3a k3a c3a,.slice p4a k4a c4a,.slice p5a k5a c5a,.int .i64 mx,.int .i64 my,.int .i64 mz,.int .i64 mh,.int .i64 ms_,.slice va vk vc],.int .i64 0]) ?_ rfl ?_
 ·simp [results,Tryz.results32,go_sem,z0,z1,z2,z3,z4,z5,z6,z7,z8,z9,z10,z11]
 ·exact ⟨_,(by rw [HSE.out]),.inr ⟨HSE.out,HN7.out⟩,HB7.out⟩
end Go.Proofs.YtikgjgmgbfjcgaaGreat
