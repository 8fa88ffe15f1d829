import Derived.Test.YtikgjgmgbfjcgaaGreatX14
import Derived.Test.YtikgjgmgbfjcgaaGreatX27
import Derived.Test.YtikgjgmgbfjcgaaGreatX46
import Derived.Test.YtikgjgmgbfjcgaaGreatX42
namespace Go.Proofs.YtikgjgmgbfjcgaaGreat
namespace Wh
open Go.RowKit
set_option maxHeartbeats 6400000 in
set_option maxRecDepth 100000 in
theorem refPut_any (ms:List Whe) (v:Value) (m:Whe) (w:World) (hv:Sl w v ms) (hn:ms.length≤1000) (hr:Rise ms) (p:Nat) (f:Bool) (hat:At ms m p f) :
 Calls Tryz.prog 73 #[v,.agg #[.string m.node,.int .i64 m.x,.int .i64 m.y,.int .i64 m.z,.int .i64 m.h,.int .i64 m.s]] w fun e w'=>∃ v',e=.returned v'∧Own (w.heap.size+1) w' v' (RL.put ms m p f)∧Below w.heap.size w w':=by
 obtain ⟨i0,hi0,hz0,hzs,hzb⟩:=info_parts Tryz.info104
 have hb0:Below w.heap.size w (w.alloc (.cells #[.string m.node,.int .i64 m.x,.int .i64 m.y,.int .i64 m.z,.int .i64 m.h,.int .i64 m.s] 104)):=(Below.refl _ _).alloc (Nat.le_refl _) _
 have HR:Hid (Rise ms):=hr
 have HAT:Hid (At ms m p f):=hat
 have hpn:=hat.le
 obtain ⟨pa,ca,rfl,_,ha⟩:=hv
 have HA0:Hid (ms=[]∨∃ b off,pa=some ⟨b,off,none⟩∧b < w.heap.size∧Row w b off ms):=ha
 clear ha hat hr
 generalize hna:ms.length=n at *
 have HN:Hid (ms.length=n):=hna
 clear hna
 obtain ⟨q,hq⟩:∃ q,q=if f=true then p+1 else p:=⟨_,rfl⟩
 have HQ:Hid (q=if f=true then p+1 else p):=hq
 have hqp:q≤p+1:=by rw [hq];split<;>omega
 clear hq
 have HPUT:Hid (p < n→RL.outL ms m p q n=RL.put ms m p f):=fun h=>by rw [HQ.out,← HN.out];exact RL.put_out (by rw [HN.out];exact h)
 have HLAST:Hid (p=n→f=false∧RL.outL ms m p q n++[m]=RL.put ms m p f):=fun h=>by
  have hf:f=false:=by
   cases f
   ·rfl
   ·have:=(HAT.out.is.1 rfl).1;have:=HN.out;omega
  subst hf
  exact ⟨rfl,by rw [← HN.out];exact RL.put_last (by rw [HN.out];exact h)⟩
 go_enter Tryz.func73,Tryz.ntmps73
 go_wp2_with fail
 obtain ⟨W1,hW1⟩:∃ W1,W1=w.alloc (.cells #[.string m.node,.int .i64 m.x,.int .i64 m.y,.int .i64 m.z,.int .i64 m.h,.int .i64 m.s] 104):=⟨_,rfl⟩
 have hs1:W1.heap.size=w.heap.size+1:=by rw [hW1];simp
 have hg1:W1.heap[w.heap.size]?=some (.cells #[.string m.node,.int .i64 m.x,.int .i64 m.y,.int .i64 m.z,.int .i64 m.h,.int .i64 m.s] 104 (0,0)):=by rw [hW1];exact heap_alloc_new w _
 have d0:W1.cell? ⟨w.heap.size,0,none⟩=some (.string m.node):=cellsAt hg1 0
 have d1:W1.cell? ⟨w.heap.size,1,none⟩=some (.int .i64 m.x):=cellsAt hg1 1
 have d2:W1.cell? ⟨w.heap.size,2,none⟩=some (.int .i64 m.y):=cellsAt hg1 2
 have d3:W1.cell? ⟨w.heap.size,3,none⟩=some (.int .i64 m.z):=cellsAt hg1 3
 have d4:W1.cell? ⟨w.heap.size,4,none⟩=some (.int .i64 m.h):=cellsAt hg1 4
 have d5:W1.cell? ⟨w.heap.size,5,none⟩=some (.int .i64 m.s):=cellsAt hg1 5
 have hb01:Hid (Below w.heap.size w W1):=by rw [hW1];exact hb0
 have HW1:Hid (W1=w.alloc (.cells #[.string m.node,.int .i64 m.x,.int .i64 m.y,.int .i64 m.z,.int .i64 m.h,.int .i64 m.s] 104)):=hW1
 have HA:Hid (ms=[]∨∃ b off,pa=some ⟨b,off,none⟩∧b < w.heap.size+1∧Row W1 b off ms):=by
  rcases HA0.out with h | ⟨b,off,h1,h2,h3⟩
  ·exact .inl h
  ·exact .inr ⟨b,off,h1,by omega,h3.later hb01.out h2⟩
 clear hW1 hg1 hb0 HA0
 have hw1:w.heap.size < w.heap.size+1:=by omega
 go_loopw [5,6,7] (fun kn b i w'=>∃ (k:Nat) (bb:Bool),k≤n∧i=.int .i64 k∧b=.bool bb∧Hid (bb=true↔p < k)∧Below (w.heap.size+1) W1 w'∧Hid (Own (w.heap.size+1) w' kn (RL.outL ms m p q k))) (fun _ _ i _=>n - (intOf i).toNat)
 case atStart=>exact ⟨0,false,Nat.zero_le _,rfl,rfl,⟨fun h=>(by cases h),fun h=>(by omega)⟩,by rw [HW1.out];exact Below.refl _ _,own_nil _ _⟩
 case round=>
  obtain ⟨k,bb,hk,rfl,rfl,hbb,hbl,HO⟩:=hrel
  have hbc:∀ b o,b < w.heap.size+1→wr.cell? ⟨b,o,none⟩=W1.cell? ⟨b,o,none⟩:=fun b o h=>hbl.cell (p:=⟨b,o,none⟩) h
  have hsz:=hbl.size
  have hlen:=RL.outL_len (ms:=ms) (m:=m) (p:=p) (q:=q) (k:=k)
  have hlen2:(RL.outL ms m p q k).length≤2001:=by have:=HN.out;omega
  clear hlen
  by_cases hlt:k < n
  ·obtain ⟨b1,o1,hp1,hl1,hr1⟩:∃ b off,pa=some ⟨b,off,none⟩∧b < w.heap.size+1∧Row W1 b off ms:=by
    rcases HA.out with h | h
    ·have:=HN.out;rw [h] at this;simp at this;omega
    ·exact h
   subst hp1
   obtain ⟨c0,c1,c2,c3,c4,c5⟩:=hr1 k (by rw [HN.out];exact hlt)
   clear hr1
   have hkl:k < ms.length:=by rw [HN.out];exact hlt
   have HLO:Hid (k < p→RL.outL ms m p q (k+1)=RL.outL ms m p q k++[ms.getD k dm]∧ord (ms.getD k dm) m < 0):=fun h=>⟨RL.outL_lo dm h hkl,HAT.out.lo k h⟩
   have HHI:Hid (p < k→RL.outL ms m p q (k+1)=RL.outL ms m p q k++[ms.getD k dm]∧0 < ord (ms.getD k dm) m):=fun h=>⟨RL.outL_hi dm h (by omega) hkl,RL.at_hi_ne ord dm keyed HAT.out HR.out k h hkl⟩
   have HEQ:Hid (k=p→f=true→RL.outL ms m p q (k+1)=RL.outL ms m p q k++[m]∧ord (ms.getD k dm) m=0):=fun h hf=>by
    have hq:q=p+1:=HQ.out.trans (if_pos hf)
    rw [hq,h]
    exact ⟨RL.outL_eq,(HAT.out.is.1 hf).2⟩
   have HNE:Hid (k=p→f=false→RL.outL ms m p q (k+1)=(RL.outL ms m p q k++[m])++[ms.getD k dm]∧0 < ord (ms.getD k dm) m):=fun h hf=>by
    have hq:q=p:=HQ.out.trans (if_neg (by rw [hf];exact Bool.false_ne_true))
    rw [hq,h]
    refine ⟨RL.outL_ne dm (by omega),?_⟩
    have h1:=HAT.out.hi p (Nat.le_refl _) (by omega)
    have h2:¬ ord (ms.getD p dm) m=0:=fun e=>by have:=HAT.out.is.2 ⟨by omega,e⟩;rw [hf] at this;cases this
    omega
   generalize ms.getD k dm=mk at *
   rcases Nat.lt_trichotomy k p with hkp | hkp | hkp
   ·have hbf:bb=false:=by
     cases bb
     ·rfl
     ·have:=hbb.out.1 rfl;omega
    subst hbf
    obtain ⟨hO,hls⟩:=HLO.out hkp
    have HOL:Hid (RL.outL ms m p q (k+1)=RL.outL ms m p q k++[mk]):=hO
    have hl1':Op.bytesLess mk.node.toList m.node.toList=true:=(cmpI_lt _ _).1 hls
    obtain ⟨hne1,hne2⟩:=beq_name (a:=mk.node) (b:=m.node) (fun e=>by have h:ord mk m=0:=(cmpI_eq _ _).2 e;omega)
    clear hO hls HLO HHI HEQ HNE hbb
    generalize RL.outL ms m p q k=L at *
    go_wp2_with fail
    go_quiet (fail)
    go_wp2_with fail
    go_quiet (fail)
    go_wp2_with (at_builtin;refine wpList_append_own _ rfl _ _ 28 rfl (w.heap.size+1) 104 i0 _ 6 56 Tryz.underlying28 hi0 hz0 hzs hzb rfl (by omega) _ (L).length (fl (L)) rfl ?hown ⟨wr.heap.size,0,none⟩ 1 1 (mk).cs rfl rfl ?hnews (cs_one _) ?h63 ?hbytes ?hbase ?_)
    case hown=>(refine HO.out.below ?_;repeat (first | exact Below.refl _ _ | refine below_drewN ?_ _ | refine Below.alloc ?_ (by simp) _ | refine Below.drew ?_))
    case hnews=>(intro j u hj;rw [Addr.add_lit];exact (cellsAt (heap_alloc_new wr (.cells #[.string mk.node,.int .i64 mk.x,.int .i64 mk.y,.int .i64 mk.z,.int .i64 mk.h,.int .i64 mk.s] 104)) (0+j)).trans (by simpa [Whe.cs] using hj))
    case h63=>(unfold maxLen;omega)
    case hbytes=>omega
    case hbase=>(simp;omega)
    intro v' w2 r1 r2 r3
    have HBX:Hid (Below (w.heap.size+1) W1 w2):=by
     have h0:Below (w.heap.size+1) W1 (wr.alloc (.cells #[.string mk.node,.int .i64 mk.x,.int .i64 mk.y,.int .i64 mk.z,.int .i64 mk.h,.int .i64 mk.s] 104)):=hbl.alloc (by omega) _
     exact h0.trans ((Below.refl _ _).grown (w:=wr.alloc (.cells #[.string mk.node,.int .i64 mk.x,.int .i64 mk.y,.int .i64 mk.z,.int .i64 mk.h,.int .i64 mk.s] 104)) ⟨r2.os,r2.tape,r2.output,r2.size,r2.block⟩ (by simp;omega) (fun j hj=>(HO.out.lt j hj).1))
    have HOX:Hid (Own (w.heap.size+1) w2 v' (L++[mk])):=own_snoc (by first | exact r1 | (rw [List.length_append];exact r1))
    clear r1 r2 r3
    go_wp2_with fail
    exact ⟨⟨k+1,false,by omega,by go_num,rfl,⟨fun h=>(by cases h),fun h=>(by omega)⟩,HBX.out,(by rw [HOL.out];exact HOX.out)⟩,by simp [intOf];omega⟩
   ·have hbf:bb=false:=by
     cases bb
     ·rfl
     ·have:=hbb.out.1 rfl;omega
    subst hbf
    have hkp1:p≤k:=by omega
    have hkp2:k≤p:=by omega
    have HKP:Hid (k=p):=hkp
    clear hkp
    cases f
    ·obtain ⟨hO,hls⟩:=HNE.out HKP.out rfl
     have HOL:Hid (RL.outL ms m p q (k+1)=(RL.outL ms m p q k++[m])++[mk]):=hO
     have hl1':Op.bytesLess mk.node.toList m.node.toList=false:=less_asymm ((cmpI_gt _ _).1 hls)
     obtain ⟨hne1,hne2⟩:=beq_name (a:=mk.node) (b:=m.node) (fun e=>by have h:ord mk m=0:=(cmpI_eq _ _).2 e;omega)
     clear hO hls HLO HHI HEQ HNE hbb
     generalize RL.outL ms m p q k=L at *
     go_wp2_with fail
     go_quiet (fail)
     go_wp2_with (at_builtin;refine wpList_append_own _ rfl _ _ 28 rfl (w.heap.size+1) 104 i0 _ 6 56 Tryz.underlying28 hi0 hz0 hzs hzb rfl (by omega) _ (L).length (fl (L)) rfl ?hown ⟨wr.heap.size,0,none⟩ 1 1 (m).cs rfl rfl ?hnews (cs_one _) ?h63 ?hbytes ?hbase ?_)
     case hown=>(refine HO.out.below ?_;repeat (first | exact Below.refl _ _ | refine below_drewN ?_ _ | refine Below.alloc ?_ (by simp) _ | refine Below.drew ?_))
     case hnews=>(intro j u hj;rw [Addr.add_lit];exact (cellsAt (heap_alloc_new wr (.cells #[.string m.node,.int .i64 m.x,.int .i64 m.y,.int .i64 m.z,.int .i64 m.h,.int .i64 m.s] 104)) (0+j)).trans (by simpa [Whe.cs] using hj))
     case h63=>(unfold maxLen;omega)
     case hbytes=>omega
     case hbase=>(simp;omega)
     intro v' w2 r1 r2 r3
     have HBX:Hid (Below (w.heap.size+1) W1 w2):=by
      have h0:Below (w.heap.size+1) W1 (wr.alloc (.cells #[.string m.node,.int .i64 m.x,.int .i64 m.y,.int .i64 m.z,.int .i64 m.h,.int .i64 m.s] 104)):=hbl.alloc (by omega) _
      exact h0.trans ((Below.refl _ _).grown (w:=wr.alloc (.cells #[.string m.node,.int .i64 m.x,.int .i64 m.y,.int .i64 m.z,.int .i64 m.h,.int .i64 m.s] 104)) ⟨r2.os,r2.tape,r2.output,r2.size,r2.block⟩ (by simp;omega) (fun j hj=>(HO.out.lt j hj).1))
     have HOX:Hid (Own (w.heap.size+1) w2 v' (L++[m])):=own_snoc (by first | exact r1 | (rw [List.length_append];exact r1))
     clear r1 r2 r3
     have hbl2:=HBX.out
     have hbc2:∀ b o,b < w.heap.size+1→w2.cell? ⟨b,o,none⟩=W1.cell? ⟨b,o,none⟩:=fun b o h=>hbl2.cell (p:=⟨b,o,none⟩) h
     have hsz2:=hbl2.size
     clear hbl hbc hsz HO
     have hl2:(L++[m]).length≤2002:=by simp;omega
     go_wp2_with fail
     go_quiet (fail)
     go_wp2_with (at_builtin;refine wpList_append_own _ rfl _ _ 28 rfl (w.heap.size+1) 104 i0 _ 6 56 Tryz.underlying28 hi0 hz0 hzs hzb rfl (by omega) _ (L++[m]).length (fl (L++[m])) rfl ?hown ⟨w2.heap.size,0,none⟩ 1 1 (mk).cs rfl rfl ?hnews (cs_one _) ?h63 ?hbytes ?hbase ?_)
     case hown=>(refine HOX.out.below ?_;repeat (first | exact Below.refl _ _ | refine below_drewN ?_ _ | refine Below.alloc ?_ (by simp) _ | refine Below.drew ?_))
     case hnews=>(intro j u hj;rw [Addr.add_lit];exact (cellsAt (heap_alloc_new w2 (.cells #[.string mk.node,.int .i64 mk.x,.int .i64 mk.y,.int .i64 mk.z,.int .i64 mk.h,.int .i64 mk.s] 104)) (0+j)).trans (by simpa [Whe.cs] using hj))
     case h63=>(unfold maxLen;omega)
     case hbytes=>omega
     case hbase=>(simp;omega)
     clear HBX
     intro v' w3 r1 r2 r3
     have HBXY:Hid (Below (w.heap.size+1) W1 w3):=by
      have h0:Below (w.heap.size+1) W1 (w2.alloc (.cells #[.string mk.node,.int .i64 mk.x,.int .i64 mk.y,.int .i64 mk.z,.int .i64 mk.h,.int .i64 mk.s] 104)):=hbl2.alloc (by omega) _
      exact h0.trans ((Below.refl _ _).grown (w:=w2.alloc (.cells #[.string mk.node,.int .i64 mk.x,.int .i64 mk.y,.int .i64 mk.z,.int .i64 mk.h,.int .i64 mk.s] 104)) ⟨r2.os,r2.tape,r2.output,r2.size,r2.block⟩ (by simp;omega) (fun j hj=>(HOX.out.lt j hj).1))
     have HOXY:Hid (Own (w.heap.size+1) w3 v' ((L++[m])++[mk])):=own_snoc (by first | exact r1 | (rw [List.length_append];exact r1))
     clear r1 r2 r3
     go_wp2_with fail
     exact ⟨⟨k+1,true,by omega,by go_num,rfl,⟨fun _=>(by omega),fun _=>(rfl)⟩,HBXY.out,(by rw [HOL.out];exact HOXY.out)⟩,by simp [intOf];omega⟩
    ·obtain ⟨hO,hls⟩:=HEQ.out HKP.out rfl
     have HOL:Hid (RL.outL ms m p q (k+1)=RL.outL ms m p q k++[m]):=hO
     have hce:mk.node=m.node:=(cmpI_eq _ _).1 hls
     rw [hce] at c0
     have hl1':Op.bytesLess m.node.toList m.node.toList=false:=bl_irrefl _
     clear hO hls HLO HHI HEQ HNE hbb
     generalize RL.outL ms m p q k=L at *
     go_wp2_with fail
     go_quiet (fail)
     go_wp2_with (at_builtin;refine wpList_append_own _ rfl _ _ 28 rfl (w.heap.size+1) 104 i0 _ 6 56 Tryz.underlying28 hi0 hz0 hzs hzb rfl (by omega) _ (L).length (fl (L)) rfl ?hown ⟨wr.heap.size,0,none⟩ 1 1 (m).cs rfl rfl ?hnews (cs_one _) ?h63 ?hbytes ?hbase ?_)
     case hown=>(refine HO.out.below ?_;repeat (first | exact Below.refl _ _ | refine below_drewN ?_ _ | refine Below.alloc ?_ (by simp) _ | refine Below.drew ?_))
     case hnews=>(intro j u hj;rw [Addr.add_lit];exact (cellsAt (heap_alloc_new wr (.cells #[.string m.node,.int .i64 m.x,.int .i64 m.y,.int .i64 m.z,.int .i64 m.h,.int .i64 m.s] 104)) (0+j)).trans (by simpa [Whe.cs] using hj))
     case h63=>(unfold maxLen;omega)
     case hbytes=>omega
     case hbase=>(simp;omega)
     intro v' w2 r1 r2 r3
     have HBX:Hid (Below (w.heap.size+1) W1 w2):=by
      have h0:Below (w.heap.size+1) W1 (wr.alloc (.cells #[.string m.node,.int .i64 m.x,.int .i64 m.y,.int .i64 m.z,.int .i64 m.h,.int .i64 m.s] 104)):=hbl.alloc (by omega) _
      exact h0.trans ((Below.refl _ _).grown (w:=wr.alloc (.cells #[.string m.node,.int .i64 m.x,.int .i64 m.y,.int .i64 m.z,.int .i64 m.h,.int .i64 m.s] 104)) ⟨r2.os,r2.tape,r2.output,r2.size,r2.block⟩ (by simp;omega) (fun j hj=>(HO.out.lt j hj).1))
     have HOX:Hid (Own (w.heap.size+1) w2 v' (L++[m])):=own_snoc (by first | exact r1 | (rw [List.length_append];exact r1))
     clear r1 r2 r3
     have hbl2:=HBX.out
     have hbc2:∀ b o,b < w.heap.size+1→w2.cell? ⟨b,o,none⟩=W1.cell? ⟨b,o,none⟩:=fun b o h=>hbl2.cell (p:=⟨b,o,none⟩) h
     have hsz2:=hbl2.size
     clear hbl hbc hsz HO
     go_wp2_with fail
     go_quiet (fail)
     go_wp2_with fail
     exact ⟨⟨k+1,true,by omega,by go_num,rfl,⟨fun _=>(by omega),fun _=>rfl⟩,below_drewN HBX.out _,(by rw [HOL.out];exact HOX.out.below (below_drewN (Below.refl _ _) _))⟩,by simp [intOf];omega⟩
   ·have hbf:bb=true:=hbb.out.2 hkp
    subst hbf
    obtain ⟨hO,hls⟩:=HHI.out hkp
    have HOL:Hid (RL.outL ms m p q (k+1)=RL.outL ms m p q k++[mk]):=hO
    have hl1':Op.bytesLess mk.node.toList m.node.toList=false:=less_asymm ((cmpI_gt _ _).1 hls)
    obtain ⟨hne1,hne2⟩:=beq_name (a:=mk.node) (b:=m.node) (fun e=>by have h:ord mk m=0:=(cmpI_eq _ _).2 e;omega)
    clear hO hls HLO HHI HEQ HNE hbb
    generalize RL.outL ms m p q k=L at *
    go_wp2_with fail
    go_quiet (fail)
    go_wp2_with fail
    go_quiet (fail)
    go_wp2_with (at_builtin;refine wpList_append_own _ rfl _ _ 28 rfl (w.heap.size+1) 104 i0 _ 6 56 Tryz.underlying28 hi0 hz0 hzs hzb rfl (by omega) _ (L).length (fl (L)) rfl ?hown ⟨wr.heap.size,0,none⟩ 1 1 (mk).cs rfl rfl ?hnews (cs_one _) ?h63 ?hbytes ?hbase ?_)
    case hown=>(refine HO.out.below ?_;repeat (first | exact Below.refl _ _ | refine below_drewN ?_ _ | refine Below.alloc ?_ (by simp) _ | refine Below.drew ?_))
    case hnews=>(intro j u hj;rw [Addr.add_lit];exact (cellsAt (heap_alloc_new wr (.cells #[.string mk.node,.int .i64 mk.x,.int .i64 mk.y,.int .i64 mk.z,.int .i64 mk.h,.int .i64 mk.s] 104)) (0+j)).trans (by simpa [Whe.cs] using hj))
    case h63=>(unfold maxLen;omega)
    case hbytes=>omega
    case hbase=>(simp;omega)
    intro v' w2 r1 r2 r3
    have HBX:Hid (Below (w.heap.size+1) W1 w2):=by
     have h0:Below (w.heap.size+1) W1 (wr.alloc (.cells #[.string mk.node,.int .i64 mk.x,.int .i64 mk.y,.int .i64 mk.z,.int .i64 mk.h,.int .i64 mk.s] 104)):=hbl.alloc (by omega) _
     exact h0.trans ((Below.refl _ _).grown (w:=wr.alloc (.cells #[.string mk.node,.int .i64 mk.x,.int .i64 mk.y,.int .i64 mk.z,.int .i64 mk.h,.int .i64 mk.s] 104)) ⟨r2.os,r2.tape,r2.output,r2.size,r2.block⟩ (by simp;omega) (fun j hj=>(HO.out.lt j hj).1))
    have HOX:Hid (Own (w.heap.size+1) w2 v' (L++[mk])):=own_snoc (by first | exact r1 | (rw [List.length_append];exact r1))
    clear r1 r2 r3
    go_wp2_with fail
    exact ⟨⟨k+1,true,by omega,by go_num,rfl,⟨fun _=>(by omega),fun _=>(rfl)⟩,HBX.out,(by rw [HOL.out];exact HOX.out)⟩,by simp [intOf];omega⟩
  ·have hkn:k=n:=by omega
   subst hkn
   have HBX:Hid (Below w.heap.size w wr):=hb01.out.trans (hbl.mono (by omega))
   by_cases hpk:p < k
   ·have hbf:bb=true:=hbb.out.2 hpk
    subst hbf
    have HFO:Hid (Own (w.heap.size+1) wr u5 (RL.put ms m p f)):=by
     have h:=HO.out
     rw [HPUT.out hpk] at h
     exact h
    clear HO hlen2
    go_wp2_with fail
    go_ret
    exact ⟨u5,rfl,HFO.out,HBX.out⟩
   ·have hbf:bb=false:=by
     cases bb
     ·rfl
     ·have:=hbb.out.1 rfl;omega
    subst hbf
    obtain ⟨hf,hput⟩:=HLAST.out (by omega)
    have HPL:Hid (RL.outL ms m p q k++[m]=RL.put ms m p f):=hput
    clear hput HPUT HLAST
    generalize RL.outL ms m p q k=L at *
    go_wp2_with (at_builtin;refine wpList_append_own _ rfl _ _ 28 rfl (w.heap.size+1) 104 i0 _ 6 56 Tryz.underlying28 hi0 hz0 hzs hzb rfl (by omega) _ (L).length (fl (L)) rfl ?hown ⟨wr.heap.size,0,none⟩ 1 1 (m).cs rfl rfl ?hnews (cs_one _) ?h63 ?hbytes ?hbase ?_)
    case hown=>(refine HO.out.below ?_;repeat (first | exact Below.refl _ _ | refine below_drewN ?_ _ | refine Below.alloc ?_ (by simp) _ | refine Below.drew ?_))
    case hnews=>(intro j u hj;rw [Addr.add_lit];exact (cellsAt (heap_alloc_new wr (.cells #[.string m.node,.int .i64 m.x,.int .i64 m.y,.int .i64 m.z,.int .i64 m.h,.int .i64 m.s] 104)) (0+j)).trans (by simpa [Whe.cs] using hj))
    case h63=>(unfold maxLen;omega)
    case hbytes=>omega
    case hbase=>(simp;omega)
    intro v' w2 r1 r2 r3
    have HBY:Hid (Below w.heap.size w w2):=by
     have h0:Below (w.heap.size+1) W1 (wr.alloc (.cells #[.string m.node,.int .i64 m.x,.int .i64 m.y,.int .i64 m.z,.int .i64 m.h,.int .i64 m.s] 104)):=hbl.alloc (by omega) _
     have h1:Below (w.heap.size+1) W1 w2:=h0.trans ((Below.refl _ _).grown (w:=wr.alloc (.cells #[.string m.node,.int .i64 m.x,.int .i64 m.y,.int .i64 m.z,.int .i64 m.h,.int .i64 m.s] 104)) ⟨r2.os,r2.tape,r2.output,r2.size,r2.block⟩ (by simp;omega) (fun j hj=>(HO.out.lt j hj).1))
     exact hb01.out.trans (h1.mono (by omega))
    have HFO:Hid (Own (w.heap.size+1) w2 v' (RL.put ms m p f)):=by rw [← HPL.out];exact own_snoc r1
    clear r1 r2 r3
    go_wp2_with fail
    go_ret
    exact ⟨v',rfl,HFO.out,HBY.out⟩
end Wh
end Go.Proofs.YtikgjgmgbfjcgaaGreat
namespace Go.Proofs.YtikgjgmgbfjcgaaGreat
open Go.RowKit
theorem Wh.put_hear {ms:List Wh.Whe} {m:Wh.Whe} {p:Nat} {f:Bool} (h:Wh.At ms m p f):RL.put ms m p f=Wh.hearL ms m:=by
 rw [Wh.hearL_at ms m p f h]
 unfold RL.put
 cases f
 ·rfl
 ·have hp:=(h.is.1 rfl).1
  simp only [if_true,Wh.newE]
  exact (List.set_eq_take_append_cons_drop (l:=ms) (i:=p) (a:=m) |>.trans (if_pos hp)).symm
theorem putWhere_is (l:List Wh.Whe) (v:Value) (x:Wh.Whe) (w:World) (hv:Wh.Sl w v l) (hn:l.length≤20) (hr:Wh.Rise l) :
 Calls Tryz.prog 73 #[v,.agg #[.string x.node,.int .i64 x.x,.int .i64 x.y,.int .i64 x.z,.int .i64 x.h,.int .i64 x.s]] w fun e w'=>∃ a c,e=.returned (.slice a (Wh.hearL l x).length c)∧Wh.Own (w.heap.size+1) w' (.slice a (Wh.hearL l x).length c) (Wh.hearL l x)∧Below w.heap.size w w':=by
 obtain ⟨p,f,hat⟩:=Wh.at_any l hr x
 refine (Wh.refPut_any l v x w hv (by omega) hr p f hat).mono ?_
 rintro e w' ⟨v',rfl,ho,hb⟩
 rw [Wh.put_hear hat] at ho
 obtain ⟨a,c,rfl,_⟩:=own_slice ho
 exact ⟨a,c,rfl,ho,hb⟩
end Go.Proofs.YtikgjgmgbfjcgaaGreat
