import Derived.Test.YtikgjgmgbfjcgaaGreatX37
import Derived.Test.YtikgjgmgbfjcgaaGreatX28
namespace Go.Proofs.YtikgjgmgbfjcgaaGreat
namespace Sv
open Go.RowKit
theorem ord_ne {a b:Svc} (h:ord a b≠0):((a.node.toList == b.node.toList)=false∧¬ a.node.toList=b.node.toList)∨((a.node.toList == b.node.toList)=true∧a.node.toList=b.node.toList∧(a.idn.toList == b.idn.toList)=false∧¬ a.idn.toList=b.idn.toList):=by
 by_cases h1:a.node=b.node
 ·right
  have h2:a.idn≠b.idn:=fun e=>h (by
   show (if cmpI a.node b.node=0 then cmpI a.idn b.idn else cmpI a.node b.node)=0
   rw [if_pos ((cmpI_eq _ _).2 h1)];exact (cmpI_eq _ _).2 e)
  have h3:a.node.toList=b.node.toList:=by rw [h1]
  exact ⟨by rw [h3];simp,h3,(beq_name h2).1,(beq_name h2).2⟩
 ·exact .inl (beq_name h1)
theorem ord_eq {a b:Svc} (h:ord a b=0):(a.node.toList == b.node.toList)=true∧a.node.toList=b.node.toList∧(a.idn.toList == b.idn.toList)=true∧a.idn.toList=b.idn.toList:=by
 obtain ⟨h1,h2⟩:=RL.lex_zero h
 have e1:a.node=b.node:=(cmpI_eq _ _).1 h1
 have e2:a.idn=b.idn:=(cmpI_eq _ _).1 h2
 rw [e1,e2]
 simp
set_option maxHeartbeats 12800000 in
set_option maxRecDepth 100000 in
theorem refPut_any (ms:List Svc) (v:Value) (m:Svc) (w:World) (hv:Sl w v ms) (hn:ms.length≤1000) (hr:Rise ms) (p:Nat) (f:Bool) (hat:At ms m p f) :
 Calls Tryz.prog 128 #[v,.agg #[.string m.node,.string m.idn,.string m.name,.string m.tag,.int .i64 m.addr,.int .i64 m.port,.bool m.passing,.int .i64 m.version,.bool m.gone]] w fun e w'=>∃ v',e=.returned v'∧Own (w.heap.size+1) w' v' (RL.put ms m p f)∧Below w.heap.size w w':=by
 obtain ⟨i0,hi0,hz0,hzs,hzb⟩:=info_parts Tryz.info62
 have hb0:Below w.heap.size w (w.alloc (.cells #[.string m.node,.string m.idn,.string m.name,.string m.tag,.int .i64 m.addr,.int .i64 m.port,.bool m.passing,.int .i64 m.version,.bool m.gone] 62)):=(Below.refl _ _).alloc (Nat.le_refl _) _
 have HR:Hid (Rise ms):=hr
 have HAT:Hid (At ms m p f):=hat
 have hpn:=hat.le
 obtain ⟨pa,ca,rfl,_,ha⟩:=hv
 have HA0:Hid (ms=[]∨∃ b off,pa=some ⟨b,off,none⟩∧b < w.heap.size∧Row w b off ms):=ha
 clear ha hat hr
 generalize hna:ms.length=n at *
 have HN:Hid (ms.length=n):=hna
 clear hna
 obtain ⟨q,hq⟩:∃ q,q=if f=true then p+1 else p:=⟨_,rfl⟩
 have HQ:Hid (q=if f=true then p+1 else p):=hq
 have hqp:q≤p+1:=by rw [hq];split<;>omega
 clear hq
 have HPUT:Hid (p < n→RL.outL ms m p q n=RL.put ms m p f):=fun h=>by rw [HQ.out,← HN.out];exact RL.put_out (by rw [HN.out];exact h)
 have HLAST:Hid (p=n→f=false∧RL.outL ms m p q n++[m]=RL.put ms m p f):=fun h=>by
  have hf:f=false:=by
   cases f
   ·rfl
   ·have:=(HAT.out.is.1 rfl).1;have:=HN.out;omega
  subst hf
  exact ⟨rfl,by rw [← HN.out];exact RL.put_last (by rw [HN.out];exact h)⟩
 go_enter Tryz.func128,Tryz.ntmps128
 go_wp2_with fail
 obtain ⟨W1,hW1⟩:∃ W1,W1=w.alloc (.cells #[.string m.node,.string m.idn,.string m.name,.string m.tag,.int .i64 m.addr,.int .i64 m.port,.bool m.passing,.int .i64 m.version,.bool m.gone] 62):=⟨_,rfl⟩
 have hs1:W1.heap.size=w.heap.size+1:=by rw [hW1];simp
 have hg1:W1.heap[w.heap.size]?=some (.cells #[.string m.node,.string m.idn,.string m.name,.string m.tag,.int .i64 m.addr,.int .i64 m.port,.bool m.passing,.int .i64 m.version,.bool m.gone] 62 (0,0)):=by rw [hW1];exact heap_alloc_new w _
 have d0:W1.cell? ⟨w.heap.size,0,none⟩=some (.string m.node):=cellsAt hg1 0
 have d1:W1.cell? ⟨w.heap.size,1,none⟩=some (.string m.idn):=cellsAt hg1 1
 have d2:W1.cell? ⟨w.heap.size,2,none⟩=some (.string m.name):=cellsAt hg1 2
 have d3:W1.cell? ⟨w.heap.size,3,none⟩=some (.string m.tag):=cellsAt hg1 3
 have d4:W1.cell? ⟨w.heap.size,4,none⟩=some (.int .i64 m.addr):=cellsAt hg1 4
 have d5:W1.cell? ⟨w.heap.size,5,none⟩=some (.int .i64 m.port):=cellsAt hg1 5
 have d6:W1.cell? ⟨w.heap.size,6,none⟩=some (.bool m.passing):=cellsAt hg1 6
 have d7:W1.cell? ⟨w.heap.size,7,none⟩=some (.int .i64 m.version):=cellsAt hg1 7
 have d8:W1.cell? ⟨w.heap.size,8,none⟩=some (.bool m.gone):=cellsAt hg1 8
 have hb01:Hid (Below w.heap.size w W1):=by rw [hW1];exact hb0
 have HW1:Hid (W1=w.alloc (.cells #[.string m.node,.string m.idn,.string m.name,.string m.tag,.int .i64 m.addr,.int .i64 m.port,.bool m.passing,.int .i64 m.version,.bool m.gone] 62)):=hW1
 have HA:Hid (ms=[]∨∃ b off,pa=some ⟨b,off,none⟩∧b < w.heap.size+1∧Row W1 b off ms):=by
  rcases HA0.out with h | ⟨b,off,h1,h2,h3⟩
  ·exact .inl h
  ·exact .inr ⟨b,off,h1,by omega,h3.later hb01.out h2⟩
 clear hW1 hg1 hb0 HA0
 have hw1:w.heap.size < w.heap.size+1:=by omega
 go_loopw [5,6,7] (fun kn b i w'=>∃ (k:Nat) (bb:Bool),k≤n∧i=.int .i64 k∧b=.bool bb∧Hid (bb=true↔p < k)∧Below (w.heap.size+1) W1 w'∧Hid (Own (w.heap.size+1) w' kn (RL.outL ms m p q k))) (fun _ _ i _=>n - (intOf i).toNat)
 case atStart=>exact ⟨0,false,Nat.zero_le _,rfl,rfl,⟨fun h=>(by cases h),fun h=>(by omega)⟩,by rw [HW1.out];exact Below.refl _ _,own_nil _ _⟩
 case round=>
  obtain ⟨k,bb,hk,rfl,rfl,hbb,hbl,HO⟩:=hrel
  have hbc:∀ b o,b < w.heap.size+1→wr.cell? ⟨b,o,none⟩=W1.cell? ⟨b,o,none⟩:=fun b o h=>hbl.cell (p:=⟨b,o,none⟩) h
  have hsz:=hbl.size
  have hlen:=RL.outL_len (ms:=ms) (m:=m) (p:=p) (q:=q) (k:=k)
  have hlen2:(RL.outL ms m p q k).length≤2001:=by have:=HN.out;omega
  clear hlen
  by_cases hlt:k < n
  ·obtain ⟨b1,o1,hp1,hl1,hr1⟩:∃ b off,pa=some ⟨b,off,none⟩∧b < w.heap.size+1∧Row W1 b off ms:=by
    rcases HA.out with h | h
    ·have:=HN.out;rw [h] at this;simp at this;omega
    ·exact h
   subst hp1
   obtain ⟨c0,c1,c2,c3,c4,c5,c6,c7,c8⟩:=hr1 k (by rw [HN.out];exact hlt)
   clear hr1
   have hkl:k < ms.length:=by rw [HN.out];exact hlt
   have HLO:Hid (k < p→RL.outL ms m p q (k+1)=RL.outL ms m p q k++[ms.getD k dm]∧ord (ms.getD k dm) m < 0):=fun h=>⟨RL.outL_lo dm h hkl,HAT.out.lo k h⟩
   have HHI:Hid (p < k→RL.outL ms m p q (k+1)=RL.outL ms m p q k++[ms.getD k dm]∧0 < ord (ms.getD k dm) m):=fun h=>⟨RL.outL_hi dm h (by omega) hkl,RL.at_hi_ne ord dm keyed HAT.out HR.out k h hkl⟩
   have HEQ:Hid (k=p→f=true→RL.outL ms m p q (k+1)=RL.outL ms m p q k++[m]∧ord (ms.getD k dm) m=0):=fun h hf=>by
    have hq:q=p+1:=HQ.out.trans (if_pos hf)
    rw [hq,h]
    exact ⟨RL.outL_eq,(HAT.out.is.1 hf).2⟩
   have HNE:Hid (k=p→f=false→RL.outL ms m p q (k+1)=(RL.outL ms m p q k++[m])++[ms.getD k dm]∧0 < ord (ms.getD k dm) m):=fun h hf=>by
    have hq:q=p:=HQ.out.trans (if_neg (by rw [hf];exact Bool.false_ne_true))
    rw [hq,h]
    refine ⟨RL.outL_ne dm (by omega),?_⟩
    have h1:=HAT.out.hi p (Nat.le_refl _) (by omega)
    have h2:¬ ord (ms.getD p dm) m=0:=fun e=>by have:=HAT.out.is.2 ⟨by omega,e⟩;rw [hf] at this;cases this
    omega
   generalize ms.getD k dm=mk at *
   rcases Nat.lt_trichotomy k p with hkp | hkp | hkp
   ·have hbf:bb=false:=by
     cases bb
     ·rfl
     ·have:=hbb.out.1 rfl;omega
    subst hbf
    obtain ⟨hO,hls⟩:=HLO.out hkp
    have HOL:Hid (RL.outL ms m p q (k+1)=RL.outL ms m p q k++[mk]):=hO
    have hne:=ord_ne (by omega:ord mk m≠0)
    have HDO:Hid (decide (ord mk m < 0)=true):=decide_eq_true hls
    clear hO hls HLO HHI HEQ HNE hbb
    generalize RL.outL ms m p q k=L at *
    rcases hne with ⟨hne1,hne2⟩ | ⟨he1,he2,hne1,hne2⟩
    all_goals
     have hN:∀ d os,Calls Tryz.prog 109 #[.agg #[.string mk.node,.string mk.idn,.string mk.name,.string mk.tag,.int .i64 mk.addr,.int .i64 mk.port,.bool mk.passing,.int .i64 mk.version,.bool mk.gone],.agg #[.string m.node,.string m.idn,.string m.name,.string m.tag,.int .i64 m.addr,.int .i64 m.port,.bool m.passing,.int .i64 m.version,.bool m.gone]] (Go.Sort.grow (redrawn wr d) os) fun e w''=>e=.returned (.bool true)∧∃ p:Regrown,w''=Go.Sort.grow (redrawn wr p.d) p.os:=fun d os=>Calls.regrown_of ((ahead_any mk m _).mono (by rintro e w' ⟨rfl,h⟩;exact ⟨by rw [HDO.out],h⟩))
     have F0:∀ d os,(Go.Sort.grow (redrawn wr d) os).cell? ⟨b1,o1+k * 9,none⟩=some (.string mk.node):=cell_regrown ((hbc _ _ hl1).trans c0)
     have F1:∀ d os,(Go.Sort.grow (redrawn wr d) os).cell? ⟨b1,o1+k * 9+1,none⟩=some (.string mk.idn):=cell_regrown ((hbc _ _ hl1).trans c1)
     have F2:∀ d os,(Go.Sort.grow (redrawn wr d) os).cell? ⟨b1,o1+k * 9+2,none⟩=some (.string mk.name):=cell_regrown ((hbc _ _ hl1).trans c2)
     have F3:∀ d os,(Go.Sort.grow (redrawn wr d) os).cell? ⟨b1,o1+k * 9+3,none⟩=some (.string mk.tag):=cell_regrown ((hbc _ _ hl1).trans c3)
     have F4:∀ d os,(Go.Sort.grow (redrawn wr d) os).cell? ⟨b1,o1+k * 9+4,none⟩=some (.int .i64 mk.addr):=cell_regrown ((hbc _ _ hl1).trans c4)
     have F5:∀ d os,(Go.Sort.grow (redrawn wr d) os).cell? ⟨b1,o1+k * 9+5,none⟩=some (.int .i64 mk.port):=cell_regrown ((hbc _ _ hl1).trans c5)
     have F6:∀ d os,(Go.Sort.grow (redrawn wr d) os).cell? ⟨b1,o1+k * 9+6,none⟩=some (.bool mk.passing):=cell_regrown ((hbc _ _ hl1).trans c6)
     have F7:∀ d os,(Go.Sort.grow (redrawn wr d) os).cell? ⟨b1,o1+k * 9+7,none⟩=some (.int .i64 mk.version):=cell_regrown ((hbc _ _ hl1).trans c7)
     have F8:∀ d os,(Go.Sort.grow (redrawn wr d) os).cell? ⟨b1,o1+k * 9+8,none⟩=some (.bool mk.gone):=cell_regrown ((hbc _ _ hl1).trans c8)
     have G0:∀ d os,(Go.Sort.grow (redrawn wr d) os).cell? ⟨w.heap.size,0,none⟩=some (.string m.node):=cell_regrown ((hbc _ _ hw1).trans d0)
     have G1:∀ d os,(Go.Sort.grow (redrawn wr d) os).cell? ⟨w.heap.size,1,none⟩=some (.string m.idn):=cell_regrown ((hbc _ _ hw1).trans d1)
     have G2:∀ d os,(Go.Sort.grow (redrawn wr d) os).cell? ⟨w.heap.size,2,none⟩=some (.string m.name):=cell_regrown ((hbc _ _ hw1).trans d2)
     have G3:∀ d os,(Go.Sort.grow (redrawn wr d) os).cell? ⟨w.heap.size,3,none⟩=some (.string m.tag):=cell_regrown ((hbc _ _ hw1).trans d3)
     have G4:∀ d os,(Go.Sort.grow (redrawn wr d) os).cell? ⟨w.heap.size,4,none⟩=some (.int .i64 m.addr):=cell_regrown ((hbc _ _ hw1).trans d4)
     have G5:∀ d os,(Go.Sort.grow (redrawn wr d) os).cell? ⟨w.heap.size,5,none⟩=some (.int .i64 m.port):=cell_regrown ((hbc _ _ hw1).trans d5)
     have G6:∀ d os,(Go.Sort.grow (redrawn wr d) os).cell? ⟨w.heap.size,6,none⟩=some (.bool m.passing):=cell_regrown ((hbc _ _ hw1).trans d6)
     have G7:∀ d os,(Go.Sort.grow (redrawn wr d) os).cell? ⟨w.heap.size,7,none⟩=some (.int .i64 m.version):=cell_regrown ((hbc _ _ hw1).trans d7)
     have G8:∀ d os,(Go.Sort.grow (redrawn wr d) os).cell? ⟨w.heap.size,8,none⟩=some (.bool m.gone):=cell_regrown ((hbc _ _ hw1).trans d8)
     go_wp2_with fail
     refine wp_region_quiet_below (by kernel_rfl) (by kernel_rfl) ?_
     repeat (quiet_step (exact hN _ _))
     refine wpQuiet_nil ?_
     intro _ hw'
     obtain ⟨⟨dq,osq⟩,hw''⟩:=hw'
     subst hw''
     have HBQ:Hid (Below wr.heap.size wr (Go.Sort.grow (redrawn wr dq) osq)):=below_regrown wr dq osq
     clear hN F0 F1 F2 F3 F4 F5 F6 F7 F8 G0 G1 G2 G3 G4 G5 G6 G7 G8
     generalize Go.Sort.grow (redrawn wr dq) osq=wq at *
     have hblq:Below (w.heap.size+1) W1 wq:=hbl.trans (HBQ.out.mono (by omega))
     have HOq:Hid (Own (w.heap.size+1) wq u5 L):=HO.out.below HBQ.out
     have hbcq:∀ b o,b < w.heap.size+1→wq.cell? ⟨b,o,none⟩=W1.cell? ⟨b,o,none⟩:=fun b o h=>hblq.cell (p:=⟨b,o,none⟩) h
     have hszq:=hblq.size
     clear hbl hbc hsz HO HBQ
     go_wp2_with fail
     go_quiet (fail)
     go_wp2_with (at_builtin;refine wpList_append_own _ rfl _ _ 24 rfl (w.heap.size+1) 62 i0 _ 9 104 Tryz.underlying24 hi0 hz0 hzs hzb rfl (by omega) _ (L).length (fl (L)) rfl ?hown ⟨wq.heap.size,0,none⟩ 1 1 (mk).cs rfl rfl ?hnews (cs_one _) ?h63 ?hbytes ?hbase ?_)
     case hown=>(refine HOq.out.below ?_;repeat (first | exact Below.refl _ _ | refine below_drewN ?_ _ | refine Below.alloc ?_ (by simp) _ | refine Below.drew ?_))
     case hnews=>(intro j u hj;rw [Addr.add_lit];exact (cellsAt (heap_alloc_new wq (.cells #[.string mk.node,.string mk.idn,.string mk.name,.string mk.tag,.int .i64 mk.addr,.int .i64 mk.port,.bool mk.passing,.int .i64 mk.version,.bool mk.gone] 62)) (0+j)).trans (by simpa [Svc.cs] using hj))
     case h63=>(unfold maxLen;omega)
     case hbytes=>omega
     case hbase=>(simp;omega)
     intro v' w2 r1 r2 r3
     have HBX:Hid (Below (w.heap.size+1) W1 w2):=by
      have h0:Below (w.heap.size+1) W1 (wq.alloc (.cells #[.string mk.node,.string mk.idn,.string mk.name,.string mk.tag,.int .i64 mk.addr,.int .i64 mk.port,.bool mk.passing,.int .i64 mk.version,.bool mk.gone] 62)):=hblq.alloc (by omega) _
      exact h0.trans ((Below.refl _ _).grown (w:=wq.alloc (.cells #[.string mk.node,.string mk.idn,.string mk.name,.string mk.tag,.int .i64 mk.addr,.int .i64 mk.port,.bool mk.passing,.int .i64 mk.version,.bool mk.gone] 62)) ⟨r2.os,r2.tape,r2.output,r2.size,r2.block⟩ (by simp;omega) (fun j hj=>(HOq.out.lt j hj).1))
     have HOX:Hid (Own (w.heap.size+1) w2 v' (L++[mk])):=own_snoc (by first | exact r1 | (rw [List.length_append];exact r1))
     clear r1 r2 r3
     go_wp2_with fail
     exact ⟨⟨k+1,false,by omega,by go_num,rfl,⟨fun h=>(by cases h),fun h=>(by omega)⟩,HBX.out,(by rw [HOL.out];exact HOX.out)⟩,by simp [intOf];omega⟩
   ·have hbf:bb=false:=by
     cases bb
     ·rfl
     ·have:=hbb.out.1 rfl;omega
    subst hbf
    have hkp1:p≤k:=by omega
    have hkp2:k≤p:=by omega
    have HKP:Hid (k=p):=hkp
    clear hkp
    cases f
    ·obtain ⟨hO,hls⟩:=HNE.out HKP.out rfl
     have HOL:Hid (RL.outL ms m p q (k+1)=(RL.outL ms m p q k++[m])++[mk]):=hO
     have hne:=ord_ne (by omega:ord mk m≠0)
     have HDO:Hid (decide (ord mk m < 0)=false):=decide_eq_false (by omega)
     clear hO hls HLO HHI HEQ HNE hbb
     generalize RL.outL ms m p q k=L at *
     rcases hne with ⟨hne1,hne2⟩ | ⟨he1,he2,hne1,hne2⟩
     all_goals
      have hN:∀ d os,Calls Tryz.prog 109 #[.agg #[.string mk.node,.string mk.idn,.string mk.name,.string mk.tag,.int .i64 mk.addr,.int .i64 mk.port,.bool mk.passing,.int .i64 mk.version,.bool mk.gone],.agg #[.string m.node,.string m.idn,.string m.name,.string m.tag,.int .i64 m.addr,.int .i64 m.port,.bool m.passing,.int .i64 m.version,.bool m.gone]] (Go.Sort.grow (redrawn wr d) os) fun e w''=>e=.returned (.bool false)∧∃ p:Regrown,w''=Go.Sort.grow (redrawn wr p.d) p.os:=fun d os=>Calls.regrown_of ((ahead_any mk m _).mono (by rintro e w' ⟨rfl,h⟩;exact ⟨by rw [HDO.out],h⟩))
      have F0:∀ d os,(Go.Sort.grow (redrawn wr d) os).cell? ⟨b1,o1+k * 9,none⟩=some (.string mk.node):=cell_regrown ((hbc _ _ hl1).trans c0)
      have F1:∀ d os,(Go.Sort.grow (redrawn wr d) os).cell? ⟨b1,o1+k * 9+1,none⟩=some (.string mk.idn):=cell_regrown ((hbc _ _ hl1).trans c1)
      have F2:∀ d os,(Go.Sort.grow (redrawn wr d) os).cell? ⟨b1,o1+k * 9+2,none⟩=some (.string mk.name):=cell_regrown ((hbc _ _ hl1).trans c2)
      have F3:∀ d os,(Go.Sort.grow (redrawn wr d) os).cell? ⟨b1,o1+k * 9+3,none⟩=some (.string mk.tag):=cell_regrown ((hbc _ _ hl1).trans c3)
      have F4:∀ d os,(Go.Sort.grow (redrawn wr d) os).cell? ⟨b1,o1+k * 9+4,none⟩=some (.int .i64 mk.addr):=cell_regrown ((hbc _ _ hl1).trans c4)
      have F5:∀ d os,(Go.Sort.grow (redrawn wr d) os).cell? ⟨b1,o1+k * 9+5,none⟩=some (.int .i64 mk.port):=cell_regrown ((hbc _ _ hl1).trans c5)
      have F6:∀ d os,(Go.Sort.grow (redrawn wr d) os).cell? ⟨b1,o1+k * 9+6,none⟩=some (.bool mk.passing):=cell_regrown ((hbc _ _ hl1).trans c6)
      have F7:∀ d os,(Go.Sort.grow (redrawn wr d) os).cell? ⟨b1,o1+k * 9+7,none⟩=some (.int .i64 mk.version):=cell_regrown ((hbc _ _ hl1).trans c7)
      have F8:∀ d os,(Go.Sort.grow (redrawn wr d) os).cell? ⟨b1,o1+k * 9+8,none⟩=some (.bool mk.gone):=cell_regrown ((hbc _ _ hl1).trans c8)
      have G0:∀ d os,(Go.Sort.grow (redrawn wr d) os).cell? ⟨w.heap.size,0,none⟩=some (.string m.node):=cell_regrown ((hbc _ _ hw1).trans d0)
      have G1:∀ d os,(Go.Sort.grow (redrawn wr d) os).cell? ⟨w.heap.size,1,none⟩=some (.string m.idn):=cell_regrown ((hbc _ _ hw1).trans d1)
      have G2:∀ d os,(Go.Sort.grow (redrawn wr d) os).cell? ⟨w.heap.size,2,none⟩=some (.string m.name):=cell_regrown ((hbc _ _ hw1).trans d2)
      have G3:∀ d os,(Go.Sort.grow (redrawn wr d) os).cell? ⟨w.heap.size,3,none⟩=some (.string m.tag):=cell_regrown ((hbc _ _ hw1).trans d3)
      have G4:∀ d os,(Go.Sort.grow (redrawn wr d) os).cell? ⟨w.heap.size,4,none⟩=some (.int .i64 m.addr):=cell_regrown ((hbc _ _ hw1).trans d4)
      have G5:∀ d os,(Go.Sort.grow (redrawn wr d) os).cell? ⟨w.heap.size,5,none⟩=some (.int .i64 m.port):=cell_regrown ((hbc _ _ hw1).trans d5)
      have G6:∀ d os,(Go.Sort.grow (redrawn wr d) os).cell? ⟨w.heap.size,6,none⟩=some (.bool m.passing):=cell_regrown ((hbc _ _ hw1).trans d6)
      have G7:∀ d os,(Go.Sort.grow (redrawn wr d) os).cell? ⟨w.heap.size,7,none⟩=some (.int .i64 m.version):=cell_regrown ((hbc _ _ hw1).trans d7)
      have G8:∀ d os,(Go.Sort.grow (redrawn wr d) os).cell? ⟨w.heap.size,8,none⟩=some (.bool m.gone):=cell_regrown ((hbc _ _ hw1).trans d8)
      go_wp2_with fail
      refine wp_region_quiet_below (by kernel_rfl) (by kernel_rfl) ?_
      repeat (quiet_step (exact hN _ _))
      refine wpQuiet_nil ?_
      intro _ hw'
      obtain ⟨⟨dq,osq⟩,hw''⟩:=hw'
      subst hw''
      have HBQ:Hid (Below wr.heap.size wr (Go.Sort.grow (redrawn wr dq) osq)):=below_regrown wr dq osq
      clear hN F0 F1 F2 F3 F4 F5 F6 F7 F8 G0 G1 G2 G3 G4 G5 G6 G7 G8
      generalize Go.Sort.grow (redrawn wr dq) osq=wq at *
      have hblq:Below (w.heap.size+1) W1 wq:=hbl.trans (HBQ.out.mono (by omega))
      have HOq:Hid (Own (w.heap.size+1) wq u5 L):=HO.out.below HBQ.out
      have hbcq:∀ b o,b < w.heap.size+1→wq.cell? ⟨b,o,none⟩=W1.cell? ⟨b,o,none⟩:=fun b o h=>hblq.cell (p:=⟨b,o,none⟩) h
      have hszq:=hblq.size
      clear hbl hbc hsz HO HBQ
      go_wp2_with (at_builtin;refine wpList_append_own _ rfl _ _ 24 rfl (w.heap.size+1) 62 i0 _ 9 104 Tryz.underlying24 hi0 hz0 hzs hzb rfl (by omega) _ (L).length (fl (L)) rfl ?hown ⟨wq.heap.size,0,none⟩ 1 1 (m).cs rfl rfl ?hnews (cs_one _) ?h63 ?hbytes ?hbase ?_)
      case hown=>(refine HOq.out.below ?_;repeat (first | exact Below.refl _ _ | refine below_drewN ?_ _ | refine Below.alloc ?_ (by simp) _ | refine Below.drew ?_))
      case hnews=>(intro j u hj;rw [Addr.add_lit];exact (cellsAt (heap_alloc_new wq (.cells #[.string m.node,.string m.idn,.string m.name,.string m.tag,.int .i64 m.addr,.int .i64 m.port,.bool m.passing,.int .i64 m.version,.bool m.gone] 62)) (0+j)).trans (by simpa [Svc.cs] using hj))
      case h63=>(unfold maxLen;omega)
      case hbytes=>omega
      case hbase=>(simp;omega)
      intro v' w2 r1 r2 r3
      have HBX:Hid (Below (w.heap.size+1) W1 w2):=by
       have h0:Below (w.heap.size+1) W1 (wq.alloc (.cells #[.string m.node,.string m.idn,.string m.name,.string m.tag,.int .i64 m.addr,.int .i64 m.port,.bool m.passing,.int .i64 m.version,.bool m.gone] 62)):=hblq.alloc (by omega) _
       exact h0.trans ((Below.refl _ _).grown (w:=wq.alloc (.cells #[.string m.node,.string m.idn,.string m.name,.string m.tag,.int .i64 m.addr,.int .i64 m.port,.bool m.passing,.int .i64 m.version,.bool m.gone] 62)) ⟨r2.os,r2.tape,r2.output,r2.size,r2.block⟩ (by simp;omega) (fun j hj=>(HOq.out.lt j hj).1))
      have HOX:Hid (Own (w.heap.size+1) w2 v' (L++[m])):=own_snoc (by first | exact r1 | (rw [List.length_append];exact r1))
      clear r1 r2 r3
      have hbl2:=HBX.out
      have hbc2:∀ b o,b < w.heap.size+1→w2.cell? ⟨b,o,none⟩=W1.cell? ⟨b,o,none⟩:=fun b o h=>hbl2.cell (p:=⟨b,o,none⟩) h
      have hsz2:=hbl2.size
      clear hblq hbcq hszq HOq
      have hl2:(L++[m]).length≤2002:=by simp;omega
      go_wp2_with fail
      go_quiet (fail)
      go_wp2_with (at_builtin;refine wpList_append_own _ rfl _ _ 24 rfl (w.heap.size+1) 62 i0 _ 9 104 Tryz.underlying24 hi0 hz0 hzs hzb rfl (by omega) _ (L++[m]).length (fl (L++[m])) rfl ?hown ⟨w2.heap.size,0,none⟩ 1 1 (mk).cs rfl rfl ?hnews (cs_one _) ?h63 ?hbytes ?hbase ?_)
      case hown=>(refine HOX.out.below ?_;repeat (first | exact Below.refl _ _ | refine below_drewN ?_ _ | refine Below.alloc ?_ (by simp) _ | refine Below.drew ?_))
      case hnews=>(intro j u hj;rw [Addr.add_lit];exact (cellsAt (heap_alloc_new w2 (.cells #[.string mk.node,.string mk.idn,.string mk.name,.string mk.tag,.int .i64 mk.addr,.int .i64 mk.port,.bool mk.passing,.int .i64 mk.version,.bool mk.gone] 62)) (0+j)).trans (by simpa [Svc.cs] using hj))
      case h63=>(unfold maxLen;omega)
      case hbytes=>omega
      case hbase=>(simp;omega)
      clear HBX
      intro v' w3 r1 r2 r3
      have HBXY:Hid (Below (w.heap.size+1) W1 w3):=by
       have h0:Below (w.heap.size+1) W1 (w2.alloc (.cells #[.string mk.node,.string mk.idn,.string mk.name,.string mk.tag,.int .i64 mk.addr,.int .i64 mk.port,.bool mk.passing,.int .i64 mk.version,.bool mk.gone] 62)):=hbl2.alloc (by omega) _
       exact h0.trans ((Below.refl _ _).grown (w:=w2.alloc (.cells #[.string mk.node,.string mk.idn,.string mk.name,.string mk.tag,.int .i64 mk.addr,.int .i64 mk.port,.bool mk.passing,.int .i64 mk.version,.bool mk.gone] 62)) ⟨r2.os,r2.tape,r2.output,r2.size,r2.block⟩ (by simp;omega) (fun j hj=>(HOX.out.lt j hj).1))
      have HOXY:Hid (Own (w.heap.size+1) w3 v' ((L++[m])++[mk])):=own_snoc (by first | exact r1 | (rw [List.length_append];exact r1))
      clear r1 r2 r3
      go_wp2_with fail
      exact ⟨⟨k+1,true,by omega,by go_num,rfl,⟨fun _=>(by omega),fun _=>(rfl)⟩,HBXY.out,(by rw [HOL.out];exact HOXY.out)⟩,by simp [intOf];omega⟩
    ·obtain ⟨hO,hls⟩:=HEQ.out HKP.out rfl
     have HOL:Hid (RL.outL ms m p q (k+1)=RL.outL ms m p q k++[m]):=hO
     obtain ⟨he1,he2,he3,he4⟩:=ord_eq hls
     have HDO:Hid (decide (ord mk m < 0)=false):=decide_eq_false (by omega)
     clear hO hls HLO HHI HEQ HNE hbb
     generalize RL.outL ms m p q k=L at *
     have hN:∀ d os,Calls Tryz.prog 109 #[.agg #[.string mk.node,.string mk.idn,.string mk.name,.string mk.tag,.int .i64 mk.addr,.int .i64 mk.port,.bool mk.passing,.int .i64 mk.version,.bool mk.gone],.agg #[.string m.node,.string m.idn,.string m.name,.string m.tag,.int .i64 m.addr,.int .i64 m.port,.bool m.passing,.int .i64 m.version,.bool m.gone]] (Go.Sort.grow (redrawn wr d) os) fun e w''=>e=.returned (.bool false)∧∃ p:Regrown,w''=Go.Sort.grow (redrawn wr p.d) p.os:=fun d os=>Calls.regrown_of ((ahead_any mk m _).mono (by rintro e w' ⟨rfl,h⟩;exact ⟨by rw [HDO.out],h⟩))
     have F0:∀ d os,(Go.Sort.grow (redrawn wr d) os).cell? ⟨b1,o1+k * 9,none⟩=some (.string mk.node):=cell_regrown ((hbc _ _ hl1).trans c0)
     have F1:∀ d os,(Go.Sort.grow (redrawn wr d) os).cell? ⟨b1,o1+k * 9+1,none⟩=some (.string mk.idn):=cell_regrown ((hbc _ _ hl1).trans c1)
     have F2:∀ d os,(Go.Sort.grow (redrawn wr d) os).cell? ⟨b1,o1+k * 9+2,none⟩=some (.string mk.name):=cell_regrown ((hbc _ _ hl1).trans c2)
     have F3:∀ d os,(Go.Sort.grow (redrawn wr d) os).cell? ⟨b1,o1+k * 9+3,none⟩=some (.string mk.tag):=cell_regrown ((hbc _ _ hl1).trans c3)
     have F4:∀ d os,(Go.Sort.grow (redrawn wr d) os).cell? ⟨b1,o1+k * 9+4,none⟩=some (.int .i64 mk.addr):=cell_regrown ((hbc _ _ hl1).trans c4)
     have F5:∀ d os,(Go.Sort.grow (redrawn wr d) os).cell? ⟨b1,o1+k * 9+5,none⟩=some (.int .i64 mk.port):=cell_regrown ((hbc _ _ hl1).trans c5)
     have F6:∀ d os,(Go.Sort.grow (redrawn wr d) os).cell? ⟨b1,o1+k * 9+6,none⟩=some (.bool mk.passing):=cell_regrown ((hbc _ _ hl1).trans c6)
     have F7:∀ d os,(Go.Sort.grow (redrawn wr d) os).cell? ⟨b1,o1+k * 9+7,none⟩=some (.int .i64 mk.version):=cell_regrown ((hbc _ _ hl1).trans c7)
     have F8:∀ d os,(Go.Sort.grow (redrawn wr d) os).cell? ⟨b1,o1+k * 9+8,none⟩=some (.bool mk.gone):=cell_regrown ((hbc _ _ hl1).trans c8)
     have G0:∀ d os,(Go.Sort.grow (redrawn wr d) os).cell? ⟨w.heap.size,0,none⟩=some (.string m.node):=cell_regrown ((hbc _ _ hw1).trans d0)
     have G1:∀ d os,(Go.Sort.grow (redrawn wr d) os).cell? ⟨w.heap.size,1,none⟩=some (.string m.idn):=cell_regrown ((hbc _ _ hw1).trans d1)
     have G2:∀ d os,(Go.Sort.grow (redrawn wr d) os).cell? ⟨w.heap.size,2,none⟩=some (.string m.name):=cell_regrown ((hbc _ _ hw1).trans d2)
     have G3:∀ d os,(Go.Sort.grow (redrawn wr d) os).cell? ⟨w.heap.size,3,none⟩=some (.string m.tag):=cell_regrown ((hbc _ _ hw1).trans d3)
     have G4:∀ d os,(Go.Sort.grow (redrawn wr d) os).cell? ⟨w.heap.size,4,none⟩=some (.int .i64 m.addr):=cell_regrown ((hbc _ _ hw1).trans d4)
     have G5:∀ d os,(Go.Sort.grow (redrawn wr d) os).cell? ⟨w.heap.size,5,none⟩=some (.int .i64 m.port):=cell_regrown ((hbc _ _ hw1).trans d5)
     have G6:∀ d os,(Go.Sort.grow (redrawn wr d) os).cell? ⟨w.heap.size,6,none⟩=some (.bool m.passing):=cell_regrown ((hbc _ _ hw1).trans d6)
     have G7:∀ d os,(Go.Sort.grow (redrawn wr d) os).cell? ⟨w.heap.size,7,none⟩=some (.int .i64 m.version):=cell_regrown ((hbc _ _ hw1).trans d7)
     have G8:∀ d os,(Go.Sort.grow (redrawn wr d) os).cell? ⟨w.heap.size,8,none⟩=some (.bool m.gone):=cell_regrown ((hbc _ _ hw1).trans d8)
     go_wp2_with fail
     refine wp_region_quiet_below (by kernel_rfl) (by kernel_rfl) ?_
     repeat (quiet_step (exact hN _ _))
     refine wpQuiet_nil ?_
     intro _ hw'
     obtain ⟨⟨dq,osq⟩,hw''⟩:=hw'
     subst hw''
     have HBQ:Hid (Below wr.heap.size wr (Go.Sort.grow (redrawn wr dq) osq)):=below_regrown wr dq osq
     clear hN F0 F1 F2 F3 F4 F5 F6 F7 F8 G0 G1 G2 G3 G4 G5 G6 G7 G8
     generalize Go.Sort.grow (redrawn wr dq) osq=wq at *
     have hblq:Below (w.heap.size+1) W1 wq:=hbl.trans (HBQ.out.mono (by omega))
     have HOq:Hid (Own (w.heap.size+1) wq u5 L):=HO.out.below HBQ.out
     have hbcq:∀ b o,b < w.heap.size+1→wq.cell? ⟨b,o,none⟩=W1.cell? ⟨b,o,none⟩:=fun b o h=>hblq.cell (p:=⟨b,o,none⟩) h
     have hszq:=hblq.size
     clear hbl hbc hsz HO HBQ
     go_wp2_with (at_builtin;refine wpList_append_own _ rfl _ _ 24 rfl (w.heap.size+1) 62 i0 _ 9 104 Tryz.underlying24 hi0 hz0 hzs hzb rfl (by omega) _ (L).length (fl (L)) rfl ?hown ⟨wq.heap.size,0,none⟩ 1 1 (m).cs rfl rfl ?hnews (cs_one _) ?h63 ?hbytes ?hbase ?_)
     case hown=>(refine HOq.out.below ?_;repeat (first | exact Below.refl _ _ | refine below_drewN ?_ _ | refine Below.alloc ?_ (by simp) _ | refine Below.drew ?_))
     case hnews=>(intro j u hj;rw [Addr.add_lit];exact (cellsAt (heap_alloc_new wq (.cells #[.string m.node,.string m.idn,.string m.name,.string m.tag,.int .i64 m.addr,.int .i64 m.port,.bool m.passing,.int .i64 m.version,.bool m.gone] 62)) (0+j)).trans (by simpa [Svc.cs] using hj))
     case h63=>(unfold maxLen;omega)
     case hbytes=>omega
     case hbase=>(simp;omega)
     intro v' w2 r1 r2 r3
     have HBX:Hid (Below (w.heap.size+1) W1 w2):=by
      have h0:Below (w.heap.size+1) W1 (wq.alloc (.cells #[.string m.node,.string m.idn,.string m.name,.string m.tag,.int .i64 m.addr,.int .i64 m.port,.bool m.passing,.int .i64 m.version,.bool m.gone] 62)):=hblq.alloc (by omega) _
      exact h0.trans ((Below.refl _ _).grown (w:=wq.alloc (.cells #[.string m.node,.string m.idn,.string m.name,.string m.tag,.int .i64 m.addr,.int .i64 m.port,.bool m.passing,.int .i64 m.version,.bool m.gone] 62)) ⟨r2.os,r2.tape,r2.output,r2.size,r2.block⟩ (by simp;omega) (fun j hj=>(HOq.out.lt j hj).1))
     have HOX:Hid (Own (w.heap.size+1) w2 v' (L++[m])):=own_snoc (by first | exact r1 | (rw [List.length_append];exact r1))
     clear r1 r2 r3
     have hbl2:=HBX.out
     have hbc2:∀ b o,b < w.heap.size+1→w2.cell? ⟨b,o,none⟩=W1.cell? ⟨b,o,none⟩:=fun b o h=>hbl2.cell (p:=⟨b,o,none⟩) h
     have hsz2:=hbl2.size
     clear hblq hbcq hszq HOq
     go_wp2_with fail
     go_quiet (fail)
     go_wp2_with fail
     exact ⟨⟨k+1,true,by omega,by go_num,rfl,⟨fun _=>(by omega),fun _=>rfl⟩,below_drewN HBX.out _,(by rw [HOL.out];exact HOX.out.below (below_drewN (Below.refl _ _) _))⟩,by simp [intOf];omega⟩
   ·have hbf:bb=true:=hbb.out.2 hkp
    subst hbf
    obtain ⟨hO,hls⟩:=HHI.out hkp
    have HOL:Hid (RL.outL ms m p q (k+1)=RL.outL ms m p q k++[mk]):=hO
    have hne:=ord_ne (by omega:ord mk m≠0)
    clear hO hls HLO HHI HEQ HNE hbb
    generalize RL.outL ms m p q k=L at *
    rcases hne with ⟨hne1,hne2⟩ | ⟨he1,he2,hne1,hne2⟩
    all_goals
     go_wp2_with fail
     go_quiet (fail)
     go_wp2_with fail
     go_quiet (fail)
     go_wp2_with (at_builtin;refine wpList_append_own _ rfl _ _ 24 rfl (w.heap.size+1) 62 i0 _ 9 104 Tryz.underlying24 hi0 hz0 hzs hzb rfl (by omega) _ (L).length (fl (L)) rfl ?hown ⟨wr.heap.size,0,none⟩ 1 1 (mk).cs rfl rfl ?hnews (cs_one _) ?h63 ?hbytes ?hbase ?_)
     case hown=>(refine HO.out.below ?_;repeat (first | exact Below.refl _ _ | refine below_drewN ?_ _ | refine Below.alloc ?_ (by simp) _ | refine Below.drew ?_))
     case hnews=>(intro j u hj;rw [Addr.add_lit];exact (cellsAt (heap_alloc_new wr (.cells #[.string mk.node,.string mk.idn,.string mk.name,.string mk.tag,.int .i64 mk.addr,.int .i64 mk.port,.bool mk.passing,.int .i64 mk.version,.bool mk.gone] 62)) (0+j)).trans (by simpa [Svc.cs] using hj))
     case h63=>(unfold maxLen;omega)
     case hbytes=>omega
     case hbase=>(simp;omega)
     intro v' w2 r1 r2 r3
     have HBX:Hid (Below (w.heap.size+1) W1 w2):=by
      have h0:Below (w.heap.size+1) W1 (wr.alloc (.cells #[.string mk.node,.string mk.idn,.string mk.name,.string mk.tag,.int .i64 mk.addr,.int .i64 mk.port,.bool mk.passing,.int .i64 mk.version,.bool mk.gone] 62)):=hbl.alloc (by omega) _
      exact h0.trans ((Below.refl _ _).grown (w:=wr.alloc (.cells #[.string mk.node,.string mk.idn,.string mk.name,.string mk.tag,.int .i64 mk.addr,.int .i64 mk.port,.bool mk.passing,.int .i64 mk.version,.bool mk.gone] 62)) ⟨r2.os,r2.tape,r2.output,r2.size,r2.block⟩ (by simp;omega) (fun j hj=>(HO.out.lt j hj).1))
     have HOX:Hid (Own (w.heap.size+1) w2 v' (L++[mk])):=own_snoc (by first | exact r1 | (rw [List.length_append];exact r1))
     clear r1 r2 r3
     go_wp2_with fail
     exact ⟨⟨k+1,true,by omega,by go_num,rfl,⟨fun _=>(by omega),fun _=>(rfl)⟩,HBX.out,(by rw [HOL.out];exact HOX.out)⟩,by simp [intOf];omega⟩
  ·have hkn:k=n:=by omega
   subst hkn
   have HBX:Hid (Below w.heap.size w wr):=hb01.out.trans (hbl.mono (by omega))
   by_cases hpk:p < k
   ·have hbf:bb=true:=hbb.out.2 hpk
    subst hbf
    have HFO:Hid (Own (w.heap.size+1) wr u5 (RL.put ms m p f)):=by
     have h:=HO.out
     rw [HPUT.out hpk] at h
     exact h
    clear HO hlen2
    go_wp2_with fail
    go_ret
    exact ⟨u5,rfl,HFO.out,HBX.out⟩
   ·have hbf:bb=false:=by
     cases bb
     ·rfl
     ·have:=hbb.out.1 rfl;omega
    subst hbf
    obtain ⟨hf,hput⟩:=HLAST.out (by omega)
    have HPL:Hid (RL.outL ms m p q k++[m]=RL.put ms m p f):=hput
    clear hput HPUT HLAST
    generalize RL.outL ms m p q k=L at *
    go_wp2_with (at_builtin;refine wpList_append_own _ rfl _ _ 24 rfl (w.heap.size+1) 62 i0 _ 9 104 Tryz.underlying24 hi0 hz0 hzs hzb rfl (by omega) _ (L).length (fl (L)) rfl ?hown ⟨wr.heap.size,0,none⟩ 1 1 (m).cs rfl rfl ?hnews (cs_one _) ?h63 ?hbytes ?hbase ?_)
    case hown=>(refine HO.out.below ?_;repeat (first | exact Below.refl _ _ | refine below_drewN ?_ _ | refine Below.alloc ?_ (by simp) _ | refine Below.drew ?_))
    case hnews=>(intro j u hj;rw [Addr.add_lit];exact (cellsAt (heap_alloc_new wr (.cells #[.string m.node,.string m.idn,.string m.name,.string m.tag,.int .i64 m.addr,.int .i64 m.port,.bool m.passing,.int .i64 m.version,.bool m.gone] 62)) (0+j)).trans (by simpa [Svc.cs] using hj))
    case h63=>(unfold maxLen;omega)
    case hbytes=>omega
    case hbase=>(simp;omega)
    intro v' w2 r1 r2 r3
    have HBY:Hid (Below w.heap.size w w2):=by
     have h0:Below (w.heap.size+1) W1 (wr.alloc (.cells #[.string m.node,.string m.idn,.string m.name,.string m.tag,.int .i64 m.addr,.int .i64 m.port,.bool m.passing,.int .i64 m.version,.bool m.gone] 62)):=hbl.alloc (by omega) _
     have h1:Below (w.heap.size+1) W1 w2:=h0.trans ((Below.refl _ _).grown (w:=wr.alloc (.cells #[.string m.node,.string m.idn,.string m.name,.string m.tag,.int .i64 m.addr,.int .i64 m.port,.bool m.passing,.int .i64 m.version,.bool m.gone] 62)) ⟨r2.os,r2.tape,r2.output,r2.size,r2.block⟩ (by simp;omega) (fun j hj=>(HO.out.lt j hj).1))
     exact hb01.out.trans (h1.mono (by omega))
    have HFO:Hid (Own (w.heap.size+1) w2 v' (RL.put ms m p f)):=by rw [← HPL.out];exact own_snoc r1
    clear r1 r2 r3
    go_wp2_with fail
    go_ret
    exact ⟨v',rfl,HFO.out,HBY.out⟩
end Sv
namespace Sv
open Go.RowKit
set_option maxHeartbeats 1600000 in
theorem newerR_vars (f:Nat) (hf:f=93) (a_node:ByteArray) (a_idn:ByteArray) (a_name:ByteArray) (a_tag:ByteArray) (a_addr:Int) (a_port:Int) (a_passing:Bool) (a_version:Int) (a_gone:Bool) (b_node:ByteArray) (b_idn:ByteArray) (b_name:ByteArray) (b_tag:ByteArray) (b_addr:Int) (b_port:Int) (b_passing:Bool) (b_version:Int) (b_gone:Bool) (w:World) :
 Calls Tryz.prog f #[.agg #[.string a_node,.string a_idn,.string a_name,.string a_tag,.int .i64 a_addr,.int .i64 a_port,.bool a_passing,.int .i64 a_version,.bool a_gone],.agg #[.string b_node,.string b_idn,.string b_name,.string b_tag,.int .i64 b_addr,.int .i64 b_port,.bool b_passing,.int .i64 b_version,.bool b_gone]] w fun e w'=>e=.returned (.bool (newE ⟨a_node,a_idn,a_name,a_tag,a_addr,a_port,a_passing,a_version,a_gone⟩ ⟨b_node,b_idn,b_name,b_tag,b_addr,b_port,b_passing,b_version,b_gone⟩))∧Below w.heap.size w w':=by
 subst hf
 have hB:Hid (Below w.heap.size w ((w.alloc (.cells #[.string a_node,.string a_idn,.string a_name,.string a_tag,.int .i64 a_addr,.int .i64 a_port,.bool a_passing,.int .i64 a_version,.bool a_gone] 62)).alloc (.cells #[.string b_node,.string b_idn,.string b_name,.string b_tag,.int .i64 b_addr,.int .i64 b_port,.bool b_passing,.int .i64 b_version,.bool b_gone] 62))):=((Below.refl _ _).alloc (Nat.le_refl _) _).alloc (by simp) _
 by_cases h1:a_version=b_version
 ·subst h1
  by_cases h2:a_gone=b_gone
  ·subst h2
   by_cases h3:a_name=b_name
   ·subst h3
    by_cases h4:a_tag=b_tag
    ·subst h4
     by_cases h5:a_addr=b_addr
     ·subst h5
      by_cases h6:a_port=b_port
      ·subst h6
       cases a_passing
       all_goals
        go_enter Tryz.func93,Tryz.ntmps93
        go_wp2
        go_ret
        exact ⟨ret_bool (by rw [newE_def];simp),hB.out⟩
      ·have h6':(a_port != b_port)=true:=by simpa using h6
       go_enter Tryz.func93,Tryz.ntmps93
       go_wp2
       go_ret
       exact ⟨ret_bool (by rw [newE_def];simp [h6]),hB.out⟩
     ·have h5':(a_addr != b_addr)=true:=by simpa using h5
      go_enter Tryz.func93,Tryz.ntmps93
      go_wp2
      go_ret
      exact ⟨ret_bool (by rw [newE_def];simp [h5]),hB.out⟩
    ·obtain ⟨g1,g2⟩:=beq_name h4
     have H4:Hid (¬ a_tag=b_tag):=h4
     clear h4
     go_enter Tryz.func93,Tryz.ntmps93
     go_wp2
     go_ret
     exact ⟨ret_bool (by rw [newE_def];simp [H4.out,less];exact less_not H4.out),hB.out⟩
   ·obtain ⟨g1,g2⟩:=beq_name h3
    have H3:Hid (¬ a_name=b_name):=h3
    clear h3
    go_enter Tryz.func93,Tryz.ntmps93
    go_wp2
    go_ret
    exact ⟨ret_bool (by rw [newE_def];simp [H3.out,less];exact less_not H3.out),hB.out⟩
  ·have hg:b_gone = !a_gone:=by cases a_gone<;>cases b_gone<;>simp at h2 ⊢
   subst hg
   clear h2
   cases a_gone
   all_goals
    go_enter Tryz.func93,Tryz.ntmps93
    go_wp2
    go_ret
    exact ⟨ret_bool (by rw [newE_def];simp),hB.out⟩
 ·have h1':(a_version != b_version)=true:=by simpa using h1
  go_enter Tryz.func93,Tryz.ntmps93
  go_wp2
  go_ret
  exact ⟨ret_bool (by rw [newE_def];simp [h1]),hB.out⟩
theorem newerR_any (a b:Svc) (w:World) :
 Calls Tryz.prog 93 #[.agg #[.string a.node,.string a.idn,.string a.name,.string a.tag,.int .i64 a.addr,.int .i64 a.port,.bool a.passing,.int .i64 a.version,.bool a.gone],.agg #[.string b.node,.string b.idn,.string b.name,.string b.tag,.int .i64 b.addr,.int .i64 b.port,.bool b.passing,.int .i64 b.version,.bool b.gone]] w fun e w'=>e=.returned (.bool (newE a b))∧Below w.heap.size w w':=
 newerR_vars _ rfl a.node a.idn a.name a.tag a.addr a.port a.passing a.version a.gone b.node b.idn b.name b.tag b.addr b.port b.passing b.version b.gone w
def AtI (ms:List Svc) (node idn:ByteArray) (r:Int):Prop:=
 (∃ k:Nat,k < ms.length∧r=k∧(ms.getD k dm).node=node∧(ms.getD k dm).idn=idn)∨(r = -1∧∀ j,j < ms.length→¬ ((ms.getD j dm).node=node∧(ms.getD j dm).idn=idn))
set_option maxHeartbeats 800000 in
theorem refAt_any (ms:List Svc) (v:Value) (node idn:ByteArray) (w:World) (hv:Sl w v ms) (hn:ms.length≤1000000) :
 Calls Tryz.prog 92 #[v,.string node,.string idn] w fun e w'=>∃ r:Int,e=.returned (.int .i64 r)∧Hid (AtI ms node idn r)∧w'=w:=by
 obtain ⟨pa,ca,rfl,_,ha⟩:=hv
 have HA:Hid (ms=[]∨∃ b off,pa=some ⟨b,off,none⟩∧b < w.heap.size∧Row w b off ms):=ha
 clear ha
 generalize hna:ms.length=n at *
 have HN:Hid (ms.length=n):=hna
 clear hna
 go_enter Tryz.func92,Tryz.ntmps92
 go_wp2_with fail
 go_loop [7] (fun i=>∃ k:Nat,k≤n∧i=.int .i64 k∧Hid (∀ j,j < k→¬ ((ms.getD j dm).node=node∧(ms.getD j dm).idn=idn))) (fun i=>n - (intOf i).toNat)
 case atStart=>exact ⟨0,Nat.zero_le _,rfl,fun j h=>absurd h (Nat.not_lt_zero _)⟩
 case round=>
  obtain ⟨k,hk,rfl,hz⟩:=hrel
  by_cases hlt:k < n
  ·obtain ⟨b1,o1,hp1,hl1,hr1⟩:∃ b off,pa=some ⟨b,off,none⟩∧b < w.heap.size∧Row w b off ms:=by
    rcases HA.out with h | h
    ·have:=HN.out;rw [h] at this;simp at this;omega
    ·exact h
   subst hp1
   obtain ⟨c0,c1,c2,c3,c4,c5,c6,c7,c8⟩:=hr1 k (by rw [HN.out];exact hlt)
   clear hr1
   have HF:Hid ((ms.getD k dm).node=node→(ms.getD k dm).idn=idn→AtI ms node idn (k:Int)):=fun h h2=>.inl ⟨k,by rw [HN.out];exact hlt,rfl,h,h2⟩
   have HZ:Hid (¬ ((ms.getD k dm).node=node∧(ms.getD k dm).idn=idn)→∀ j,j < k+1→¬ ((ms.getD j dm).node=node∧(ms.getD j dm).idn=idn)):=fun h j hj=>by
    rcases Nat.lt_succ_iff_lt_or_eq.1 hj with h2 | rfl
    ·exact hz.out j h2
    ·exact h
   generalize ms.getD k dm=m at *
   obtain ⟨mn,mi,m2,m3,m4,m5,m6,m7,m8⟩:=m
   simp only at c0 c1
   by_cases he:mn=node
   ·subst he
    by_cases he2:mi=idn
    ·subst he2
     have HF2:Hid (AtI ms mn mi (k:Int)):=HF.out rfl rfl
     clear HF HZ
     go_wp2_with fail
     go_ret
     exact ⟨k,rfl,HF2,rfl⟩
    ·obtain ⟨h1,h2⟩:=beq_name he2
     have HE:Hid (¬ mi=idn):=he2
     clear he2
     go_wp2_with fail
     go_round
     case rel=>exact ⟨k+1,by omega,by go_num,HZ.out (fun h=>HE.out h.2)⟩
     case measure=>simp [intOf];omega
   ·obtain ⟨h1,h2⟩:=beq_name he
    have HE:Hid (¬ mn=node):=he
    clear he
    go_wp2_with fail
    go_round
    case rel=>exact ⟨k+1,by omega,by go_num,HZ.out (fun h=>HE.out h.1)⟩
    case measure=>simp [intOf];omega
  ·go_wp2_with fail
   go_ret
   exact ⟨-1,rfl,.inr ⟨rfl,fun j hj=>hz.out j (by have:=HN.out;omega)⟩,rfl⟩
theorem ord_zero {a b:Svc}:ord a b=0↔a.node=b.node∧a.idn=b.idn:=by
 constructor
 ·intro h
  obtain ⟨h1,h2⟩:=RL.lex_zero h
  exact ⟨(cmpI_eq _ _).1 h1,(cmpI_eq _ _).1 h2⟩
 ·rintro ⟨h1,h2⟩
  show (if cmpI a.node b.node=0 then cmpI a.idn b.idn else cmpI a.node b.node)=0
  rw [if_pos ((cmpI_eq _ _).2 h1)];exact (cmpI_eq _ _).2 h2
theorem atI_at {ms:List Svc} {t:Svc} {r:Int} {p:Nat} {f:Bool} (hi:AtI ms t.node t.idn r) (ha:At ms t p f) (hr:Rise ms):(f=true→r=p)∧(f=false→r = -1):=by
 rcases hi with ⟨k,hk,rfl,hn⟩ | ⟨rfl,hn⟩
 ·obtain ⟨rfl,rfl⟩:=at_uniq ha (RL.at_of ord dm keyed hr hk (ord_zero.2 hn))
  exact ⟨fun _=>rfl,fun h=>by cases h⟩
 ·refine ⟨fun h=>?_,fun _=>rfl⟩
  have:=ha.is.1 h
  exact absurd (ord_zero.1 this.2) (hn p this.1)
def atV (p:Nat) (f:Bool):Int:=if f=true then (p:Int) else -1
theorem refAtV (ms:List Svc) (v:Value) (t:Svc) (w:World) (hv:Sl w v ms) (hn:ms.length≤1000000) (hr:Rise ms) (p:Nat) (f:Bool) (ha:At ms t p f) :
 Calls Tryz.prog 92 #[v,.string t.node,.string t.idn] w fun e w'=>e=.returned (.int .i64 (atV p f))∧Below w.heap.size w w':=by
 refine (refAt_any ms v t.node t.idn w hv hn).mono ?_
 rintro e w' ⟨r,rfl,hI,rfl⟩
 have h:=atI_at hI.out ha hr
 refine ⟨?_,Below.refl _ _⟩
 cases f
 ·rw [h.2 rfl];rfl
 ·rw [h.1 rfl];rfl
theorem put_hear {ms:List Svc} {m:Svc} {p:Nat} {f:Bool} (h:At ms m p f) (hn:f=true→newE m (ms.getD p dm)=true):RL.put ms m p f=hearL ms m:=(RL.hear_put ord newE dm h hn).symm
theorem hearL_old {ms:List Svc} {m:Svc} {p:Nat} (h:At ms m p true) (hn:newE m (ms.getD p dm)=false):hearL ms m=ms:=by
 rw [hearL_at ms m p true h,if_pos rfl,if_neg (by rw [hn];exact Bool.false_ne_true)]
set_option maxHeartbeats 6400000 in
set_option maxRecDepth 100000 in
theorem refJoin_any (a b:List Svc) (va vb:Value) (w:World) (ha:Sl w va a) (hb:Sl w vb b) (hla:a.length≤100) (hlb:b.length≤100) (hr:Rise a) :
 Calls Tryz.prog 70 #[va,vb] w fun e w'=>∃ v',e=.returned v'∧Hid (Sl w' v' (joinL a b))∧Below w.heap.size w w':=by
 obtain ⟨pv,cb,rfl,nsb,hb⟩:=hb
 have HA:Hid (Sl w va a):=ha
 have HB:Hid (b=[]∨∃ b_1 off,pv=some ⟨b_1,off,none⟩∧b_1 < w.heap.size∧Row w b_1 off b):=hb
 have NA:Hid (∀ m∈a,m.ok):=sl_ok ha
 have NB:Hid (∀ m∈b,m.ok):=ns_mem nsb
 have RA:Hid (Rise a):=hr
 clear ha hb nsb hr
 generalize hnb:b.length=nb at *
 have HNB:Hid (b.length=nb):=hnb
 clear hnb
 go_enter Tryz.func70,Tryz.ntmps70
 go_wp2_with fail
 go_loopw [0,5] (fun kn i w'=>∃ k:Nat,k≤nb∧i=.int .i64 k∧Below w.heap.size w w'∧Hid (Sl w' kn (joinL a (b.take k)))) (fun _ i _=>nb - (intOf i).toNat)
 case atStart=>exact ⟨0,Nat.zero_le _,rfl,Below.refl _ _,HA⟩
 case round=>
  obtain ⟨k,hk,rfl,hbl,HO⟩:=hrel
  obtain ⟨hbc,hbf⟩:=bcell hbl
  have hsz:=hbl.size
  by_cases hlt:k < nb
  ·obtain ⟨b2,o2,hp2,hl2,hr2⟩:∃ b_1 off,pv=some ⟨b_1,off,none⟩∧b_1 < w.heap.size∧Row w b_1 off b:=by
    rcases HB.out with h | h
    ·have:=HNB.out;rw [h] at this;simp at this;omega
    ·exact h
   subst hp2
   obtain ⟨c0,c1,c2,c3,c4,c5,c6,c7,c8⟩:=hr2 k (by rw [HNB.out];exact hlt)
   clear hr2
   have HJ:Hid (joinL a (b.take (k+1))=hearL (joinL a (b.take k)) (b.getD k dm)):=joinL_take a b k (by rw [HNB.out];exact hlt)
   have HR:Hid (Rise (joinL a (b.take k))):=joinL_rise _ _ RA.out
   have HL:Hid ((joinL a (b.take k)).length≤1000):=by
    have h1:=joinL_len (b.take k) a
    have h2:(b.take k).length≤k:=List.length_take_le _ _
    show (joinL a (b.take k)).length≤1000
    omega
   have HM:Hid ((b.getD k dm).ok):=ns_get NB.out k
   have HNJ:Hid (∀ m∈joinL a (b.take k),m.ok):=ns_join _ _ NA.out (fun x hx=>NB.out x (List.mem_of_mem_take hx))
   generalize b.getD k dm=m at *
   generalize joinL a (b.take k)=known at *
   obtain ⟨p,f,hat⟩:=at_any known HR.out m
   have HAT:Hid (At known m p f):=hat
   have hpn:=hat.le
   clear hat
   have hkl:=HL.out
   have HP:Hid (∀ W v',Sl W v' known→Calls Tryz.prog 128 #[v',.agg #[.string m.node,.string m.idn,.string m.name,.string m.tag,.int .i64 m.addr,.int .i64 m.port,.bool m.passing,.int .i64 m.version,.bool m.gone]] W fun e w'=>∃ v2,e=.returned v2∧Own (W.heap.size+1) w' v2 (RL.put known m p f)∧Below W.heap.size W w'):=fun W v' hs=>refPut_any known v' m W hs HL.out HR.out p f HAT.out
   have hAtV:∀ d os,Calls Tryz.prog 92 #[u0,.string m.node,.string m.idn] (Go.Sort.grow (redrawn wr d) os) fun e w''=>e=.returned (.int .i64 (atV p f))∧∃ p:Regrown,w''=Go.Sort.grow (redrawn wr p.d) p.os:=fun d os=>Calls.regrown_of (refAtV known u0 m _ (HO.out.below (below_regrown wr d os)) (by omega) HR.out p f HAT.out)
   have E0:∀ d os,(Go.Sort.grow (redrawn wr d) os).cell? ⟨b2,o2+k * 9,none⟩=some (.string m.node):=cell_regrown ((hbc _ _ hl2).trans c0)
   have E1:∀ d os,(Go.Sort.grow (redrawn wr d) os).cell? ⟨b2,o2+k * 9+1,none⟩=some (.string m.idn):=cell_regrown ((hbc _ _ hl2).trans c1)
   have HCC:Hid (w.cell? ⟨b2,o2+k * 9,none⟩=some (.string m.node)∧w.cell? ⟨b2,o2+k * 9+1,none⟩=some (.string m.idn)∧w.cell? ⟨b2,o2+k * 9+2,none⟩=some (.string m.name)∧w.cell? ⟨b2,o2+k * 9+3,none⟩=some (.string m.tag)∧w.cell? ⟨b2,o2+k * 9+4,none⟩=some (.int .i64 m.addr)∧w.cell? ⟨b2,o2+k * 9+5,none⟩=some (.int .i64 m.port)∧w.cell? ⟨b2,o2+k * 9+6,none⟩=some (.bool m.passing)∧w.cell? ⟨b2,o2+k * 9+7,none⟩=some (.int .i64 m.version)∧w.cell? ⟨b2,o2+k * 9+8,none⟩=some (.bool m.gone)):=⟨c0,c1,c2,c3,c4,c5,c6,c7,c8⟩
   clear c0 c1 c2 c3 c4 c5 c6 c7 c8 hbc hbf
   go_wp2_with fail
   refine wp_region_quiet_below (by kernel_rfl) (by kernel_rfl) ?_
   repeat (quiet_step (exact hAtV _ _))
   refine wpQuiet_nil ?_
   intro _ hw'
   obtain ⟨⟨dq,osq⟩,hw''⟩:=hw'
   subst hw''
   have HBQ:Hid (Below wr.heap.size wr (Go.Sort.grow (redrawn wr dq) osq)):=below_regrown wr dq osq
   clear hAtV E0 E1
   generalize Go.Sort.grow (redrawn wr dq) osq=wq at *
   have hblq:Below w.heap.size w wq:=hbl.trans (HBQ.out.mono hsz)
   have HOq:Hid (Sl wq u0 known):=HO.out.below HBQ.out
   obtain ⟨hbcq,_⟩:=bcell hblq
   have hszq:=hblq.size
   clear hbl hsz HO HBQ
   obtain ⟨c0,c1,c2,c3,c4,c5,c6,c7,c8⟩:=HCC.out
   cases f
   ·have hv:atV p false = -1:=rfl
    rw [hv]
    have HST:Hid (RL.put known m p false=hearL known m):=put_hear HAT.out (fun h=>by cases h)
    clear hv
    go_wp2_with fail
    go_quiet (fail)
    have HQ:Hid (Below wq.heap.size wq (wq.drewN nq)):=below_drewN (Below.refl _ _) _
    have HSQ:Hid (Sl (wq.drewN nq) u0 known):=HOq.out.below HQ.out
    go_wp2_with fail
    refine (HP.out (wq.drewN nq) u0 HSQ.out).mono ?_
    rintro e w2 ⟨v2,rfl,g1,g2⟩
    have HBX:Hid (Below w.heap.size w w2):=(hblq.trans (HQ.out.mono hszq)).trans (g2.mono hszq)
    have HOX:Hid (Sl w2 v2 (hearL known m)):=by rw [← HST.out];exact own_names g1 (by rw [HST.out];exact ns_hear HNJ.out HM.out)
    clear g1 g2 HQ HSQ
    go_wp2_with fail
    exact ⟨⟨k+1,by omega,by go_num,HBX.out,by rw [HJ.out];exact HOX.out⟩,by simp [intOf];omega⟩
   ·have hv:atV p true=(p:Int):=rfl
    rw [hv]
    clear hv
    have hp:p < known.length:=(HAT.out.is.1 rfl).1
    obtain ⟨pa,ca,hva,_,hrow⟩:=HOq.out
    subst hva
    have b0:decide ((p:Int) < 0)=false:=decide_eq_false (by omega)
    obtain ⟨b3,o3,hp3,hl3,hr3⟩:∃ b_1 off,pa=some ⟨b_1,off,none⟩∧b_1 < wq.heap.size∧Row wq b_1 off known:=by
     rcases hrow with h | h
     ·rw [h] at hp;simp at hp
     ·exact h
    subst hp3
    obtain ⟨d0,d1,d2,d3,d4,d5,d6,d7,d8⟩:=hr3 p hp
    clear hr3 hrow
    generalize hx:known.getD p dm=x at *
    have HX:Hid (known.getD p dm=x):=hx
    clear hx
    have F0:∀ d os,(Go.Sort.grow (redrawn wq d) os).cell? ⟨b2,o2+k * 9,none⟩=some (.string m.node):=cell_regrown ((hbcq _ _ hl2).trans c0)
    have F1:∀ d os,(Go.Sort.grow (redrawn wq d) os).cell? ⟨b2,o2+k * 9+1,none⟩=some (.string m.idn):=cell_regrown ((hbcq _ _ hl2).trans c1)
    have F2:∀ d os,(Go.Sort.grow (redrawn wq d) os).cell? ⟨b2,o2+k * 9+2,none⟩=some (.string m.name):=cell_regrown ((hbcq _ _ hl2).trans c2)
    have F3:∀ d os,(Go.Sort.grow (redrawn wq d) os).cell? ⟨b2,o2+k * 9+3,none⟩=some (.string m.tag):=cell_regrown ((hbcq _ _ hl2).trans c3)
    have F4:∀ d os,(Go.Sort.grow (redrawn wq d) os).cell? ⟨b2,o2+k * 9+4,none⟩=some (.int .i64 m.addr):=cell_regrown ((hbcq _ _ hl2).trans c4)
    have F5:∀ d os,(Go.Sort.grow (redrawn wq d) os).cell? ⟨b2,o2+k * 9+5,none⟩=some (.int .i64 m.port):=cell_regrown ((hbcq _ _ hl2).trans c5)
    have F6:∀ d os,(Go.Sort.grow (redrawn wq d) os).cell? ⟨b2,o2+k * 9+6,none⟩=some (.bool m.passing):=cell_regrown ((hbcq _ _ hl2).trans c6)
    have F7:∀ d os,(Go.Sort.grow (redrawn wq d) os).cell? ⟨b2,o2+k * 9+7,none⟩=some (.int .i64 m.version):=cell_regrown ((hbcq _ _ hl2).trans c7)
    have F8:∀ d os,(Go.Sort.grow (redrawn wq d) os).cell? ⟨b2,o2+k * 9+8,none⟩=some (.bool m.gone):=cell_regrown ((hbcq _ _ hl2).trans c8)
    have G0:∀ d os,(Go.Sort.grow (redrawn wq d) os).cell? ⟨b3,o3+p * 9,none⟩=some (.string x.node):=cell_regrown d0
    have G1:∀ d os,(Go.Sort.grow (redrawn wq d) os).cell? ⟨b3,o3+p * 9+1,none⟩=some (.string x.idn):=cell_regrown d1
    have G2:∀ d os,(Go.Sort.grow (redrawn wq d) os).cell? ⟨b3,o3+p * 9+2,none⟩=some (.string x.name):=cell_regrown d2
    have G3:∀ d os,(Go.Sort.grow (redrawn wq d) os).cell? ⟨b3,o3+p * 9+3,none⟩=some (.string x.tag):=cell_regrown d3
    have G4:∀ d os,(Go.Sort.grow (redrawn wq d) os).cell? ⟨b3,o3+p * 9+4,none⟩=some (.int .i64 x.addr):=cell_regrown d4
    have G5:∀ d os,(Go.Sort.grow (redrawn wq d) os).cell? ⟨b3,o3+p * 9+5,none⟩=some (.int .i64 x.port):=cell_regrown d5
    have G6:∀ d os,(Go.Sort.grow (redrawn wq d) os).cell? ⟨b3,o3+p * 9+6,none⟩=some (.bool x.passing):=cell_regrown d6
    have G7:∀ d os,(Go.Sort.grow (redrawn wq d) os).cell? ⟨b3,o3+p * 9+7,none⟩=some (.int .i64 x.version):=cell_regrown d7
    have G8:∀ d os,(Go.Sort.grow (redrawn wq d) os).cell? ⟨b3,o3+p * 9+8,none⟩=some (.bool x.gone):=cell_regrown d8
    have hN:∀ d os,Calls Tryz.prog 93 #[.agg #[.string m.node,.string m.idn,.string m.name,.string m.tag,.int .i64 m.addr,.int .i64 m.port,.bool m.passing,.int .i64 m.version,.bool m.gone],.agg #[.string x.node,.string x.idn,.string x.name,.string x.tag,.int .i64 x.addr,.int .i64 x.port,.bool x.passing,.int .i64 x.version,.bool x.gone]] (Go.Sort.grow (redrawn wq d) os) fun e w''=>e=.returned (.bool (newE m x))∧∃ p:Regrown,w''=Go.Sort.grow (redrawn wq p.d) p.os:=fun d os=>Calls.regrown_of (newerR_any m x _)
    clear c0 c1 c2 c3 c4 c5 c6 c7 c8 d0 d1 d2 d3 d4 d5 d6 d7 d8
    rcases hnw:newE m x with _ | _
    ·have HST:Hid (hearL known m=known):=hearL_old HAT.out (by rw [HX.out];exact hnw)
     rw [hnw] at hN
     clear hnw
     go_wp2_with fail
     refine wp_region_quiet_below (by kernel_rfl) (by kernel_rfl) ?_
     repeat (quiet_step (exact hN _ _))
     refine wpQuiet_nil ?_
     intro _ hw'
     obtain ⟨⟨dq,osq⟩,hw''⟩:=hw'
     subst hw''
     have HBQ:Hid (Below wq.heap.size wq (Go.Sort.grow (redrawn wq dq) osq)):=below_regrown wq dq osq
     clear hN F0 F1 F2 F3 F4 F5 F6 F7 F8 G0 G1 G2 G3 G4 G5 G6 G7 G8
     go_wp2_with fail
     exact ⟨⟨k+1,by omega,by go_num,hblq.trans (HBQ.out.mono hszq),by rw [HJ.out,HST.out];exact HOq.out.below HBQ.out⟩,by simp [intOf];omega⟩
    ·have HST:Hid (RL.put known m p true=hearL known m):=put_hear HAT.out (fun _=>by rw [HX.out];exact hnw)
     rw [hnw] at hN
     clear hnw
     go_wp2_with fail
     refine wp_region_quiet_below (by kernel_rfl) (by kernel_rfl) ?_
     repeat (quiet_step (exact hN _ _))
     refine wpQuiet_nil ?_
     intro _ hw'
     obtain ⟨⟨dq,osq⟩,hw''⟩:=hw'
     subst hw''
     have HBQ:Hid (Below wq.heap.size wq (Go.Sort.grow (redrawn wq dq) osq)):=below_regrown wq dq osq
     clear hN F0 F1 F2 F3 F4 F5 F6 F7 F8 G0 G1 G2 G3 G4 G5 G6 G7 G8
     generalize Go.Sort.grow (redrawn wq dq) osq=wz at *
     have HSQ:Hid (Sl wz (.slice (some ⟨b3,o3,none⟩) known.length ca) known):=HOq.out.below HBQ.out
     have hblz:Below w.heap.size w wz:=hblq.trans (HBQ.out.mono hszq)
     obtain ⟨hbcz,_⟩:=bcell hblz
     have hszz:=hblz.size
     obtain ⟨c0,c1,c2,c3,c4,c5,c6,c7,c8⟩:=HCC.out
     clear hblq hbcq hszq HOq HBQ
     go_wp2_with fail
     refine (HP.out wz (.slice (some ⟨b3,o3,none⟩) known.length ca) HSQ.out).mono ?_
     rintro e w2 ⟨v2,rfl,g1,g2⟩
     have HBX:Hid (Below w.heap.size w w2):=hblz.trans (g2.mono hszz)
     have HOX:Hid (Sl w2 v2 (hearL known m)):=by rw [← HST.out];exact own_names g1 (by rw [HST.out];exact ns_hear HNJ.out HM.out)
     clear g1 g2 HSQ
     go_wp2_with fail
     exact ⟨⟨k+1,by omega,by go_num,HBX.out,by rw [HJ.out];exact HOX.out⟩,by simp [intOf];omega⟩
  ·have HF:Hid (Sl wr u0 (joinL a b)):=by
    have h:=HO.out
    rw [List.take_of_length_le (by rw [HNB.out];omega)] at h
    exact h
   go_wp2_with fail
   go_ret
   exact ⟨u0,rfl,HF,hbl⟩
end Sv
namespace Sv
open Go.RowKit
end Sv
namespace Sv
open Go.RowKit
end Sv
end Go.Proofs.YtikgjgmgbfjcgaaGreat
