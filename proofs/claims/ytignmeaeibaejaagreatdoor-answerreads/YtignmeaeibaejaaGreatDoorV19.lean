import Derived.Test.YtignmeaeibaejaaGreatDoorV18
import Derived.Deep.RegionHeld3
namespace Go.Proofs.YtignmeaeibaejaaGreatDoor
open Go.RowKit Go.WideMaps Go.Maps
theorem svI:(Tryz.prog.info? 57).map (fun i=>(i.zero,i.size,i.bytes))=some (some (.agg #[.string ⟨#[]⟩,.string ⟨#[]⟩,.string ⟨#[]⟩,.string ⟨#[]⟩,.int .i64 0,.int .i64 0,.bool false,.int .i64 0,.bool false]),9,104):=by kernel_rfl
theorem live_snoc {ms:List Mem} {L:List Sv.Svc} {x:Sv.Svc} (h:outB ms x.node=false):liveL ms (L++[x])=liveL ms L++[x]:=by simp [liveL,List.filter_append,h]
theorem live_skip {ms:List Mem} {L:List Sv.Svc} {x:Sv.Svc} (h:outB ms x.node=true):liveL ms (L++[x])=liveL ms L:=by simp [liveL,List.filter_append,h]
theorem take_snocS {L:List Sv.Svc} {k:Nat} (h:k < L.length):L.take (k+1)=L.take k++[L.getD k Sv.dm]:=by
 rw [List.take_succ_eq_append_getElem h];simp [List.getD,List.getElem?_eq_getElem h]
theorem ofN_none {L:List Sv.Svc} {n:ByteArray} (h:(ofN L n).length=0):n ∉ nodesP L:=fun hm=>by
 obtain ⟨s,hs,e⟩:=(nodesP_mem L n).1 hm
 have:s∈ofN L n:=List.mem_filter.2 ⟨hs,by simpa using e⟩
 rw [List.eq_nil_of_length_eq_zero h] at this
 simp at this
theorem ofN_some {L:List Sv.Svc} {n:ByteArray} (h:(ofN L n).length≠0):n∈nodesP L:=by
 rw [nodesP_mem]
 obtain ⟨s,hs⟩:=List.exists_mem_of_length_pos (Nat.pos_of_ne_zero h)
 have:=List.mem_filter.1 hs
 exact ⟨s,this.1,by simpa using this.2⟩
theorem nodes_new {L:List Sv.Svc} {x:Sv.Svc} (h:(ofN L x.node).length=0):nodesP (L++[x])=nodesP L++[x.node]:=by rw [nodesP_snoc,addN_out (ofN_none h)]
theorem nodes_old {L:List Sv.Svc} {x:Sv.Svc} (h:(ofN L x.node).length≠0):nodesP (L++[x])=nodesP L:=by rw [nodesP_snoc,addN_in (ofN_some h)]
theorem allN_snoc {SL:List ByteArray} {L:List Sv.Svc} {j:Nat} (h:j < SL.length):allN (SL.take (j+1)) L=allN (SL.take j) L++ofN L (SL.getD j ByteArray.empty):=by
 unfold allN
 rw [List.take_succ_eq_append_getElem h,List.flatMap_append]
 simp [List.getD,List.getElem?_eq_getElem h]
theorem allN_len:∀ (ns:List ByteArray) (L:List Sv.Svc),(allN ns L).length≤ns.length * L.length
 | [],L=>by simp [allN]
 | n :: r,L=>by
   have h1:=allN_len r L
   have h2:(ofN L n).length≤L.length:=List.length_filter_le _ _
   have e:allN (n :: r) L=ofN L n++allN r L:=by simp [allN]
   rw [e,List.length_append,List.length_cons,Nat.add_mul]
   omega
theorem sl_take {w:World} {a:Option Addr} {n c m:Nat} {ms:List Sv.Svc} (h:Sv.Sl w (.slice a n c) ms):Sv.Sl w (.slice a (ms.take m).length c) (ms.take m):=by
 obtain ⟨a',c',hv,hs,h⟩:=h
 simp only [Value.slice.injEq] at hv
 obtain ⟨rfl,rfl,rfl⟩:=hv
 refine ⟨a,c,rfl,Sv.ns_get (fun x hx=>Sv.ns_mem hs x (List.mem_of_mem_take hx)),?_⟩
 rcases h with h | ⟨b,off,ha,hlt,hr⟩
 ·exact .inl (by rw [h];simp)
 ·refine .inr ⟨b,off,ha,hlt,fun j hj=>?_⟩
  have hj2:j < ms.length:=by rw [List.length_take] at hj;omega
  have hj3:j < m:=by rw [List.length_take] at hj;omega
  have e:(ms.take m).getD j Sv.dm=ms.getD j Sv.dm:=by simp [List.getD,List.getElem?_take_of_lt hj3]
  rw [e]
  exact hr j hj2
theorem own_tsl' {base:Nat} {w:World} {v:Value} {l:List ByteArray} (h:OwnS base w v l) (hs:∀ s∈l,s.size≤maxLen):TSl w v l:=by
 have hz:∀ j,(l.getD j ByteArray.empty).size≤maxLen:=fun j=>by
  by_cases hj:j < l.length
  ·rw [show l.getD j ByteArray.empty=l[j] by simp [List.getD,List.getElem?_eq_getElem hj]];exact hs _ (List.getElem_mem hj)
  ·rw [show l.getD j ByteArray.empty=ByteArray.empty by simp [List.getD,List.getElem?_eq_none (by omega:l.length≤j)]];decide
 rcases h.2 with ⟨hv,h0⟩ | ⟨g,c,cur,hv,_,hg,_⟩
 ·exact ⟨none,0,by rw [hv,h0],hz,.inl (List.length_eq_zero_iff.1 h0)⟩
 ·refine ⟨some ⟨g,0,none⟩,c,hv,hz,.inr ⟨g,0,rfl,(Array.getElem?_eq_some_iff.1 hg).1,fun j hj=>?_⟩⟩
  subst hv
  rw [Nat.zero_add,World.ownsRow.cellAt h j (by omega)]
  simp [List.getD,List.getElem?_eq_getElem hj]
theorem own_lu {B:Nat} {w:World} {v:Value} {L:List Sv.Svc} {x:Sv.Svc} {lu:Nat} (h:lu=L.length) (ho:w.ownsRow B 57 9 v (lu+1) (Sv.fl L++x.cs)):Sv.Own B w v (L++[x]):=by subst h;exact Sv.own_snoc ho
theorem live_len (ms:List Mem) (L:List Sv.Svc):(liveL ms L).length≤L.length:=List.length_filter_le _ _
theorem ofN_len (L:List Sv.Svc) (n:ByteArray):(ofN L n).length≤L.length:=List.length_filter_le _ _
set_option maxHeartbeats 12800000 in
set_option maxRecDepth 100000 in
theorem nearest_any (here:ByteArray) (ps pm pw:Option Addr) (ns cs nm cm nw cw:Nat) (px py pz ph pq:Int) (ms:List Mem) (found:List Sv.Svc) (wh:List Wh.Whe) (SL:List ByteArray) (vf:Value) (w:World) (hm:Sl w (.slice pm nm cm) ms) (hf:Sv.Sl w vf found) (hwh:Wh.Sl w (.slice pw nw cw) wh) (hn:nm≤1000) (hfl:found.length≤40)
 (hso:∀ (vn:Value) (W:World),Wh.Sl W (.slice pw nw cw) wh→TSl W vn (nodesP (liveL ms found))→Calls Tryz.prog 134 #[.agg #[.int .i64 px,.int .i64 py,.int .i64 pz,.int .i64 ph,.int .i64 pq],.slice pw nw cw,vn] W fun e w'=>∃ v' E,e=.returned (.tuple #[v',.int .i64 E])∧TSl w' v' SL∧Below W.heap.size W w') (hSL:∀ x∈SL,x∈nodesP (liveL ms found)) (hSLn:SL.length≤40) :
 Calls Tryz.prog 110 #[.agg (knA here (.slice ps ns cs) (.slice pm nm cm) px py pz ph pq (.slice pw nw cw)),vf] w fun e w'=>∃ v',e=.returned v'∧Sv.Sl w' v' ((allN SL (liveL ms found)).take 20)∧Below w.heap.size w w':=by
 have HSO:Hid _:=hso
 have HSM:Hid (∀ x∈SL,x∈nodesP (liveL ms found)):=hSL
 have HWH:Hid (Wh.Sl w (.slice pw nw cw) wh):=hwh
 clear hso hSL hwh
 obtain ⟨i0,hi0,hz0,hzs,hzb⟩:=info_parts svI
 obtain ⟨j0,hj0,jz0,jzs,jzb⟩:=info_parts Tryz.info9
 have HM:Hid (Sl w (.slice pm nm cm) ms):=hm
 obtain ⟨pf,cf,rfl,hfs,hfa⟩:=hf
 have HFS:Hid (∀ j,(found.getD j Sv.dm).ok):=hfs
 have HA:Hid (found=[]∨∃ b off,pf=some ⟨b,off,none⟩∧b < w.heap.size∧Sv.Row w b off found):=hfa
 clear hm hfs hfa
 generalize hNN:found.length=n at *
 have HN:Hid (found.length=n):=hNN
 clear hNN
 have hmm := @run_makeMap Tryz.prog
 go_enter Tryz.func110,Tryz.ntmps110
 go_wp2_with fail
 obtain ⟨W,hW⟩:∃ W,W=(w.alloc (.cells (knA here (.slice ps ns cs) (.slice pm nm cm) px py pz ph pq (.slice pw nw cw)) 45)).alloc (.map #[] 0):=⟨_,rfl⟩
 rw [← hW]
 have HBW:Hid (Below w.heap.size w W):=by rw [hW];exact ((Below.refl _ _).alloc (Nat.le_refl _) _).alloc (by simp) _
 have HG0:Hid (W.heap[w.heap.size]?=some (.cells (knA here (.slice ps ns cs) (.slice pm nm cm) px py pz ph pq (.slice pw nw cw)) 45 (0,0))):=by
  rw [hW,Below.heap_alloc _ _ _ (by simp)];exact heap_alloc_new w _
 have HGR:Hid (Grp (w.heap.size+2) W (w.heap.size+1) 0 (.slice none 0 0) (fun _=>.slice none 0 0) [] []):=by
  have h:=grp_made (w.alloc (.cells (knA here (.slice ps ns cs) (.slice pm nm cm) px py pz ph pq (.slice pw nw cw)) 45))
  rw [show (w.alloc (.cells (knA here (.slice ps ns cs) (.slice pm nm cm) px py pz ph pq (.slice pw nw cw)) 45)).heap.size=w.heap.size+1 by simp] at h
  rw [hW];exact h
 clear hW
 go_loopw [6,17] (fun vn i wr=>∃ (k:Nat) (M:ByteArray→Value),k≤n∧i=.int .i64 k∧Hid (Grp (w.heap.size+2) wr (w.heap.size+1) k vn M (nodesP (liveL ms (found.take k))) (liveL ms (found.take k)))∧Hid (Below w.heap.size w wr)∧Hid (wr.heap[w.heap.size]?=some (.cells (knA here (.slice ps ns cs) (.slice pm nm cm) px py pz ph pq (.slice pw nw cw)) 45 (0,0)))) (fun _ i _=>n - (intOf i).toNat)
 case atStart=>exact ⟨0,_,Nat.zero_le _,rfl,HGR,HBW,HG0⟩
 case round=>
  obtain ⟨k,M,hk,rfl,HG,HB,HK⟩:=hrel
  have hszw:=HB.out.size
  have hmlt:=HG.out.map.lt
  by_cases hlt:k < n
  ·obtain ⟨b,off,hp1,hl1,hr⟩:∃ b off,pf=some ⟨b,off,none⟩∧b < w.heap.size∧Sv.Row w b off found:=by
    rcases HA.out with h | h
    ·have:=HN.out;rw [h] at this;simp at this;omega
    ·exact h
   subst hp1
   have hkl:k < found.length:=by rw [HN.out];exact hlt
   obtain ⟨c0,c1,c2,c3,c4,c5,c6,c7,c8⟩:=hr.later HB.out hl1 k hkl
   clear hr
   have HSK:Hid (found.take (k+1)=found.take k++[found.getD k Sv.dm]):=take_snocS hkl
   have hnd:(found.getD k Sv.dm).node.size≤maxLen:=(HFS.out k).1
   have hLn:(liveL ms (found.take k)).length≤40:=by have h1:=live_len ms (found.take k);have h2:(found.take k).length≤k:=List.length_take_le _ _;omega
   generalize found.getD k Sv.dm=x at *
   obtain ⟨nd,idn,name,tag,ad,po,pa1,ver,gon⟩:=x
   simp only at c0 c1 c2 c3 c4 c5 c6 c7 c8 hnd
   have hkk:w.heap.size < wr.heap.size:=by omega
   have hd:∀ ob,(wr.alloc ob).heap[w.heap.size]?=some (.cells (knA here (.slice ps ns cs) (.slice pm nm cm) px py pz ph pq (.slice pw nw cw)) 45 (0,0)):=fun ob=>by rw [Below.heap_alloc _ _ _ hkk];exact HK.out
   have d0:∀ ob,(wr.alloc ob).cell? ⟨w.heap.size,0,none⟩=some (.string here):=fun ob=>cellsAt (hd ob) 0
   have d1:∀ ob,(wr.alloc ob).cell? ⟨w.heap.size,1,none⟩=some (.slice ps ns cs):=fun ob=>cellsAt (hd ob) 1
   have d2:∀ ob,(wr.alloc ob).cell? ⟨w.heap.size,2,none⟩=some (.slice pm nm cm):=fun ob=>cellsAt (hd ob) 2
   have d3:∀ ob,(wr.alloc ob).cell? ⟨w.heap.size,3,none⟩=some (.int .i64 px):=fun ob=>cellsAt (hd ob) 3
   have d4:∀ ob,(wr.alloc ob).cell? ⟨w.heap.size,4,none⟩=some (.int .i64 py):=fun ob=>cellsAt (hd ob) 4
   have d5:∀ ob,(wr.alloc ob).cell? ⟨w.heap.size,5,none⟩=some (.int .i64 pz):=fun ob=>cellsAt (hd ob) 5
   have d6:∀ ob,(wr.alloc ob).cell? ⟨w.heap.size,6,none⟩=some (.int .i64 ph):=fun ob=>cellsAt (hd ob) 6
   have d7:∀ ob,(wr.alloc ob).cell? ⟨w.heap.size,7,none⟩=some (.int .i64 pq):=fun ob=>cellsAt (hd ob) 7
   have d8:∀ ob,(wr.alloc ob).cell? ⟨w.heap.size,8,none⟩=some (.slice pw nw cw):=fun ob=>cellsAt (hd ob) 8
   have HD:Hid (∀ ob,(wr.alloc ob).heap[w.heap.size]?=some (.cells (knA here (.slice ps ns cs) (.slice pm nm cm) px py pz ph pq (.slice pw nw cw)) 45 (0,0))):=hd
   clear hd
   go_wp2_with fail
   have hba:Below wr.heap.size wr (wr.alloc (.cells #[.string nd,.string idn,.string name,.string tag,.int .i64 ad,.int .i64 po,.bool pa1,.int .i64 ver,.bool gon] 57)):=(Below.refl _ _).alloc (Nat.le_refl _) _
   refine (isOut_any here ps pm pw ns cs nm cm nw cw px py pz ph pq ms nd _ (HM.out.below (HB.out.trans (hba.mono hszw))) hn).mono ?_
   rintro e w1 ⟨rfl,hb1⟩
   have HB1:Hid (Below w.heap.size w w1):=(HB.out.trans (hba.mono hszw)).trans (hb1.mono (by simp;omega))
   have HG1:Hid (Grp (w.heap.size+2) w1 (w.heap.size+1) k u6 M (nodesP (liveL ms (found.take k))) (liveL ms (found.take k))):=(HG.out.below hba).below hb1
   have HK1:Hid (w1.heap[w.heap.size]?=some (.cells (knA here (.slice ps ns cs) (.slice pm nm cm) px py pz ph pq (.slice pw nw cw)) 45 (0,0))):=(hb1.block _ (by simp;omega)).trans (HD.out _)
   have hgx:w1.heap[wr.heap.size]?=some (.cells #[.string nd,.string idn,.string name,.string tag,.int .i64 ad,.int .i64 po,.bool pa1,.int .i64 ver,.bool gon] 57 (0,0)):=(hb1.block _ (by simp)).trans (heap_alloc_new wr _)
   have q0:w1.cell? ⟨wr.heap.size,0,none⟩=some (.string nd):=cellsAt hgx 0
   have q1:w1.cell? ⟨wr.heap.size,1,none⟩=some (.string idn):=cellsAt hgx 1
   have q2:w1.cell? ⟨wr.heap.size,2,none⟩=some (.string name):=cellsAt hgx 2
   have q3:w1.cell? ⟨wr.heap.size,3,none⟩=some (.string tag):=cellsAt hgx 3
   have q4:w1.cell? ⟨wr.heap.size,4,none⟩=some (.int .i64 ad):=cellsAt hgx 4
   have q5:w1.cell? ⟨wr.heap.size,5,none⟩=some (.int .i64 po):=cellsAt hgx 5
   have q6:w1.cell? ⟨wr.heap.size,6,none⟩=some (.bool pa1):=cellsAt hgx 6
   have q7:w1.cell? ⟨wr.heap.size,7,none⟩=some (.int .i64 ver):=cellsAt hgx 7
   have q8:w1.cell? ⟨wr.heap.size,8,none⟩=some (.bool gon):=cellsAt hgx 8
   have HLT:Hid (∀ g,(M nd).ownBlock=some g→g < wr.heap.size):=fun g h=>(World.ownsRow.lt (HG.out.rows nd) g h).2
   have HLT2:Hid (∀ g,u6.ownBlock=some g→g < wr.heap.size):=fun g h=>(World.ownsRow.lt HG.out.nodes g h).2
   have hs1:wr.heap.size+1≤w1.heap.size:=by have:=hb1.size;simpa using this
   have HGX:Hid (w1.heap[wr.heap.size]?=some (.cells #[.string nd,.string idn,.string name,.string tag,.int .i64 ad,.int .i64 po,.bool pa1,.int .i64 ver,.bool gon] 57 (0,0))):=hgx
   clear hb1 hba HG HK HD d0 d1 d2 d3 d4 d5 d6 d7 d8 hgx
   rcases hout:outB ms nd with _ | _
   ·have HLV:Hid (liveL ms (found.take (k+1))=liveL ms (found.take k)++[⟨nd,idn,name,tag,ad,po,pa1,ver,gon⟩]):=by rw [HSK.out];exact live_snoc hout
    generalize liveL ms (found.take k)=L at *
    obtain ⟨pu,lu,cu,hu⟩:∃ p l c,M nd=.slice p l c:=by
     rcases (HG1.out.rows nd).2 with ⟨h,h0⟩ | ⟨g,c,cur,h,_⟩
     ·exact ⟨none,0,0,h⟩
     ·exact ⟨_,_,_,h⟩
    have HU:Hid (M nd=.slice pu lu cu):=hu
    have HLU:Hid (lu=(ofN L nd).length):=by
     rcases (HG1.out.rows nd).2 with ⟨h,h0⟩ | ⟨g,c,cur,h,_⟩
     ·rw [hu] at h;injection h with _ h2 _;show lu=_;omega
     ·rw [hu] at h;injection h
    have HAV:Hid ((Value.slice pu lu cu).ownBlock≠some wr.heap.size):=fun h=>by
     have:=HLT.out _ (by rw [HU.out];exact h)
     omega
    have hlk:(Instr.lookup 166 (.map (some (w.heap.size+1))) (.string nd) false).run Tryz.prog w1=.ok (.slice pu lu cu) w1:=by rw [← hu];exact HG1.out.map.look hnd
    have hkm:k < maxLen:=by unfold maxLen;omega
    have hLo:=ofN_len L nd
    have hlm:lu≤40:=by have:=HLU.out;omega
    have h63:lu+1≤maxLen:=by unfold maxLen;omega
    have hbt:(lu+1) * 104≤140737488355328:=by omega
    clear hLo
    clear hu
    by_cases h0:lu=0
    ·have HNN:Hid (nodesP (L++[⟨nd,idn,name,tag,ad,po,pa1,ver,gon⟩])=nodesP L++[nd]):=nodes_new (by have:=HLU.out;simp only;omega)
     have hl00:((lu:Int) == 0)=true:=by rw [h0];rfl
     clear h0
     have hNS:(nodesP L).length≤40:=by have:=nodesP_len L;omega
     generalize nodesP L=NS at *
     go_wp2_with (at_builtin;refine wpList_append_own_at _ rfl _ _ 81 rfl (w.heap.size+2) 9 j0 _ 1 16 Tryz.underlying81 hj0 jz0 jzs jzb rfl (by omega) _ NS.length (NS.map Value.string) rfl ?hown ⟨w1.heap.size,0,none⟩ 1 1 [.string nd] rfl rfl ?hnews (strs_one [_]) ?h63 ?hbytes ?hbase ?_)
     case hown=>exact World.ownsRow.alloc HG1.out.nodes _
     case hnews=>exact cell_one_new _ _ _
     case h63=>(unfold maxLen;omega)
     case hbytes=>omega
     case hbase=>(simp;omega)
     intro vn2 w2 r1 r2 r3 r4
     have hs2:w1.heap.size+1≤w2.heap.size:=by have h:=r2.size;simpa using h
     have HG2:Hid (Grp (w.heap.size+2) w2 (w.heap.size+1) k vn2 M (NS++[nd]) L):=(HG1.out.below ((Below.refl _ _).alloc (Nat.le_refl _) (.cells #[.string nd] 9))).node nd r1 r2 (by rcases r4 with h | h;exact .inl h;exact .inr ⟨_,h,by simp⟩)
     have HB2:Hid (Below w.heap.size w w2):=(HB1.out.alloc (by omega) _).grown r2 (by simp;omega) (fun j hj=>by have:=(World.ownsRow.lt HG1.out.nodes j hj).1;omega)
     have HK2:Hid (w2.heap[w.heap.size]?=some (.cells (knA here (.slice ps ns cs) (.slice pm nm cm) px py pz ph pq (.slice pw nw cw)) 45 (0,0))):=by
      have h2:=r2.block w.heap.size (by simp;omega) (by intro e;have:=(World.ownsRow.lt HG1.out.nodes _ e.symm).1;omega)
      exact h2.trans ((Below.heap_alloc w1 _ _ (by omega)).trans HK1.out)
     have hgx2:w2.heap[wr.heap.size]?=some (.cells #[.string nd,.string idn,.string name,.string tag,.int .i64 ad,.int .i64 po,.bool pa1,.int .i64 ver,.bool gon] 57 (0,0)):=by
      have h2:=r2.block wr.heap.size (by simp;omega) (by intro e;have:=HLT2.out _ e.symm;omega)
      exact h2.trans ((Below.heap_alloc w1 _ _ (by omega)).trans HGX.out)
     clear q0 q1 q2 q3 q4 q5 q6 q7 q8 r1 r2 r3 r4 hlk
     have q0:w2.cell? ⟨wr.heap.size,0,none⟩=some (.string nd):=cellsAt hgx2 0
     have q1:w2.cell? ⟨wr.heap.size,1,none⟩=some (.string idn):=cellsAt hgx2 1
     have q2:w2.cell? ⟨wr.heap.size,2,none⟩=some (.string name):=cellsAt hgx2 2
     have q3:w2.cell? ⟨wr.heap.size,3,none⟩=some (.string tag):=cellsAt hgx2 3
     have q4:w2.cell? ⟨wr.heap.size,4,none⟩=some (.int .i64 ad):=cellsAt hgx2 4
     have q5:w2.cell? ⟨wr.heap.size,5,none⟩=some (.int .i64 po):=cellsAt hgx2 5
     have q6:w2.cell? ⟨wr.heap.size,6,none⟩=some (.bool pa1):=cellsAt hgx2 6
     have q7:w2.cell? ⟨wr.heap.size,7,none⟩=some (.int .i64 ver):=cellsAt hgx2 7
     have q8:w2.cell? ⟨wr.heap.size,8,none⟩=some (.bool gon):=cellsAt hgx2 8
     clear hgx2
     go_wp2_with fail
     have hl0:(Instr.lookup 166 (.map (some (w.heap.size+1))) (.string nd) false).run Tryz.prog w2.drew=.ok (.slice pu lu cu) w2.drew:=by have h:=MapIs.look (show MapIs w2.drew _ _ _ from HG2.out.map) hnd;rw [HU.out] at h;exact h
     have hl1:∀ o,(Instr.lookup 166 (.map (some (w.heap.size+1))) (.string nd) false).run Tryz.prog (w2.drew.alloc o)=.ok (.slice pu lu cu) (w2.drew.alloc o):=fun o=>by have h:=MapIs.look (show MapIs (w2.drew.alloc o) _ _ _ from HG2.out.map.below (((Below.refl _ _).drew).alloc (Nat.le_refl _) o)) hnd;rw [HU.out] at h;exact h
     have hl2:∀ o,(Instr.lookup 166 (.map (some (w.heap.size+1))) (.string nd) false).run Tryz.prog (w2.alloc o).drew=.ok (.slice pu lu cu) (w2.alloc o).drew:=hl1
     have hbx:wr.heap.size < w2.heap.size:=World.block_lt_of_cell? w2 ⟨wr.heap.size,0,none⟩ q0
     have hrowu:w2.ownsRow (w.heap.size+2) 57 9 (.slice pu lu cu) lu (Sv.fl (ofN L nd)):=by have h:w2.ownsRow (w.heap.size+2) 57 9 (M nd) (ofN L nd).length (Sv.fl (ofN L nd)):=HG2.out.rows nd;rw [HU.out,← HLU.out] at h;exact h
     have hav:(Value.slice pu lu cu).ownBlock≠some wr.heap.size:=HAV.out
     have hBW:w.heap.size+2≤w2.heap.size:=by omega
     have HGB:Hid (Grp (w.heap.size+2) (w2.alloc (.cells #[.string nd,.string idn,.string name,.string tag,.int .i64 ad,.int .i64 po,.bool pa1,.int .i64 ver,.bool gon] 57)).drew (w.heap.size+1) k vn2 M (NS++[nd]) L):=HG2.out.below ((Below.refl _ _).alloc (Nat.le_refl _) _).drew
     go_region_held3 (fun w'=>w'.cell? ⟨wr.heap.size,0,none⟩=some (.string nd)∧w'.cell? ⟨wr.heap.size,1,none⟩=some (.string idn)∧w'.cell? ⟨wr.heap.size,2,none⟩=some (.string name)∧w'.cell? ⟨wr.heap.size,3,none⟩=some (.string tag)∧w'.cell? ⟨wr.heap.size,4,none⟩=some (.int .i64 ad)∧w'.cell? ⟨wr.heap.size,5,none⟩=some (.int .i64 po)∧w'.cell? ⟨wr.heap.size,6,none⟩=some (.bool pa1)∧w'.cell? ⟨wr.heap.size,7,none⟩=some (.int .i64 ver)∧w'.cell? ⟨wr.heap.size,8,none⟩=some (.bool gon))
      (first
        | go_keep
        | (go_split_ands
           refine ⟨?_,?_,?_,?_,?_,?_,?_,?_,?_⟩
           all_goals (rw [hgrow.cell_far _ (by simp;omega) (Ne.symm hav)];assumption))
        | (go_split_ands
           refine ⟨?_,?_,?_,?_,?_,?_,?_,?_,?_⟩
           all_goals (rw [hg6.cell_far _ (by show wr.heap.size < _;have:=hgrow.size;simp at this;omega) (by intro e;have e2:wr.heap.size=w.heap.size+1:=Option.some.inj e;omega)];assumption)))
      ((refine step_append_lies _ (by rfl) _ _ _ (by rfl) (w.heap.size+2) 57 i0 _ 9 104 Tryz.underlying22 hi0 hz0 hzs hzb rfl (by omega) (.slice pu lu cu) lu (Sv.fl (ofN L nd)) (by rfl) ((World.ownsRow.alloc hrowu _).drew)
         ⟨w2.heap.size,0,none⟩ 1 1 [.string nd,.string idn,.string name,.string tag,.int .i64 ad,.int .i64 po,.bool pa1,.int .i64 ver,.bool gon] (by rfl) (by rfl) (World.news_of_block (cs:=#[.string nd,.string idn,.string name,.string tag,.int .i64 ad,.int .i64 po,.bool pa1,.int .i64 ver,.bool gon]) (t:=57) (fr:=(0,0)) (heap_alloc_new w2 _)) (by simp [Value.oneCell'])
         (by omega) h63 hbt (by simp;omega) (w2.heap.size+1) (by simp) ?_;intro gg cap w5 hown1 hgrow hat hlt;obtain ⟨w6,hrun6,HG6,hg6⟩:=Grp.put HGB.out ⟨nd,idn,name,tag,ad,po,pa1,ver,gon⟩ hnd hkm (v':=.slice (some ⟨gg,0,none⟩) (lu+1) cap) (own_lu HLU.out hown1) (by rw [HU.out];exact hgrow) (by rw [HU.out];rcases hat with h | h;exact .inl h.symm;exact .inr ⟨gg,rfl,by simp;omega⟩)))
     all_goals
      have hs5:w2.heap.size+1≤w5.heap.size:=by have h:=hgrow.size;simpa using h
      have HB6:Hid (Below w.heap.size w w6):=((HB2.out.alloc (by omega) _).drew.grown hgrow (by simp;omega) (fun j hj=>by have:=(World.ownsRow.lt hrowu j hj).1;omega)).grown hg6 (by omega) (fun j hj=>by cases hj;omega)
      have HK6:Hid (w6.heap[w.heap.size]?=some (.cells (knA here (.slice ps ns cs) (.slice pm nm cm) px py pz ph pq (.slice pw nw cw)) 45 (0,0))):=by
       have h1:=hg6.block w.heap.size (by omega) (by intro e;have e2:=Option.some.inj e;omega)
       have h2:=hgrow.block w.heap.size (by simp;omega) (by intro e;have:=(World.ownsRow.lt hrowu _ e.symm).1;omega)
       exact h1.trans (h2.trans ((Below.heap_alloc w2 _ _ (by omega)).trans HK2.out))
      have HG7:Hid (Grp (w.heap.size+2) w6 (w.heap.size+1) (k+1) vn2 (updM M nd (.slice (some ⟨gg,0,none⟩) (lu+1) cap)) (NS++[nd]) (L++[⟨nd,idn,name,tag,ad,po,pa1,ver,gon⟩])):=HG6
      clear HG6 hg6 hrun6 hgrow hown1 hat hlt hrowu hl0 hl1 hl2
      go_wp2_with fail
      exact ⟨⟨k+1,_,by omega,by go_num,by rw [HLV.out,HNN.out];exact HG7,HB6,HK6⟩,by simp [intOf];omega⟩
    ·have HNN:Hid (nodesP (L++[⟨nd,idn,name,tag,ad,po,pa1,ver,gon⟩])=nodesP L):=nodes_old (by have:=HLU.out;simp only;omega)
     have hl0:((lu:Int) == 0)=false:=by simpa using h0
     generalize nodesP L=NS at *
     go_wp2_with fail
     have hl0:(Instr.lookup 166 (.map (some (w.heap.size+1))) (.string nd) false).run Tryz.prog w1.drew=.ok (.slice pu lu cu) w1.drew:=by have h:=MapIs.look (show MapIs w1.drew _ _ _ from HG1.out.map) hnd;rw [HU.out] at h;exact h
     have hl1:∀ o,(Instr.lookup 166 (.map (some (w.heap.size+1))) (.string nd) false).run Tryz.prog (w1.drew.alloc o)=.ok (.slice pu lu cu) (w1.drew.alloc o):=fun o=>by have h:=MapIs.look (show MapIs (w1.drew.alloc o) _ _ _ from HG1.out.map.below (((Below.refl _ _).drew).alloc (Nat.le_refl _) o)) hnd;rw [HU.out] at h;exact h
     have hl2:∀ o,(Instr.lookup 166 (.map (some (w.heap.size+1))) (.string nd) false).run Tryz.prog (w1.alloc o).drew=.ok (.slice pu lu cu) (w1.alloc o).drew:=hl1
     have hbx:wr.heap.size < w1.heap.size:=World.block_lt_of_cell? w1 ⟨wr.heap.size,0,none⟩ q0
     have hrowu:w1.ownsRow (w.heap.size+2) 57 9 (.slice pu lu cu) lu (Sv.fl (ofN L nd)):=by have h:w1.ownsRow (w.heap.size+2) 57 9 (M nd) (ofN L nd).length (Sv.fl (ofN L nd)):=HG1.out.rows nd;rw [HU.out,← HLU.out] at h;exact h
     have hav:(Value.slice pu lu cu).ownBlock≠some wr.heap.size:=HAV.out
     have hBW:w.heap.size+2≤w1.heap.size:=by omega
     have HGB:Hid (Grp (w.heap.size+2) (w1.alloc (.cells #[.string nd,.string idn,.string name,.string tag,.int .i64 ad,.int .i64 po,.bool pa1,.int .i64 ver,.bool gon] 57)).drew (w.heap.size+1) k u6 M NS L):=HG1.out.below ((Below.refl _ _).alloc (Nat.le_refl _) _).drew
     go_region_held3 (fun w'=>w'.cell? ⟨wr.heap.size,0,none⟩=some (.string nd)∧w'.cell? ⟨wr.heap.size,1,none⟩=some (.string idn)∧w'.cell? ⟨wr.heap.size,2,none⟩=some (.string name)∧w'.cell? ⟨wr.heap.size,3,none⟩=some (.string tag)∧w'.cell? ⟨wr.heap.size,4,none⟩=some (.int .i64 ad)∧w'.cell? ⟨wr.heap.size,5,none⟩=some (.int .i64 po)∧w'.cell? ⟨wr.heap.size,6,none⟩=some (.bool pa1)∧w'.cell? ⟨wr.heap.size,7,none⟩=some (.int .i64 ver)∧w'.cell? ⟨wr.heap.size,8,none⟩=some (.bool gon))
      (first
        | go_keep
        | (go_split_ands
           refine ⟨?_,?_,?_,?_,?_,?_,?_,?_,?_⟩
           all_goals (rw [hgrow.cell_far _ (by simp;omega) (Ne.symm hav)];assumption))
        | (go_split_ands
           refine ⟨?_,?_,?_,?_,?_,?_,?_,?_,?_⟩
           all_goals (rw [hg6.cell_far _ (by show wr.heap.size < _;have:=hgrow.size;simp at this;omega) (by intro e;have e2:wr.heap.size=w.heap.size+1:=Option.some.inj e;omega)];assumption)))
      ((refine step_append_lies _ (by rfl) _ _ _ (by rfl) (w.heap.size+2) 57 i0 _ 9 104 Tryz.underlying22 hi0 hz0 hzs hzb rfl (by omega) (.slice pu lu cu) lu (Sv.fl (ofN L nd)) (by rfl) ((World.ownsRow.alloc hrowu _).drew)
         ⟨w1.heap.size,0,none⟩ 1 1 [.string nd,.string idn,.string name,.string tag,.int .i64 ad,.int .i64 po,.bool pa1,.int .i64 ver,.bool gon] (by rfl) (by rfl) (World.news_of_block (cs:=#[.string nd,.string idn,.string name,.string tag,.int .i64 ad,.int .i64 po,.bool pa1,.int .i64 ver,.bool gon]) (t:=57) (fr:=(0,0)) (heap_alloc_new w1 _)) (by simp [Value.oneCell'])
         (by omega) h63 hbt (by simp;omega) (w1.heap.size+1) (by simp) ?_;intro gg cap w5 hown1 hgrow hat hlt;obtain ⟨w6,hrun6,HG6,hg6⟩:=Grp.put HGB.out ⟨nd,idn,name,tag,ad,po,pa1,ver,gon⟩ hnd hkm (v':=.slice (some ⟨gg,0,none⟩) (lu+1) cap) (own_lu HLU.out hown1) (by rw [HU.out];exact hgrow) (by rw [HU.out];rcases hat with h | h;exact .inl h.symm;exact .inr ⟨gg,rfl,by simp;omega⟩)))
     all_goals
      have hs5:w1.heap.size+1≤w5.heap.size:=by have h:=hgrow.size;simpa using h
      have HB6:Hid (Below w.heap.size w w6):=((HB1.out.alloc (by omega) _).drew.grown hgrow (by simp;omega) (fun j hj=>by have:=(World.ownsRow.lt hrowu j hj).1;omega)).grown hg6 (by omega) (fun j hj=>by cases hj;omega)
      have HK6:Hid (w6.heap[w.heap.size]?=some (.cells (knA here (.slice ps ns cs) (.slice pm nm cm) px py pz ph pq (.slice pw nw cw)) 45 (0,0))):=by
       have h1:=hg6.block w.heap.size (by omega) (by intro e;have e2:=Option.some.inj e;omega)
       have h2:=hgrow.block w.heap.size (by simp;omega) (by intro e;have:=(World.ownsRow.lt hrowu _ e.symm).1;omega)
       exact h1.trans (h2.trans ((Below.heap_alloc w1 _ _ (by omega)).trans HK1.out))
      have HG7:Hid (Grp (w.heap.size+2) w6 (w.heap.size+1) (k+1) u6 (updM M nd (.slice (some ⟨gg,0,none⟩) (lu+1) cap)) NS (L++[⟨nd,idn,name,tag,ad,po,pa1,ver,gon⟩])):=HG6
      clear HG6 hg6 hrun6 hgrow hown1 hat hlt hrowu hl0 hl1 hl2
      go_wp2_with fail
      exact ⟨⟨k+1,_,by omega,by go_num,by rw [HLV.out,HNN.out];exact HG7,HB6,HK6⟩,by simp [intOf];omega⟩
   ·have HLV:Hid (liveL ms (found.take (k+1))=liveL ms (found.take k)):=by rw [HSK.out];exact live_skip hout
    go_wp2_with fail
    go_roundw
    case rel=>exact ⟨k+1,M,by omega,by go_num,by rw [HLV.out];exact HG1.out.more (by omega),HB1,HK1⟩
    case measure=>simp [intOf];omega
  ·have hkn:k=n:=by omega
   have HLV:Hid (liveL ms (found.take k)=liveL ms found):=by rw [List.take_of_length_le (by rw [HN.out];omega)];rfl
   have hnd:∀ s∈nodesP (liveL ms found),s.size≤maxLen:=fun s hs=>by
    obtain ⟨x,hx,e⟩:=(nodesP_mem _ s).1 hs
    have h1:=(List.mem_filter.1 hx).1
    rw [← e]
    exact (Sv.ns_mem HFS.out x h1).1
   have HTS:Hid (TSl wr u6 (nodesP (liveL ms found))):=by
    have h:=HG.out.nodes
    rw [HLV.out] at h
    exact own_tsl' h hnd
   have HGL:Hid (Grp (w.heap.size+2) wr (w.heap.size+1) k u6 M (nodesP (liveL ms found)) (liveL ms found)):=by
    have h:=HG.out
    rw [HLV.out] at h
    exact h
   have hLn:(liveL ms found).length≤40:=by have h1:=live_len ms found;have h2:=HN.out;omega
   have HOKL:Hid (∀ x∈liveL ms found,x.ok):=fun x hx=>Sv.ns_mem HFS.out x (List.mem_filter.1 hx).1
   have HSO2:Hid _:=HSO.out u6 wr (HWH.out.below HB.out) HTS.out
   have d3:wr.cell? ⟨w.heap.size,3,none⟩=some (.int .i64 px):=cellsAt HK.out 3
   have d4:wr.cell? ⟨w.heap.size,4,none⟩=some (.int .i64 py):=cellsAt HK.out 4
   have d5:wr.cell? ⟨w.heap.size,5,none⟩=some (.int .i64 pz):=cellsAt HK.out 5
   have d6:wr.cell? ⟨w.heap.size,6,none⟩=some (.int .i64 ph):=cellsAt HK.out 6
   have d7:wr.cell? ⟨w.heap.size,7,none⟩=some (.int .i64 pq):=cellsAt HK.out 7
   have d8:wr.cell? ⟨w.heap.size,8,none⟩=some (.slice pw nw cw):=cellsAt HK.out 8
   clear hnd HG HTS HSO HA
   generalize hLL:liveL ms found=L at *
   have HLL:Hid (liveL ms found=L):=hLL
   clear hLL
   go_wp2_with fail
   refine Calls.mono HSO2.out ?_
   rintro e w3 ⟨vs,E,rfl,ts,hb3⟩
   have hs3:=hb3.size
   have HB3:Hid (Below w.heap.size w w3):=HB.out.trans (hb3.mono hszw)
   have HG3:Hid (Grp (w.heap.size+2) w3 (w.heap.size+1) k u6 M (nodesP L) L):=HGL.out.below hb3
   obtain ⟨pv,cv,rfl,hvz,hva⟩:=ts
   have HVA:Hid (SL=[]∨∃ b off,pv=some ⟨b,off,none⟩∧b < w3.heap.size∧TRow w3 b off SL):=hva
   have HVZ:Hid (∀ j,(SL.getD j ByteArray.empty).size≤maxLen):=hvz
   clear hva hvz hb3 HSO2 HGL d3 d4 d5 d6 d7 d8
   generalize hMM:SL.length=m at *
   have HMM:Hid (SL.length=m):=hMM
   clear hMM
   go_wp2_with fail
   go_loopw [11,58] (fun vl i wr=>∃ j:Nat,j≤m∧i=.int .i64 j∧Hid (Sv.Own w3.heap.size wr vl (allN (SL.take j) L))∧Hid (Below w3.heap.size w3 wr)) (fun _ i _=>m - (intOf i).toNat)
   case atStart=>exact ⟨0,Nat.zero_le _,rfl,Sv.own_nil _ _,Below.refl _ _⟩
   case round=>
    obtain ⟨j,hj,rfl,HO,HB4⟩:=hrel
    have hs4:=HB4.out.size
    have hAL:(allN (SL.take j) L).length≤1600:=by
     have h1:=allN_len (SL.take j) L
     have h2:(SL.take j).length≤40:=by have:=List.length_take_le j SL;omega
     have h3:(SL.take j).length * L.length≤40 * 40:=Nat.mul_le_mul h2 hLn
     omega
    by_cases hlt2:j < m
    ·obtain ⟨bv,ov,hp1,hlv,hrv⟩:∃ b off,pv=some ⟨b,off,none⟩∧b < w3.heap.size∧TRow w3 b off SL:=by
      rcases HVA.out with h | h
      ·have:=HMM.out;rw [h] at this;simp at this;omega
      ·exact h
     subst hp1
     have hjl:j < SL.length:=by rw [HMM.out];exact hlt2
     have cN:wr.cell? ⟨bv,ov+j,none⟩=some (.string (SL.getD j ByteArray.empty)):=(HB4.out.cell (p:=⟨bv,ov+j,none⟩) hlv).trans (hrv j hjl)
     have hmem:SL.getD j ByteArray.empty∈nodesP L:=HSM.out _ (by simp [List.getD,List.getElem?_eq_getElem hjl])
     have hne:(ofN L (SL.getD j ByteArray.empty)).length≠0:=fun h=>ofN_none h hmem
     have HST:Hid (allN (SL.take (j+1)) L=allN (SL.take j) L++ofN L (SL.getD j ByteArray.empty)):=allN_snoc hjl
     have hnz:=HVZ.out j
     clear hmem hrv
     generalize SL.getD j ByteArray.empty=nd at *
     have hon:=ofN_len L nd
     obtain ⟨g,cu,hu⟩:=Sv.own_form (HG3.out.rows nd) 0 (by omega)
     have hr4:wr.ownsRow (w.heap.size+2) 57 9 (.slice (some ⟨g,0,none⟩) (ofN L nd).length cu) (ofN L nd).length (Sv.fl (ofN L nd)):=by
      have h:Sv.Own _ wr (M nd) (ofN L nd):=(HG3.out.rows nd).below HB4.out
      rw [hu] at h
      exact h
     have hlk:(Instr.lookup 166 (.map (some (w.heap.size+1))) (.string nd) false).run Tryz.prog wr=.ok (.slice (some ⟨g,0,none⟩) (ofN L nd).length cu) wr:=by rw [← hu];exact (HG3.out.map.below HB4.out).look hnz
     have HNW:Hid (∀ j u,(Sv.fl (ofN L nd))[j]?=some u→wr.cell? (Addr.add ⟨g,0,none⟩ j)=some u):=own_news hr4
     have HFL:Hid ((Sv.fl (ofN L nd)).length=(ofN L nd).length * 9):=Sv.fl_len _
     have HON:Hid (∀ v' w',wr.ownsRow w3.heap.size 57 9 u11 (allN (SL.take j) L).length (Sv.fl (allN (SL.take j) L))→w'.ownsRow w3.heap.size 57 9 v' ((allN (SL.take j) L).length+(ofN L nd).length) (Sv.fl (allN (SL.take j) L)++Sv.fl (ofN L nd))→Sv.Own w3.heap.size w' v' (allN (SL.take (j+1)) L)):=fun v' w' _ h=>by
      rw [HST.out]
      show w'.ownsRow _ _ _ _ (allN (SL.take j) L++ofN L nd).length _
      rw [List.length_append,Sv.fl_append]
      exact h
     clear hu hr4
     generalize hof:ofN L nd=NL at *
     generalize allN (SL.take j) L=AL at *
     generalize hlu:NL.length=lu at *
     have HLU:Hid (NL.length=lu):=hlu
     clear hof hlu
     go_wp2_with (at_builtin;refine wpList_append_own _ rfl _ _ 22 rfl w3.heap.size 57 i0 _ 9 104 Tryz.underlying22 hi0 hz0 hzs hzb rfl (by omega) _ AL.length (Sv.fl AL) rfl ?hown ⟨g,0,none⟩ lu cu (Sv.fl NL) rfl ?hl ?hnews (Sv.fl_one _) ?h63 ?hbytes ?hbase ?_)
     case hown=>exact HO.out
     case hl=>exact HFL.out
     case hnews=>exact HNW.out
     case h63=>(unfold maxLen;omega)
     case hbytes=>omega
     case hbase=>exact hs4
     intro v' w4 r1 r2 r3
     have HO5:Hid (Sv.Own w3.heap.size w4 v' (allN (SL.take (j+1)) L)):=HON.out v' w4 HO.out r1
     have HB5:Hid (Below w3.heap.size w3 w4):=HB4.out.grown r2 hs4 (fun k hk=>(HO.out.lt k hk).1)
     clear r1 r2 r3
     go_wp2_with fail
     go_roundw
     case rel=>exact ⟨j+1,by omega,by go_num,HO5,HB5⟩
     case measure=>simp [intOf];omega
    ·have HOA:Hid (Sv.Own w3.heap.size wr u11 (allN SL L)):=by
      have h:=HO.out
      rw [List.take_of_length_le (by rw [HMM.out];omega)] at h
      exact h
     have hAL2:(allN SL L).length≤1600:=by rw [List.take_of_length_le (by rw [HMM.out];omega)] at hAL;exact hAL
     have HOKA:Hid (∀ x∈allN SL L,x.ok):=fun x hx=>by
      obtain ⟨n',_,h2⟩:=List.mem_flatMap.1 hx
      exact HOKL.out x (List.mem_filter.1 h2).1
     have HBE:Hid (Below w.heap.size w wr):=HB3.out.trans (HB4.out.mono (by omega))
     clear HO hAL
     have HSLA:Hid (Sv.Sl wr u11 (allN SL L)):=Sv.own_names HOA.out HOKA.out
     generalize hAA:allN SL L=AL at *
     have HAA:Hid (allN SL L=AL):=hAA
     clear hAA
     rcases HOA.out.2 with ⟨hv,h0⟩ | ⟨g,c,cur,hv,_,hg,hnc,hcm,_,htake⟩
     ·subst hv
      have hAe:AL=[]:=List.eq_nil_of_length_eq_zero h0
      have hA0:AL.length=0:=h0
      clear h0
      go_wp2_with fail
      go_ret
      refine ⟨_,rfl,?_,HBE.out⟩
      rw [HLL.out,HAA.out,hAe]
      exact ⟨none,0,rfl,fun j=>by simpa using Sv.dm_ok,.inl rfl⟩
     ·subst hv
      clear hg htake
      go_wp2_with fail
      go_ret
      refine ⟨_,rfl,?_,HBE.out⟩
      rw [HLL.out,HAA.out]
      have h:=sl_take (m:=20) HSLA.out
      rw [show (AL.take 20).length=(min (AL.length:Int) 20).toNat by simp;omega] at h
      exact h
end Go.Proofs.YtignmeaeibaejaaGreatDoor
