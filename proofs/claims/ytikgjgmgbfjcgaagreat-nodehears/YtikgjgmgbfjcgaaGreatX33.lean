import Derived.Test.YtikgjgmgbfjcgaaGreatX16
namespace Go.Proofs.YtikgjgmgbfjcgaaGreat
open Go.RowKit
theorem atI_at {ms:List Mem} {t:ByteArray} {r:Int} {p:Nat} {f:Bool} (hi:AtI ms t r) (ha:At ms t p f) (hr:Rise ms):(f=true→r=p)∧(f=false→r = -1):=by
 rcases hi with ⟨k,hk,rfl,hn⟩ | ⟨rfl,hn⟩
 ·have hc:cmpI (ms.getD k dm).name t=0:=(cmpI_eq _ _).2 hn
  have hat:At ms t k true:=⟨by omega,fun j hj=>?_,fun j hj hl=>?_,⟨fun _=>⟨hk,hc⟩,fun _=>rfl⟩⟩
  ·obtain ⟨rfl,rfl⟩:=at_uniq ha hat
   exact ⟨fun _=>rfl,fun h=>by cases h⟩
  ·have hp:=List.pairwise_iff_getElem.1 hr j k (by omega) hk hj
   have e1:ms.getD j dm=ms[j]:=by simp [List.getD,List.getElem?_eq_getElem (show j < ms.length by omega)]
   have e2:ms.getD k dm=ms[k]:=by simp [List.getD,List.getElem?_eq_getElem hk]
   rw [cmpI_lt,e1,← hn,e2];exact hp
  ·rcases Nat.lt_or_eq_of_le hj with h | rfl
   ·have hp:=List.pairwise_iff_getElem.1 hr k j hk hl h
    have e1:ms.getD j dm=ms[j]:=by simp [List.getD,List.getElem?_eq_getElem hl]
    have e2:ms.getD k dm=ms[k]:=by simp [List.getD,List.getElem?_eq_getElem hk]
    have:0 < cmpI (ms.getD j dm).name t:=by rw [cmpI_gt,e1,← hn,e2];exact hp
    omega
   ·omega
 ·refine ⟨fun h=>?_,fun _=>rfl⟩
  have:=ha.is.1 h
  exact absurd ((cmpI_eq _ _).1 this.2) (hn p this.1)
theorem at_hi_ne {ms:List Mem} {t:ByteArray} {p:Nat} {f:Bool} (ha:At ms t p f) (hr:Rise ms) (k:Nat) (hk:p < k) (hl:k < ms.length):(ms.getD k dm).name≠t:=by
 intro e
 have hp:=List.pairwise_iff_getElem.1 hr p k (by omega) hl hk
 have e1:ms.getD p dm=ms[p]:=by simp [List.getD,List.getElem?_eq_getElem (show p < ms.length by omega)]
 have e2:ms.getD k dm=ms[k]:=by simp [List.getD,List.getElem?_eq_getElem hl]
 have h:=ha.hi p (Nat.le_refl _) (by omega)
 have:cmpI (ms.getD p dm).name t < 0:=by rw [cmpI_lt,e1,← e,e2];exact hp
 omega
theorem hearL_old {ms:List Mem} {m:Mem} {p:Nat} (h:At ms m.name p true) (hn:newM m (ms.getD p dm)=false):hearL ms m=ms:=by
 rw [hearL_at ms m p true h,if_pos rfl,if_neg (by rw [hn];exact Bool.false_ne_true)]
theorem hearL_ne {ms:List Mem} {m:Mem} {p:Nat} {f:Bool} (h:At ms m.name p f) (hn:f=true→newM m (ms.getD p dm)=true):hearL ms m≠ms:=by
 rw [hearL_at ms m p f h]
 cases f
 ·intro e
  have:=congrArg List.length e
  simp at this
  have:=h.le
  omega
 ·rw [if_pos rfl,if_pos (hn rfl)]
  intro e
  have hp:=(h.is.1 rfl).1
  have h2:(ms.set p m).getD p dm=m:=by simp [List.getD,hp]
  rw [e] at h2
  have h3:=hn rfl
  rw [h2,newM_irrefl] at h3
  cases h3
theorem hearL_out {ms:List Mem} {m:Mem} {p:Nat} {f:Bool} (h:At ms m.name p f) (hn:f=true→newM m (ms.getD p dm)=true):hearL ms m=ms.take p++m :: ms.drop (if f=true then p+1 else p):=by
 rw [hearL_at ms m p f h]
 cases f
 ·simp
 ·rw [if_pos rfl,if_pos (hn rfl),if_pos rfl]
  rw [List.set_eq_take_append_cons_drop,if_pos (h.is.1 rfl).1]
set_option maxHeartbeats 1000000 in
set_option maxRecDepth 100000 in
theorem hearMember_old (ms:List Mem) (v:Value) (nm:ByteArray) (st lf ad:Int) (sv:Bool) (w:World) (hv:Sl w v ms) (hn:ms.length≤1000) (hr:Rise ms) (p:Nat) (hat:At ms nm p true) (hnew:newM ⟨nm,st,lf,ad,sv⟩ (ms.getD p dm)=false) :
 Calls Tryz.prog 121 #[v,.agg #[.string nm,.int .i64 st,.int .i64 lf,.int .i64 ad,.bool sv]] w fun e w'=>e=.returned (.tuple #[v,.bool false])∧Below w.heap.size w w':=by
 have hb0:Below w.heap.size w (w.alloc (.cells #[.string nm,.int .i64 st,.int .i64 lf,.int .i64 ad,.bool sv] 37)):=(Below.refl _ _).alloc (Nat.le_refl _) _
 have HV:Hid (Sl (w.alloc (.cells #[.string nm,.int .i64 st,.int .i64 lf,.int .i64 ad,.bool sv] 37)) v ms):=hv.below hb0
 have hp:=(hat.is.1 rfl).1
 have HR:Hid (Rise ms):=hr
 have HAT:Hid (At ms nm p true):=hat
 obtain ⟨pa,ca,rfl,_,ha⟩:=hv
 obtain ⟨b1,o1,hp1,hl1,hr1⟩:∃ b off,pa=some ⟨b,off,none⟩∧b < w.heap.size∧Row w b off ms:=by
  rcases ha with h | h
  ·rw [h] at hp;simp at hp
  ·exact h
 subst hp1
 obtain ⟨c0,c1,c2,c3,c4⟩:=hr1 p hp
 clear hr1 ha hat hr
 generalize ms.getD p dm=mk at *
 obtain ⟨nk,sk,lk,ak,vk⟩:=mk
 simp only at c0 c1 c2 c3 c4
 have hq:newB st lf ad sv sk lk ak vk=false:=hnew
 clear hnew
 go_enter Tryz.func121,Tryz.ntmps121
 go_wp2_with fail
 refine (memberAt_any ms _ _ _ HV.out hn).mono ?_
 rintro e w1 ⟨r,rfl,hI,rfl⟩
 have hrp:r=(p:Int):=(atI_at hI.out HAT.out HR.out).1 rfl
 subst hrp
 go_wp2_with fail
 go_region_with (go_at_call 53;refine (newerMember_any _ _ _ _ _ _ _ _ _ _ _).mono ?_;rintro e w' ⟨rfl,rfl⟩;rw [hq])
 all_goals
  go_wp2_with fail
  go_ret2
  exact ⟨rfl,(((hb0.alloc (by simp) _).alloc (by simp;omega) _).drew)⟩
set_option maxHeartbeats 1600000 in
set_option maxRecDepth 100000 in
theorem hearMember_none (ms:List Mem) (v:Value) (nm:ByteArray) (st lf ad:Int) (sv:Bool) (w:World) (hv:Sl w v ms) (hn:ms.length≤1000) (hr:Rise ms) (p:Nat) (hat:At ms nm p false) :
 Calls Tryz.prog 121 #[v,.agg #[.string nm,.int .i64 st,.int .i64 lf,.int .i64 ad,.bool sv]] w fun e w'=>∃ v',e=.returned (.tuple #[v',.bool true])∧Own (w.heap.size+1) w' v' (ms.take p++⟨nm,st,lf,ad,sv⟩ :: ms.drop p)∧Below w.heap.size w w':=by
 obtain ⟨i0,hi0,hz0,hzs,hzb⟩:=info_parts Tryz.info37
 have hb0:Below w.heap.size w (w.alloc (.cells #[.string nm,.int .i64 st,.int .i64 lf,.int .i64 ad,.bool sv] 37)):=(Below.refl _ _).alloc (Nat.le_refl _) _
 have HV:Hid (Sl (w.alloc (.cells #[.string nm,.int .i64 st,.int .i64 lf,.int .i64 ad,.bool sv] 37)) v ms):=hv.below hb0
 have HR:Hid (Rise ms):=hr
 have HAT:Hid (At ms nm p false):=hat
 obtain ⟨pa,ca,rfl,_,ha⟩:=hv
 have HA:Hid (ms=[]∨∃ b off,pa=some ⟨b,off,none⟩∧b < w.heap.size∧Row w b off ms):=ha
 have hpn:=hat.le
 clear ha hat hr
 generalize hna:ms.length=n at *
 have HN:Hid (ms.length=n):=hna
 clear hna
 go_enter Tryz.func121,Tryz.ntmps121
 go_wp2_with fail
 refine (memberAt_any ms _ _ _ HV.out (by have:=HN.out;omega)).mono ?_
 rintro e w1 ⟨r,rfl,hI,rfl⟩
 have hrp:r=(-1:Int):=(atI_at hI.out HAT.out HR.out).2 rfl
 subst hrp
 go_wp2_with fail
 go_quiet (fail)
 go_wp2_with fail
 have hm1000:n≤1000:=hn
 obtain ⟨W1,hW1⟩:∃ W1,W1=w.alloc (.cells #[.string nm,.int .i64 st,.int .i64 lf,.int .i64 ad,.bool sv] 37):=⟨_,rfl⟩
 have hs1:W1.heap.size=w.heap.size+1:=by rw [hW1];simp
 have hB1:Below (w.heap.size+1) W1 ((w.alloc (.cells #[.string nm,.int .i64 st,.int .i64 lf,.int .i64 ad,.bool sv] 37)).drewN nq):=by rw [hW1];exact below_drewN (Below.refl _ _) _
 have hg1:W1.heap[w.heap.size]?=some (.cells #[.string nm,.int .i64 st,.int .i64 lf,.int .i64 ad,.bool sv] 37 (0,0)):=by rw [hW1];exact heap_alloc_new w _
 have d0:W1.cell? ⟨w.heap.size,0,none⟩=some (.string nm):=cellsAt hg1 0
 have d1:W1.cell? ⟨w.heap.size,1,none⟩=some (.int .i64 st):=cellsAt hg1 1
 have d2:W1.cell? ⟨w.heap.size,2,none⟩=some (.int .i64 lf):=cellsAt hg1 2
 have d3:W1.cell? ⟨w.heap.size,3,none⟩=some (.int .i64 ad):=cellsAt hg1 3
 have d4:W1.cell? ⟨w.heap.size,4,none⟩=some (.bool sv):=cellsAt hg1 4
 have hb01:Hid (Below w.heap.size w W1):=by rw [hW1];exact hb0
 have HA:Hid (ms=[]∨∃ b off,pa=some ⟨b,off,none⟩∧b < w.heap.size+1∧Row W1 b off ms):=by
  rcases HA.out with h | ⟨b,off,h1,h2,h3⟩
  ·exact .inl h
  ·exact .inr ⟨b,off,h1,by omega,h3.later hb01.out h2⟩
 clear hW1 hg1 hb0 HV hI
 go_loopw [7,8,9] (fun kn b i w'=>∃ (k:Nat) (bb:Bool),k≤n∧i=.int .i64 k∧b=.bool bb∧Hid (bb=true↔p < k)∧Below (w.heap.size+1) W1 w'∧Hid (Own (w.heap.size+1) w' kn (outL ms (Mem.mk nm st lf ad sv) p (p) k))) (fun _ _ i _=>n - (intOf i).toNat)
 case atStart=>exact ⟨0,false,Nat.zero_le _,rfl,rfl,⟨fun h=>(by cases h),fun h=>(by omega)⟩,hB1,own_nil _ _⟩
 case round=>
  obtain ⟨k,bb,hk,rfl,rfl,hbb,hbl,HO⟩:=hrel
  have hbc:∀ b o,b < w.heap.size+1→wr.cell? ⟨b,o,none⟩=W1.cell? ⟨b,o,none⟩:=fun b o h=>hbl.cell (p:=⟨b,o,none⟩) h
  have hsz:=hbl.size
  have hlen := @outL_len ms (Mem.mk nm st lf ad sv) p (p) k
  have hlen2:(outL ms (Mem.mk nm st lf ad sv) p (p) k).length≤2001:=by have:=HN.out;omega
  clear hlen
  by_cases hlt:k < n
  ·obtain ⟨b1,o1,hp1,hl1,hr1⟩:∃ b off,pa=some ⟨b,off,none⟩∧b < w.heap.size+1∧Row W1 b off ms:=by
    rcases HA.out with h | h
    ·have:=HN.out;rw [h] at this;simp at this;omega
    ·exact h
   subst hp1
   obtain ⟨c0,c1,c2,c3,c4⟩:=hr1 k (by rw [HN.out];exact hlt)
   clear hr1
   have HLO:Hid (k < p→outL ms (Mem.mk nm st lf ad sv) p (p) (k+1)=outL ms (Mem.mk nm st lf ad sv) p (p) k++[ms.getD k dm]∧less (ms.getD k dm).name nm=true):=fun h=>⟨outL_lo h (by rw [HN.out];exact hlt),(cmpI_lt _ _).1 (HAT.out.lo k h)⟩
   have HHI:Hid (p < k→outL ms (Mem.mk nm st lf ad sv) p (p) (k+1)=outL ms (Mem.mk nm st lf ad sv) p (p) k++[ms.getD k dm]∧(ms.getD k dm).name≠nm):=fun h=>⟨outL_hi h (by omega) (by rw [HN.out];exact hlt),at_hi_ne HAT.out HR.out k h (by rw [HN.out];exact hlt)⟩
   have HEQ:Hid (k=p→outL ms (Mem.mk nm st lf ad sv) p (p) (k+1)=(outL ms (Mem.mk nm st lf ad sv) p (p) k++[(Mem.mk nm st lf ad sv)])++[ms.getD k dm]∧less nm (ms.getD k dm).name=true):=fun h=>by
    subst h
    refine ⟨outL_ne (by rw [HN.out];exact hlt),(cmpI_gt _ _).1 ?_⟩
    have h1:=HAT.out.hi k (Nat.le_refl _) (by rw [HN.out];exact hlt)
    have h2:¬ cmpI (ms.getD k dm).name nm=0:=fun e=>by have:=HAT.out.is.2 ⟨by rw [HN.out];exact hlt,e⟩;cases this
    omega
   generalize ms.getD k dm=mk at *
   obtain ⟨nk,sk,lk,ak,vk⟩:=mk
   simp only at c0 c1 c2 c3 c4
   rcases Nat.lt_trichotomy k p with hkp | hkp | hkp
   ·have hbf:bb=false:=by
     cases bb
     ·rfl
     ·have:=hbb.out.1 rfl;omega
    subst hbf
    obtain ⟨hO,hls⟩:=HLO.out hkp
    have HOL:Hid (outL ms (Mem.mk nm st lf ad sv) p (p) (k+1)=outL ms (Mem.mk nm st lf ad sv) p (p) k++[⟨nk,sk,lk,ak,vk⟩]):=hO
    have hl1':Op.bytesLess nk.toList nm.toList=true:=hls
    obtain ⟨hne1,hne2⟩:=beq_name (a:=nk) (b:=nm) (fun e=>by rw [e] at hls;have:=less_irrefl nm;rw [hls] at this;cases this)
    clear hO hls HLO HHI HEQ hbb
    generalize outL ms (Mem.mk nm st lf ad sv) p (p) k=L at *
    go_wp2_with fail
    go_quiet (fail)
    go_wp2_with fail
    go_quiet (fail)
    go_wp2_with (at_builtin;refine wpList_append_own _ rfl _ _ 22 rfl (w.heap.size+1) 37 i0 _ 5 48 Tryz.underlying22 hi0 hz0 hzs hzb rfl (by omega) _ (L).length (fl (L)) rfl ?hown ⟨wr.heap.size,0,none⟩ 1 1 (Mem.mk nk sk lk ak vk).cs rfl rfl ?hnews (cs_one _) ?h63 ?hbytes ?hbase ?_)
    case hown=>(refine HO.out.below ?_;repeat (first | exact Below.refl _ _ | refine below_drewN ?_ _ | refine Below.alloc ?_ (by simp) _ | refine Below.drew ?_))
    case hnews=>(intro j u hj;rw [Addr.add_lit];exact (cellsAt (heap_alloc_new wr (.cells #[.string nk,.int .i64 sk,.int .i64 lk,.int .i64 ak,.bool vk] 37)) (0+j)).trans (by simpa [Mem.cs] using hj))
    case h63=>(unfold maxLen;omega)
    case hbytes=>omega
    case hbase=>(simp;omega)
    intro v' w2 r1 r2 r3
    have HBX:Hid (Below (w.heap.size+1) W1 w2):=by
     have h0:Below (w.heap.size+1) W1 (wr.alloc (.cells #[.string nk,.int .i64 sk,.int .i64 lk,.int .i64 ak,.bool vk] 37)):=hbl.alloc (by omega) _
     have h1:=h0.trans (below_drewN (Below.refl _ _) 0)
     exact h0.trans ((Below.refl _ _).grown (w:=wr.alloc (.cells #[.string nk,.int .i64 sk,.int .i64 lk,.int .i64 ak,.bool vk] 37)) ⟨r2.os,r2.tape,r2.output,r2.size,r2.block⟩ (by simp;omega) (fun j hj=>(HO.out.lt j hj).1))
    have HOX:Hid (Own (w.heap.size+1) w2 v' (L++[⟨nk,sk,lk,ak,vk⟩])):=own_snoc r1
    go_wp2_with fail
    exact ⟨⟨k+1,false,by omega,by go_num,rfl,⟨fun h=>(by cases h),fun h=>(by omega)⟩,HBX.out,(by rw [HOL.out];exact HOX.out)⟩,by simp [intOf];omega⟩
   ·subst hkp
    have hbf:bb=false:=by
     cases bb
     ·rfl
     ·have:=hbb.out.1 rfl;omega
    subst hbf
    obtain ⟨hO,hls⟩:=HEQ.out rfl
    have HOL:Hid (outL ms (Mem.mk nm st lf ad sv) k k (k+1)=(outL ms (Mem.mk nm st lf ad sv) k k k++[(Mem.mk nm st lf ad sv)])++[⟨nk,sk,lk,ak,vk⟩]):=hO
    have hl1':Op.bytesLess nk.toList nm.toList=false:=less_asymm hls
    obtain ⟨hne1,hne2⟩:=beq_name (a:=nk) (b:=nm) (fun e=>by rw [e] at hls;have:=less_irrefl nm;rw [hls] at this;cases this)
    clear hO hls HLO HHI HEQ hbb
    generalize outL ms (Mem.mk nm st lf ad sv) k k k=L at *
    go_wp2_with fail
    go_quiet (fail)
    go_wp2_with (at_builtin;refine wpList_append_own _ rfl _ _ 22 rfl (w.heap.size+1) 37 i0 _ 5 48 Tryz.underlying22 hi0 hz0 hzs hzb rfl (by omega) _ (L).length (fl (L)) rfl ?hown ⟨wr.heap.size,0,none⟩ 1 1 (Mem.mk nm st lf ad sv).cs rfl rfl ?hnews (cs_one _) ?h63 ?hbytes ?hbase ?_)
    case hown=>(refine HO.out.below ?_;repeat (first | exact Below.refl _ _ | refine below_drewN ?_ _ | refine Below.alloc ?_ (by simp) _ | refine Below.drew ?_))
    case hnews=>(intro j u hj;rw [Addr.add_lit];exact (cellsAt (heap_alloc_new wr (.cells #[.string nm,.int .i64 st,.int .i64 lf,.int .i64 ad,.bool sv] 37)) (0+j)).trans (by simpa [Mem.cs] using hj))
    case h63=>(unfold maxLen;omega)
    case hbytes=>omega
    case hbase=>(simp;omega)
    intro v' w2 r1 r2 r3
    have HBX:Hid (Below (w.heap.size+1) W1 w2):=by
     have h0:Below (w.heap.size+1) W1 (wr.alloc (.cells #[.string nm,.int .i64 st,.int .i64 lf,.int .i64 ad,.bool sv] 37)):=hbl.alloc (by omega) _
     have h1:=h0.trans (below_drewN (Below.refl _ _) 0)
     exact h0.trans ((Below.refl _ _).grown (w:=wr.alloc (.cells #[.string nm,.int .i64 st,.int .i64 lf,.int .i64 ad,.bool sv] 37)) ⟨r2.os,r2.tape,r2.output,r2.size,r2.block⟩ (by simp;omega) (fun j hj=>(HO.out.lt j hj).1))
    have HOX:Hid (Own (w.heap.size+1) w2 v' (L++[(Mem.mk nm st lf ad sv)])):=own_snoc r1
    have hlen3:(L++[(Mem.mk nm st lf ad sv)]).length≤2002:=by simp;omega
    clear r1 r2 r3 hbl hbc hsz HO hlen2
    have hbl:=HBX.out
    have hbc:∀ b o,b < w.heap.size+1→w2.cell? ⟨b,o,none⟩=W1.cell? ⟨b,o,none⟩:=fun b o h=>hbl.cell (p:=⟨b,o,none⟩) h
    have hsz:=hbl.size
    go_wp2_with fail
    go_quiet (fail)
    go_wp2_with (at_builtin;refine wpList_append_own _ rfl _ _ 22 rfl (w.heap.size+1) 37 i0 _ 5 48 Tryz.underlying22 hi0 hz0 hzs hzb rfl (by omega) _ (L++[(Mem.mk nm st lf ad sv)]).length (fl (L++[(Mem.mk nm st lf ad sv)])) rfl ?hown ⟨w2.heap.size,0,none⟩ 1 1 (Mem.mk nk sk lk ak vk).cs rfl rfl ?hnews (cs_one _) ?h63 ?hbytes ?hbase ?_)
    case hown=>(refine HOX.out.below ?_;repeat (first | exact Below.refl _ _ | refine below_drewN ?_ _ | refine Below.alloc ?_ (by simp) _ | refine Below.drew ?_))
    case hnews=>(intro j u hj;rw [Addr.add_lit];exact (cellsAt (heap_alloc_new w2 (.cells #[.string nk,.int .i64 sk,.int .i64 lk,.int .i64 ak,.bool vk] 37)) (0+j)).trans (by simpa [Mem.cs] using hj))
    case h63=>(unfold maxLen;omega)
    case hbytes=>omega
    case hbase=>(simp;omega)
    intro v'' w3 r1 r2 r3
    have HOY:Hid (Own (w.heap.size+1) w3 v'' ((L++[(Mem.mk nm st lf ad sv)])++[⟨nk,sk,lk,ak,vk⟩])):=own_snoc (by rw [List.length_append];exact r1)
    have HBX:Hid (Below (w.heap.size+1) W1 w3):=by
     have h0:Below (w.heap.size+1) W1 (w2.alloc (.cells #[.string nk,.int .i64 sk,.int .i64 lk,.int .i64 ak,.bool vk] 37)):=hbl.alloc (by omega) _
     exact h0.trans ((Below.refl _ _).grown (w:=w2.alloc (.cells #[.string nk,.int .i64 sk,.int .i64 lk,.int .i64 ak,.bool vk] 37)) ⟨r2.os,r2.tape,r2.output,r2.size,r2.block⟩ (by simp;omega) (fun j hj=>(HOX.out.lt j hj).1))
    go_wp2_with fail
    exact ⟨⟨k+1,true,by omega,by go_num,rfl,⟨fun _=>(by omega),fun _=>rfl⟩,HBX.out,(by rw [HOL.out];exact HOY.out)⟩,by simp [intOf];omega⟩
   ·have hbf:bb=true:=hbb.out.2 hkp
    subst hbf
    obtain ⟨hO,hnn⟩:=HHI.out hkp
    have HOL:Hid (outL ms (Mem.mk nm st lf ad sv) p (p) (k+1)=outL ms (Mem.mk nm st lf ad sv) p (p) k++[⟨nk,sk,lk,ak,vk⟩]):=hO
    obtain ⟨hne1,hne2⟩:=beq_name (a:=nk) (b:=nm) hnn
    clear hO hnn HLO HHI HEQ hbb
    generalize outL ms (Mem.mk nm st lf ad sv) p (p) k=L at *
    go_wp2_with fail
    go_quiet (fail)
    go_wp2_with fail
    go_quiet (fail)
    go_wp2_with (at_builtin;refine wpList_append_own _ rfl _ _ 22 rfl (w.heap.size+1) 37 i0 _ 5 48 Tryz.underlying22 hi0 hz0 hzs hzb rfl (by omega) _ (L).length (fl (L)) rfl ?hown ⟨wr.heap.size,0,none⟩ 1 1 (Mem.mk nk sk lk ak vk).cs rfl rfl ?hnews (cs_one _) ?h63 ?hbytes ?hbase ?_)
    case hown=>(refine HO.out.below ?_;repeat (first | exact Below.refl _ _ | refine below_drewN ?_ _ | refine Below.alloc ?_ (by simp) _ | refine Below.drew ?_))
    case hnews=>(intro j u hj;rw [Addr.add_lit];exact (cellsAt (heap_alloc_new wr (.cells #[.string nk,.int .i64 sk,.int .i64 lk,.int .i64 ak,.bool vk] 37)) (0+j)).trans (by simpa [Mem.cs] using hj))
    case h63=>(unfold maxLen;omega)
    case hbytes=>omega
    case hbase=>(simp;omega)
    intro v' w2 r1 r2 r3
    have HBX:Hid (Below (w.heap.size+1) W1 w2):=by
     have h0:Below (w.heap.size+1) W1 (wr.alloc (.cells #[.string nk,.int .i64 sk,.int .i64 lk,.int .i64 ak,.bool vk] 37)):=hbl.alloc (by omega) _
     have h1:=h0.trans (below_drewN (Below.refl _ _) 0)
     exact h0.trans ((Below.refl _ _).grown (w:=wr.alloc (.cells #[.string nk,.int .i64 sk,.int .i64 lk,.int .i64 ak,.bool vk] 37)) ⟨r2.os,r2.tape,r2.output,r2.size,r2.block⟩ (by simp;omega) (fun j hj=>(HO.out.lt j hj).1))
    have HOX:Hid (Own (w.heap.size+1) w2 v' (L++[⟨nk,sk,lk,ak,vk⟩])):=own_snoc r1
    go_wp2_with fail
    exact ⟨⟨k+1,true,by omega,by go_num,rfl,⟨fun _=>(by omega),fun _=>rfl⟩,HBX.out,(by rw [HOL.out];exact HOX.out)⟩,by simp [intOf];omega⟩
  ·have hkn:k=n:=by omega
   subst hkn
   by_cases hpk:p < k
   ·have hbf:bb=true:=hbb.out.2 hpk
    subst hbf
    have HFO:Hid (Own (w.heap.size+1) wr u7 (ms.take p++(Mem.mk nm st lf ad sv) :: ms.drop (p))):=by
     have h:=HO.out
     have hk':=HN.out
     rw [← hk',outL_end (by omega)] at h
     exact h
    have HBX:Hid (Below w.heap.size w wr):=hb01.out.trans (hbl.mono (by omega))
    clear HO hlen2
    go_wp2_with fail
    go_ret2
    exact ⟨u7,rfl,HFO.out,HBX.out⟩
   ·have hbf:bb=false:=by
     cases bb
     ·rfl
     ·have:=hbb.out.1 rfl;omega
    subst hbf
    have hpe:p=k:=by omega
    subst hpe
    have HOZ:Hid (Own (w.heap.size+1) wr u7 ms):=by
     have h:=HO.out
     rw [outL,if_pos (Nat.le_refl _),List.take_of_length_le (by rw [HN.out];exact Nat.le_refl _)] at h
     exact h
    have hle:ms.length≤1000:=by rw [HN.out];exact hm1000
    have hfin:Hid (ms.take p++(Mem.mk nm st lf ad sv) :: ms.drop p=ms++[(Mem.mk nm st lf ad sv)]):=by
     have h:ms.length≤p:=by rw [HN.out];exact Nat.le_refl _
     show ms.take p++(Mem.mk nm st lf ad sv) :: ms.drop p=ms++[(Mem.mk nm st lf ad sv)]
     rw [List.take_of_length_le h,List.drop_of_length_le h]
    clear HO hlen2
    go_wp2_with (at_builtin;refine wpList_append_own _ rfl _ _ 22 rfl (w.heap.size+1) 37 i0 _ 5 48 Tryz.underlying22 hi0 hz0 hzs hzb rfl (by omega) _ (ms).length (fl (ms)) rfl ?hown ⟨wr.heap.size,0,none⟩ 1 1 (Mem.mk nm st lf ad sv).cs rfl rfl ?hnews (cs_one _) ?h63 ?hbytes ?hbase ?_)
    case hown=>(refine HOZ.out.below ?_;repeat (first | exact Below.refl _ _ | refine below_drewN ?_ _ | refine Below.alloc ?_ (by simp) _ | refine Below.drew ?_))
    case hnews=>(intro j u hj;rw [Addr.add_lit];exact (cellsAt (heap_alloc_new wr (.cells #[.string nm,.int .i64 st,.int .i64 lf,.int .i64 ad,.bool sv] 37)) (0+j)).trans (by simpa [Mem.cs] using hj))
    case h63=>(unfold maxLen;omega)
    case hbytes=>omega
    case hbase=>(simp;omega)
    intro v' w2 r1 r2 r3
    have HFO:Hid (Own (w.heap.size+1) w2 v' (ms++[(Mem.mk nm st lf ad sv)])):=own_snoc r1
    have HBX:Hid (Below w.heap.size w w2):=by
     have h0:Below (w.heap.size+1) W1 (wr.alloc (.cells #[.string nm,.int .i64 st,.int .i64 lf,.int .i64 ad,.bool sv] 37)):=hbl.alloc (by omega) _
     have h1:=h0.trans ((Below.refl _ _).grown (w:=wr.alloc (.cells #[.string nm,.int .i64 st,.int .i64 lf,.int .i64 ad,.bool sv] 37)) ⟨r2.os,r2.tape,r2.output,r2.size,r2.block⟩ (by simp;omega) (fun j hj=>(HOZ.out.lt j hj).1))
     exact hb01.out.trans (h1.mono (by omega))
    go_wp2_with fail
    go_ret2
    exact ⟨v',rfl,by rw [hfin.out];exact HFO.out,HBX.out⟩
set_option maxHeartbeats 4000000 in
set_option maxRecDepth 100000 in
theorem hearMember_newer (ms:List Mem) (v:Value) (nm:ByteArray) (st lf ad:Int) (sv:Bool) (w:World) (hv:Sl w v ms) (hn:ms.length≤1000) (hr:Rise ms) (p:Nat) (hat:At ms nm p true) (hnew:newM ⟨nm,st,lf,ad,sv⟩ (ms.getD p dm)=true) :
 Calls Tryz.prog 121 #[v,.agg #[.string nm,.int .i64 st,.int .i64 lf,.int .i64 ad,.bool sv]] w fun e w'=>∃ v',e=.returned (.tuple #[v',.bool true])∧Own (w.heap.size+1) w' v' (ms.take p++⟨nm,st,lf,ad,sv⟩ :: ms.drop (p+1))∧Below w.heap.size w w':=by
 obtain ⟨i0,hi0,hz0,hzs,hzb⟩:=info_parts Tryz.info37
 have hb0:Below w.heap.size w (w.alloc (.cells #[.string nm,.int .i64 st,.int .i64 lf,.int .i64 ad,.bool sv] 37)):=(Below.refl _ _).alloc (Nat.le_refl _) _
 have HV:Hid (Sl (w.alloc (.cells #[.string nm,.int .i64 st,.int .i64 lf,.int .i64 ad,.bool sv] 37)) v ms):=hv.below hb0
 have HR:Hid (Rise ms):=hr
 have HAT:Hid (At ms nm p true):=hat
 have hp:=(hat.is.1 rfl).1
 obtain ⟨pa,ca,rfl,_,ha⟩:=hv
 have HA:Hid (ms=[]∨∃ b off,pa=some ⟨b,off,none⟩∧b < w.heap.size∧Row w b off ms):=ha
 have hpn:=hat.le
 obtain ⟨b9,o9,hp9,hl9,hr9⟩:∃ b off,pa=some ⟨b,off,none⟩∧b < w.heap.size∧Row w b off ms:=by
  rcases ha with h | h
  ·rw [h] at hp;simp at hp
  ·exact h
 subst hp9
 obtain ⟨e0,e1,e2,e3,e4⟩:=hr9 p hp
 clear hr9 ha hat hr
 generalize hm9:ms.getD p dm=m9 at *
 have Hm9:Hid (ms.getD p dm=m9):=hm9
 clear hm9
 obtain ⟨nm2,s2,l2,a2,v2⟩:=m9
 simp only at e0 e1 e2 e3 e4
 have hq:newB st lf ad sv s2 l2 a2 v2=true:=hnew
 clear hnew
 generalize hna:ms.length=n at *
 have HN:Hid (ms.length=n):=hna
 clear hna
 go_enter Tryz.func121,Tryz.ntmps121
 go_wp2_with fail
 refine (memberAt_any ms _ _ _ HV.out (by have:=HN.out;omega)).mono ?_
 rintro e w1 ⟨r,rfl,hI,rfl⟩
 have hrp:r=(p:Int):=(atI_at hI.out HAT.out HR.out).1 rfl
 subst hrp
 go_wp2_with fail
 go_region_with (go_at_call 53;refine (newerMember_any _ _ _ _ _ _ _ _ _ _ _).mono ?_;rintro e w' ⟨rfl,rfl⟩;rw [hq])
 all_goals clear e0 e1 e2 e3 e4
 all_goals go_wp2_with fail
 all_goals
  have hm1000:n≤1000:=hn
  obtain ⟨W1,hW1⟩:∃ W1,W1=w.alloc (.cells #[.string nm,.int .i64 st,.int .i64 lf,.int .i64 ad,.bool sv] 37):=⟨_,rfl⟩
  have hs1:W1.heap.size=w.heap.size+1:=by rw [hW1];simp
  have hB1:Below (w.heap.size+1) W1 ((((w.alloc (.cells #[.string nm,.int .i64 st,.int .i64 lf,.int .i64 ad,.bool sv] 37)).alloc (.cells #[.string nm,.int .i64 st,.int .i64 lf,.int .i64 ad,.bool sv] 37)).alloc (.cells #[.string nm2,.int .i64 s2,.int .i64 l2,.int .i64 a2,.bool v2] 37)).drew):=by rw [hW1];exact ((((Below.refl _ _).alloc (by simp) _).alloc (by simp) _).drew)
  have hg1:W1.heap[w.heap.size]?=some (.cells #[.string nm,.int .i64 st,.int .i64 lf,.int .i64 ad,.bool sv] 37 (0,0)):=by rw [hW1];exact heap_alloc_new w _
  have d0:W1.cell? ⟨w.heap.size,0,none⟩=some (.string nm):=cellsAt hg1 0
  have d1:W1.cell? ⟨w.heap.size,1,none⟩=some (.int .i64 st):=cellsAt hg1 1
  have d2:W1.cell? ⟨w.heap.size,2,none⟩=some (.int .i64 lf):=cellsAt hg1 2
  have d3:W1.cell? ⟨w.heap.size,3,none⟩=some (.int .i64 ad):=cellsAt hg1 3
  have d4:W1.cell? ⟨w.heap.size,4,none⟩=some (.bool sv):=cellsAt hg1 4
  have hb01:Hid (Below w.heap.size w W1):=by rw [hW1];exact hb0
  have HA:Hid (ms=[]∨∃ b off,(some ⟨b9,o9,none⟩:Option Addr)=some ⟨b,off,none⟩∧b < w.heap.size+1∧Row W1 b off ms):=by
   rcases HA.out with h | ⟨b,off,h1,h2,h3⟩
   ·exact .inl h
   ·exact .inr ⟨b,off,h1,by omega,h3.later hb01.out h2⟩
  clear hW1 hg1 hb0 HV hI
  go_loopw [7,8,9] (fun kn b i w'=>∃ (k:Nat) (bb:Bool),k≤n∧i=.int .i64 k∧b=.bool bb∧Hid (bb=true↔p < k)∧Below (w.heap.size+1) W1 w'∧Hid (Own (w.heap.size+1) w' kn (outL ms (Mem.mk nm st lf ad sv) p (p+1) k))) (fun _ _ i _=>n - (intOf i).toNat)
  case atStart=>exact ⟨0,false,Nat.zero_le _,rfl,rfl,⟨fun h=>(by cases h),fun h=>(by omega)⟩,hB1,own_nil _ _⟩
  case round=>
   obtain ⟨k,bb,hk,rfl,rfl,hbb,hbl,HO⟩:=hrel
   have hbc:∀ b o,b < w.heap.size+1→wr.cell? ⟨b,o,none⟩=W1.cell? ⟨b,o,none⟩:=fun b o h=>hbl.cell (p:=⟨b,o,none⟩) h
   have hsz:=hbl.size
   have hlen := @outL_len ms (Mem.mk nm st lf ad sv) p (p+1) k
   have hlen2:(outL ms (Mem.mk nm st lf ad sv) p (p+1) k).length≤2001:=by have:=HN.out;omega
   clear hlen
   by_cases hlt:k < n
   ·obtain ⟨b1,o1,hp1,hl1,hr1⟩:∃ b off,(some ⟨b9,o9,none⟩:Option Addr)=some ⟨b,off,none⟩∧b < w.heap.size+1∧Row W1 b off ms:=by
     rcases HA.out with h | h
     ·have:=HN.out;rw [h] at this;simp at this;omega
     ·exact h
    simp only [Option.some.injEq,Addr.mk.injEq,and_true] at hp1
    obtain ⟨rfl,rfl⟩:=hp1
    obtain ⟨c0,c1,c2,c3,c4⟩:=hr1 k (by rw [HN.out];exact hlt)
    clear hr1
    have HLO:Hid (k < p→outL ms (Mem.mk nm st lf ad sv) p (p+1) (k+1)=outL ms (Mem.mk nm st lf ad sv) p (p+1) k++[ms.getD k dm]∧less (ms.getD k dm).name nm=true):=fun h=>⟨outL_lo h (by rw [HN.out];exact hlt),(cmpI_lt _ _).1 (HAT.out.lo k h)⟩
    have HHI:Hid (p < k→outL ms (Mem.mk nm st lf ad sv) p (p+1) (k+1)=outL ms (Mem.mk nm st lf ad sv) p (p+1) k++[ms.getD k dm]∧(ms.getD k dm).name≠nm):=fun h=>⟨outL_hi h (by omega) (by rw [HN.out];exact hlt),at_hi_ne HAT.out HR.out k h (by rw [HN.out];exact hlt)⟩
    have HEQ:Hid (k=p→outL ms (Mem.mk nm st lf ad sv) p (p+1) (k+1)=outL ms (Mem.mk nm st lf ad sv) p (p+1) k++[(Mem.mk nm st lf ad sv)]∧(ms.getD k dm).name=nm):=fun h=>by subst h;exact ⟨outL_eq (by rw [HN.out];exact hlt),(cmpI_eq _ _).1 (HAT.out.is.1 rfl).2⟩
    generalize ms.getD k dm=mk at *
    obtain ⟨nk,sk,lk,ak,vk⟩:=mk
    simp only at c0 c1 c2 c3 c4
    rcases Nat.lt_trichotomy k p with hkp | hkp | hkp
    ·have hbf:bb=false:=by
      cases bb
      ·rfl
      ·have:=hbb.out.1 rfl;omega
     subst hbf
     obtain ⟨hO,hls⟩:=HLO.out hkp
     have HOL:Hid (outL ms (Mem.mk nm st lf ad sv) p (p+1) (k+1)=outL ms (Mem.mk nm st lf ad sv) p (p+1) k++[⟨nk,sk,lk,ak,vk⟩]):=hO
     have hl1':Op.bytesLess nk.toList nm.toList=true:=hls
     obtain ⟨hne1,hne2⟩:=beq_name (a:=nk) (b:=nm) (fun e=>by rw [e] at hls;have:=less_irrefl nm;rw [hls] at this;cases this)
     clear hO hls HLO HHI HEQ hbb
     generalize outL ms (Mem.mk nm st lf ad sv) p (p+1) k=L at *
     go_wp2_with fail
     go_quiet (fail)
     go_wp2_with fail
     go_quiet (fail)
     go_wp2_with (at_builtin;refine wpList_append_own _ rfl _ _ 22 rfl (w.heap.size+1) 37 i0 _ 5 48 Tryz.underlying22 hi0 hz0 hzs hzb rfl (by omega) _ (L).length (fl (L)) rfl ?hown ⟨wr.heap.size,0,none⟩ 1 1 (Mem.mk nk sk lk ak vk).cs rfl rfl ?hnews (cs_one _) ?h63 ?hbytes ?hbase ?_)
     case hown=>(refine HO.out.below ?_;repeat (first | exact Below.refl _ _ | refine below_drewN ?_ _ | refine Below.alloc ?_ (by simp) _ | refine Below.drew ?_))
     case hnews=>(intro j u hj;rw [Addr.add_lit];exact (cellsAt (heap_alloc_new wr (.cells #[.string nk,.int .i64 sk,.int .i64 lk,.int .i64 ak,.bool vk] 37)) (0+j)).trans (by simpa [Mem.cs] using hj))
     case h63=>(unfold maxLen;omega)
     case hbytes=>omega
     case hbase=>(simp;omega)
     intro v' w2 r1 r2 r3
     have HBX:Hid (Below (w.heap.size+1) W1 w2):=by
      have h0:Below (w.heap.size+1) W1 (wr.alloc (.cells #[.string nk,.int .i64 sk,.int .i64 lk,.int .i64 ak,.bool vk] 37)):=hbl.alloc (by omega) _
      have h1:=h0.trans (below_drewN (Below.refl _ _) 0)
      exact h0.trans ((Below.refl _ _).grown (w:=wr.alloc (.cells #[.string nk,.int .i64 sk,.int .i64 lk,.int .i64 ak,.bool vk] 37)) ⟨r2.os,r2.tape,r2.output,r2.size,r2.block⟩ (by simp;omega) (fun j hj=>(HO.out.lt j hj).1))
     have HOX:Hid (Own (w.heap.size+1) w2 v' (L++[⟨nk,sk,lk,ak,vk⟩])):=own_snoc r1
     go_wp2_with fail
     exact ⟨⟨k+1,false,by omega,by go_num,rfl,⟨fun h=>(by cases h),fun h=>(by omega)⟩,HBX.out,(by rw [HOL.out];exact HOX.out)⟩,by simp [intOf];omega⟩
    ·subst hkp
     have hbf:bb=false:=by
      cases bb
      ·rfl
      ·have:=hbb.out.1 rfl;omega
     subst hbf
     obtain ⟨hO,hls⟩:=HEQ.out rfl
     have HOL:Hid (outL ms (Mem.mk nm st lf ad sv) k (k+1) (k+1)=outL ms (Mem.mk nm st lf ad sv) k (k+1) k++[(Mem.mk nm st lf ad sv)]):=hO
     subst hls
     have hl1':Op.bytesLess nk.toList nk.toList=false:=bl_irrefl _
     clear hO HLO HHI HEQ hbb
     generalize outL ms (Mem.mk nk st lf ad sv) k (k+1) k=L at *
     go_wp2_with fail
     go_quiet (fail)
     go_wp2_with (at_builtin;refine wpList_append_own _ rfl _ _ 22 rfl (w.heap.size+1) 37 i0 _ 5 48 Tryz.underlying22 hi0 hz0 hzs hzb rfl (by omega) _ (L).length (fl (L)) rfl ?hown ⟨wr.heap.size,0,none⟩ 1 1 (Mem.mk nk st lf ad sv).cs rfl rfl ?hnews (cs_one _) ?h63 ?hbytes ?hbase ?_)
     case hown=>(refine HO.out.below ?_;repeat (first | exact Below.refl _ _ | refine below_drewN ?_ _ | refine Below.alloc ?_ (by simp) _ | refine Below.drew ?_))
     case hnews=>(intro j u hj;rw [Addr.add_lit];exact (cellsAt (heap_alloc_new wr (.cells #[.string nk,.int .i64 st,.int .i64 lf,.int .i64 ad,.bool sv] 37)) (0+j)).trans (by simpa [Mem.cs] using hj))
     case h63=>(unfold maxLen;omega)
     case hbytes=>omega
     case hbase=>(simp;omega)
     intro v' w2 r1 r2 r3
     have HBX:Hid (Below (w.heap.size+1) W1 w2):=by
      have h0:Below (w.heap.size+1) W1 (wr.alloc (.cells #[.string nk,.int .i64 st,.int .i64 lf,.int .i64 ad,.bool sv] 37)):=hbl.alloc (by omega) _
      have h1:=h0.trans (below_drewN (Below.refl _ _) 0)
      exact h0.trans ((Below.refl _ _).grown (w:=wr.alloc (.cells #[.string nk,.int .i64 st,.int .i64 lf,.int .i64 ad,.bool sv] 37)) ⟨r2.os,r2.tape,r2.output,r2.size,r2.block⟩ (by simp;omega) (fun j hj=>(HO.out.lt j hj).1))
     have HOX:Hid (Own (w.heap.size+1) w2 v' (L++[Mem.mk nk st lf ad sv])):=own_snoc r1
     clear r1 r2 r3 hbl hbc hsz HO hlen2
     have hbl:=HBX.out
     have hbc:∀ b o,b < w.heap.size+1→w2.cell? ⟨b,o,none⟩=W1.cell? ⟨b,o,none⟩:=fun b o h=>hbl.cell (p:=⟨b,o,none⟩) h
     have hsz:=hbl.size
     go_wp2_with fail
     go_quiet (fail)
     go_wp2_with fail
     exact ⟨⟨k+1,true,by omega,by go_num,rfl,⟨fun _=>(by omega),fun _=>rfl⟩,below_drewN HBX.out _,(by rw [HOL.out];exact HOX.out.below (below_drewN (Below.refl _ _) _))⟩,by simp [intOf];omega⟩
    ·have hbf:bb=true:=hbb.out.2 hkp
     subst hbf
     obtain ⟨hO,hnn⟩:=HHI.out hkp
     have HOL:Hid (outL ms (Mem.mk nm st lf ad sv) p (p+1) (k+1)=outL ms (Mem.mk nm st lf ad sv) p (p+1) k++[⟨nk,sk,lk,ak,vk⟩]):=hO
     obtain ⟨hne1,hne2⟩:=beq_name (a:=nk) (b:=nm) hnn
     clear hO hnn HLO HHI HEQ hbb
     generalize outL ms (Mem.mk nm st lf ad sv) p (p+1) k=L at *
     go_wp2_with fail
     go_quiet (fail)
     go_wp2_with fail
     go_quiet (fail)
     go_wp2_with (at_builtin;refine wpList_append_own _ rfl _ _ 22 rfl (w.heap.size+1) 37 i0 _ 5 48 Tryz.underlying22 hi0 hz0 hzs hzb rfl (by omega) _ (L).length (fl (L)) rfl ?hown ⟨wr.heap.size,0,none⟩ 1 1 (Mem.mk nk sk lk ak vk).cs rfl rfl ?hnews (cs_one _) ?h63 ?hbytes ?hbase ?_)
     case hown=>(refine HO.out.below ?_;repeat (first | exact Below.refl _ _ | refine below_drewN ?_ _ | refine Below.alloc ?_ (by simp) _ | refine Below.drew ?_))
     case hnews=>(intro j u hj;rw [Addr.add_lit];exact (cellsAt (heap_alloc_new wr (.cells #[.string nk,.int .i64 sk,.int .i64 lk,.int .i64 ak,.bool vk] 37)) (0+j)).trans (by simpa [Mem.cs] using hj))
     case h63=>(unfold maxLen;omega)
     case hbytes=>omega
     case hbase=>(simp;omega)
     intro v' w2 r1 r2 r3
     have HBX:Hid (Below (w.heap.size+1) W1 w2):=by
      have h0:Below (w.heap.size+1) W1 (wr.alloc (.cells #[.string nk,.int .i64 sk,.int .i64 lk,.int .i64 ak,.bool vk] 37)):=hbl.alloc (by omega) _
      have h1:=h0.trans (below_drewN (Below.refl _ _) 0)
      exact h0.trans ((Below.refl _ _).grown (w:=wr.alloc (.cells #[.string nk,.int .i64 sk,.int .i64 lk,.int .i64 ak,.bool vk] 37)) ⟨r2.os,r2.tape,r2.output,r2.size,r2.block⟩ (by simp;omega) (fun j hj=>(HO.out.lt j hj).1))
     have HOX:Hid (Own (w.heap.size+1) w2 v' (L++[⟨nk,sk,lk,ak,vk⟩])):=own_snoc r1
     go_wp2_with fail
     exact ⟨⟨k+1,true,by omega,by go_num,rfl,⟨fun _=>(by omega),fun _=>rfl⟩,HBX.out,(by rw [HOL.out];exact HOX.out)⟩,by simp [intOf];omega⟩
   ·have hkn:k=n:=by omega
    subst hkn
    by_cases hpk:p < k
    ·have hbf:bb=true:=hbb.out.2 hpk
     subst hbf
     have HFO:Hid (Own (w.heap.size+1) wr u7 (ms.take p++(Mem.mk nm st lf ad sv) :: ms.drop (p+1))):=by
      have h:=HO.out
      have hk':=HN.out
      rw [← hk',outL_end (by omega)] at h
      exact h
     have HBX:Hid (Below w.heap.size w wr):=hb01.out.trans (hbl.mono (by omega))
     clear HO hlen2
     go_wp2_with fail
     go_ret2
     exact ⟨u7,rfl,HFO.out,HBX.out⟩
    ·have:=(HAT.out.is.1 rfl).1
     have:=HN.out
     omega
theorem hearMember_any (ms:List Mem) (v:Value) (m:Mem) (w:World) (hv:Sl w v ms) (hn:ms.length≤1000) (hr:Rise ms) (hm:m.name.size≤maxLen) :
 Calls Tryz.prog 121 #[v,.agg #[.string m.name,.int .i64 m.state,.int .i64 m.life,.int .i64 m.addr,.bool m.server]] w fun e w'=>∃ (v':Value) (r:Bool),e=.returned (.tuple #[v',.bool r])∧Sl w' v' (hearL ms m)∧(r=true↔hearL ms m≠ms)∧Below w.heap.size w w':=by
 obtain ⟨p,f,hat⟩:=at_any ms hr m.name
 have hns:∀ x∈hearL ms m,x.name.size≤maxLen:=by obtain ⟨_,_,_,h,_⟩:=hv;exact ns_hear (ns_mem h) hm
 cases f
 ·refine (hearMember_none ms v m.name m.state m.life m.addr m.server w hv hn hr p hat).mono ?_
  rintro e w' ⟨v',rfl,h1,h2⟩
  have e:=hearL_out (f:=false) hat (fun h=>by cases h)
  refine ⟨v',true,rfl,own_names (base:=w.heap.size+1) ?_ hns,⟨fun _=>hearL_ne hat (fun h=>by cases h),fun _=>rfl⟩,h2⟩
  rw [e];exact h1
 ·cases hnew:newM m (ms.getD p dm)
  ·refine (hearMember_old ms v m.name m.state m.life m.addr m.server w hv hn hr p hat hnew).mono ?_
   rintro e w' ⟨rfl,h2⟩
   have e:=hearL_old hat hnew
   refine ⟨v,false,rfl,?_,⟨fun h=>(by cases h),fun h=>absurd e h⟩,h2⟩
   rw [e];exact hv.below h2
  ·refine (hearMember_newer ms v m.name m.state m.life m.addr m.server w hv hn hr p hat hnew).mono ?_
   rintro e w' ⟨v',rfl,h1,h2⟩
   have e:=hearL_out hat (fun _=>hnew)
   refine ⟨v',true,rfl,own_names (base:=w.heap.size+1) ?_ hns,⟨fun _=>hearL_ne hat (fun _=>hnew),fun _=>rfl⟩,h2⟩
   rw [e];exact h1
theorem chk_one (m:Mem):chk [m]=m.e:=by
 unfold chk
 simp only [List.length_cons,List.length_nil,firstE,risesB]
 by_cases h:m.e=0<;>simp [h]
theorem joinE_good {a b:List Mem} (h:chk a=0) (h2:chk b=0):joinE a b=if 20 < (joinL a b).length then 2 else 0:=by
 have:chkTwo a b=0:=(if_pos h).trans h2
 rw [joinE,if_pos this]
theorem Tryz.info9:(Tryz.prog.info? 9).map (fun i=>(i.zero,i.size,i.bytes))=some (some (.string ⟨#[]⟩),1,16):=by kernel_rfl
abbrev OwnS (base:Nat) (w:World) (v:Value) (l:List ByteArray):Prop:=w.ownsRow base 9 1 v l.length (l.map Value.string)
theorem ownS_nil (base:Nat) (w:World):OwnS base w (.slice none 0 0) []:=World.ownsRow_nil w base 9 1
theorem OwnS.below {base:Nat} {w w':World} {v:Value} {l:List ByteArray} (h:OwnS base w v l) (hb:Below w.heap.size w w'):OwnS base w' v l:=by
 rcases h.2 with ⟨rfl,h0⟩ | ⟨g,c,cur,rfl,hbg,hg,hnc,hcm,hcs,htake⟩
 ·exact ⟨h.1,.inl ⟨rfl,h0⟩⟩
 ·have hlt:g < w.heap.size:=(Array.getElem?_eq_some_iff.1 hg).1
  exact ⟨h.1,.inr ⟨g,c,cur,rfl,hbg,(hb.block g hlt).trans hg,hnc,hcm,hcs,htake⟩⟩
theorem OwnS.lt {base:Nat} {w:World} {v:Value} {l:List ByteArray} (h:OwnS base w v l) (k:Nat) (hk:v.ownBlock=some k):base≤k∧k < w.heap.size:=World.ownsRow.lt h k hk
theorem ownS_snoc {base:Nat} {w:World} {v:Value} {l:List ByteArray} {s:ByteArray} (h:w.ownsRow base 9 1 v (l.length+1) (l.map Value.string++[.string s])):OwnS base w v (l++[s]):=by
 show w.ownsRow base 9 1 v (l++[s]).length ((l++[s]).map Value.string)
 rw [List.length_append,List.map_append]
 exact h
def isLive (m:Mem):Bool:=m.state == 1 || m.state == 2
def liveL (ms:List Mem):List ByteArray:=(ms.filter isLive).map Mem.name
theorem liveL_yes (ms:List Mem) (k:Nat) (hk:k < ms.length) (h:isLive (ms.getD k dm)=true):liveL (ms.take (k+1))=liveL (ms.take k)++[(ms.getD k dm).name]:=by
 have e:ms.getD k dm=ms[k]:=by simp [List.getD,List.getElem?_eq_getElem hk]
 rw [e] at h ⊢
 unfold liveL
 rw [List.take_succ_eq_append_getElem hk,List.filter_append,List.map_append]
 simp [h]
theorem liveL_no (ms:List Mem) (k:Nat) (hk:k < ms.length) (h:isLive (ms.getD k dm)=false):liveL (ms.take (k+1))=liveL (ms.take k):=by
 have e:ms.getD k dm=ms[k]:=by simp [List.getD,List.getElem?_eq_getElem hk]
 rw [e] at h
 unfold liveL
 rw [List.take_succ_eq_append_getElem hk,List.filter_append,List.map_append]
 simp [h]
theorem liveL_len (ms:List Mem) (k:Nat):(liveL (ms.take k)).length≤k:=by
 unfold liveL
 rw [List.length_map]
 exact Nat.le_trans (List.length_filter_le _ _) (List.length_take_le _ _)
set_option maxHeartbeats 1000000 in
set_option maxRecDepth 100000 in
theorem live_good (ms:List Mem) (v:Value) (w:World) (hv:Sl w v ms) (h0:chk ms=0) :
 Calls Tryz.prog 110 #[v] w fun e w'=>∃ v',e=.returned (.tuple #[v',.int .i64 0])∧Hid (OwnS w.heap.size w' v' (liveL ms))∧Below w.heap.size w w':=by
 obtain ⟨i0,hi0,hz0,hzs,hzb⟩:=info_parts Tryz.info9
 have he:(chk ms != 0)=false:=by simpa using h0
 have hz:=chk_zero h0
 have hlen:=hz.1
 have HV:Hid (Sl w v ms):=hv
 obtain ⟨pa,ca,rfl,_,ha⟩:=hv
 have HA:Hid (ms=[]∨∃ b off,pa=some ⟨b,off,none⟩∧b < w.heap.size∧Row w b off ms):=ha
 clear ha h0 hz
 generalize hna:ms.length=n at *
 have HN:Hid (ms.length=n):=hna
 clear hna
 go_enter Tryz.func110,Tryz.ntmps110
 go_wp2_with fail
 refine (check_any ms _ _ HV.out).mono ?_
 rintro e w1 ⟨rfl,hb1⟩
 go_wp2_with fail
 go_loopw [5,15] (fun kn i w'=>∃ k:Nat,k≤n∧i=.int .i64 k∧Below w.heap.size w w'∧Hid (OwnS w.heap.size w' kn (liveL (ms.take k)))) (fun _ i _=>n - (intOf i).toNat)
 case atStart=>exact ⟨0,Nat.zero_le _,rfl,hb1,ownS_nil _ _⟩
 case round=>
  clear hb1
  obtain ⟨k,hk,rfl,hbl,HO⟩:=hrel
  obtain ⟨hbc,hbf⟩:=bcell hbl
  have hsz:=hbl.size
  by_cases hlt:k < n
  ·obtain ⟨b1,o1,hp1,hl1,hr1⟩:∃ b off,pa=some ⟨b,off,none⟩∧b < w.heap.size∧Row w b off ms:=by
    rcases HA.out with h | h
    ·have:=HN.out;rw [h] at this;simp at this;omega
    ·exact h
   subst hp1
   obtain ⟨c0,c1,c2,c3,c4⟩:=hr1 k (by rw [HN.out];exact hlt)
   clear hr1
   have HY:Hid (isLive (ms.getD k dm)=true→liveL (ms.take (k+1))=liveL (ms.take k)++[(ms.getD k dm).name]):=fun h=>liveL_yes ms k (by rw [HN.out];exact hlt) h
   have HX:Hid (isLive (ms.getD k dm)=false→liveL (ms.take (k+1))=liveL (ms.take k)):=fun h=>liveL_no ms k (by rw [HN.out];exact hlt) h
   have hll:=liveL_len ms k
   generalize ms.getD k dm=mk at *
   obtain ⟨nk,sk,lk,ak,vk⟩:=mk
   simp only at c0 c1 c2 c3 c4
   have hcases:sk=1∨sk=2∨(sk≠1∧sk≠2):=by omega
   rcases hcases with h | h | ⟨h,h'⟩
   ·subst h
    have HY2:Hid (liveL (ms.take (k+1))=liveL (ms.take k)++[nk]):=HY.out rfl
    clear HY HX
    generalize liveL (ms.take k)=L at *
    go_wp2_with (at_builtin;refine wpList_append_own _ rfl _ _ 89 rfl w.heap.size 9 i0 _ 1 16 Tryz.underlying89 hi0 hz0 hzs hzb rfl (by omega) _ L.length (L.map Value.string) rfl ?hown ⟨wr.heap.size+1,0,none⟩ 1 1 [.string nk] rfl rfl ?hnews (by intro u hu;simp at hu;subst hu;rfl) ?h63 ?hbytes ?hbase ?_)
    case hown=>exact HO.out.below (((Below.refl _ _).alloc (Nat.le_refl _) _).alloc (by simp) _)
    case hnews=>(intro j u hj;rw [Addr.add_lit];have hh:=cellsAt (heap_alloc_new (wr.alloc (.cells #[.string nk,.int .i64 1,.int .i64 lk,.int .i64 ak,.bool vk] 37)) (.cells #[.string nk] 9)) (0+j);rw [show (wr.alloc (.cells #[.string nk,.int .i64 1,.int .i64 lk,.int .i64 ak,.bool vk] 37)).heap.size=wr.heap.size+1 by simp] at hh;exact hh.trans (by simpa using hj))
    case h63=>(unfold maxLen;omega)
    case hbytes=>omega
    case hbase=>first | omega | (simp;omega)
    intro v' w2 r1 r2 r3
    have HO2:Hid (OwnS w.heap.size w2 v' (L++[nk])):=ownS_snoc r1
    have HB2:Hid (Below w.heap.size w w2):=((hbl.alloc hsz _).alloc (by simp;omega) _).grown r2 (by simp;omega) (fun j hj=>(HO.out.lt j hj).1)
    go_wp2_with fail
    exact ⟨⟨k+1,by omega,by go_num,HB2.out,by rw [HY2.out];exact HO2⟩,by simp [intOf];omega⟩
   ·subst h
    have HY2:Hid (liveL (ms.take (k+1))=liveL (ms.take k)++[nk]):=HY.out rfl
    clear HY HX
    generalize liveL (ms.take k)=L at *
    go_wp2_with (at_builtin;refine wpList_append_own _ rfl _ _ 89 rfl w.heap.size 9 i0 _ 1 16 Tryz.underlying89 hi0 hz0 hzs hzb rfl (by omega) _ L.length (L.map Value.string) rfl ?hown ⟨wr.heap.size+1,0,none⟩ 1 1 [.string nk] rfl rfl ?hnews (by intro u hu;simp at hu;subst hu;rfl) ?h63 ?hbytes ?hbase ?_)
    case hown=>exact HO.out.below (((Below.refl _ _).alloc (Nat.le_refl _) _).alloc (by simp) _)
    case hnews=>(intro j u hj;rw [Addr.add_lit];have hh:=cellsAt (heap_alloc_new (wr.alloc (.cells #[.string nk,.int .i64 2,.int .i64 lk,.int .i64 ak,.bool vk] 37)) (.cells #[.string nk] 9)) (0+j);rw [show (wr.alloc (.cells #[.string nk,.int .i64 2,.int .i64 lk,.int .i64 ak,.bool vk] 37)).heap.size=wr.heap.size+1 by simp] at hh;exact hh.trans (by simpa using hj))
    case h63=>(unfold maxLen;omega)
    case hbytes=>omega
    case hbase=>first | omega | (simp;omega)
    intro v' w2 r1 r2 r3
    have HO2:Hid (OwnS w.heap.size w2 v' (L++[nk])):=ownS_snoc r1
    have HB2:Hid (Below w.heap.size w w2):=((hbl.alloc hsz _).alloc (by simp;omega) _).grown r2 (by simp;omega) (fun j hj=>(HO.out.lt j hj).1)
    go_wp2_with fail
    exact ⟨⟨k+1,by omega,by go_num,HB2.out,by rw [HY2.out];exact HO2⟩,by simp [intOf];omega⟩
   ·have e1:(sk == 1)=false:=by simpa using h
    have e2:(sk == 2)=false:=by simpa using h'
    have HX2:Hid (liveL (ms.take (k+1))=liveL (ms.take k)):=HX.out (by simp [isLive,h,h'])
    clear HY HX h h'
    go_wp2_with fail
    go_roundw
    case rel=>exact ⟨k+1,by omega,by go_num,hbl.alloc hsz _,by rw [HX2.out];exact HO.out.below ((Below.refl _ _).alloc (Nat.le_refl _) _)⟩
    case measure=>simp [intOf];omega
  ·have HF:Hid (OwnS w.heap.size wr u5 (liveL ms)):=by
    have h:=HO.out
    rw [List.take_of_length_le (by rw [HN.out];omega)] at h
    exact h
   go_wp2_with fail
   go_ret2
   exact ⟨u5,rfl,HF,hbl⟩
end Go.Proofs.YtikgjgmgbfjcgaaGreat
