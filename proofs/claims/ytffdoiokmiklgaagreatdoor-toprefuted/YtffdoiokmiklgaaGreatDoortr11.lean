import Derived.Test.YtffdoiokmiklgaaGreatDoortr6
namespace Go.Proofs.YtffdoiokmiklgaaGreatDoor
open Go.RowKit
def newE (a b:Mem):Int:=if chkTwo [a] [b]=0 then (if a.name=b.name then 0 else 1) else chkTwo [a] [b]
theorem bne_name (a b:ByteArray):(a.toList != b.toList)=true↔a≠b:=by
 rw [bne_iff_ne,Lib.toList_data,Lib.toList_data]
 exact ⟨fun h e=>h (by rw [e]),fun h e=>h (ba_ext e)⟩
theorem checkAll_alone (a b:Mem) (w:World) (ha:a.name.size≤maxLen) (hb:b.name.size≤maxLen) :
 Calls Tryz.prog 233 #[.slice (some ⟨w.heap.size+1+1+1+1+1+1,0,none⟩) 2 2]
  ((((((((w.alloc (.cells #[.string a.name,.int .i64 a.state,.int .i64 a.life,.int .i64 a.addr,.bool a.server] 56)).alloc (.cells #[.string b.name,.int .i64 b.state,.int .i64 b.life,.int .i64 b.addr,.bool b.server] 56)).alloc
    (.cells #[.string a.name,.int .i64 a.state,.int .i64 a.life,.int .i64 a.addr,.bool a.server] 56)).alloc (.cells #[.string a.name,.int .i64 a.state,.int .i64 a.life,.int .i64 a.addr,.bool a.server] 56)).alloc
    (.cells #[.string b.name,.int .i64 b.state,.int .i64 b.life,.int .i64 b.addr,.bool b.server] 56)).alloc (.cells #[.string b.name,.int .i64 b.state,.int .i64 b.life,.int .i64 b.addr,.bool b.server] 56)).alloc
    (.cells #[.slice (some ⟨w.heap.size+1+1+1,0,none⟩) 1 1,.slice (some ⟨w.heap.size+1+1+1+1+1,0,none⟩) 1 1] 45)).drew)
  fun e w'=>e=.returned (.int .i64 (chkTwo [a] [b]))∧Below (w.heap.size+1+1) ((w.alloc (.cells #[.string a.name,.int .i64 a.state,.int .i64 a.life,.int .i64 a.addr,.bool a.server] 56)).alloc (.cells #[.string b.name,.int .i64 b.state,.int .i64 b.life,.int .i64 b.addr,.bool b.server] 56)) w':=by
 obtain ⟨A,hA⟩:∃ A:Obj,A=.cells #[.string a.name,.int .i64 a.state,.int .i64 a.life,.int .i64 a.addr,.bool a.server] 56:=⟨_,rfl⟩
 obtain ⟨B,hB⟩:∃ B:Obj,B=.cells #[.string b.name,.int .i64 b.state,.int .i64 b.life,.int .i64 b.addr,.bool b.server] 56:=⟨_,rfl⟩
 obtain ⟨Pq,hP⟩:∃ P:Obj,P=.cells #[.slice (some ⟨w.heap.size+1+1+1,0,none⟩) 1 1,.slice (some ⟨w.heap.size+1+1+1+1+1,0,none⟩) 1 1] 45:=⟨_,rfl⟩
 rw [← hA,← hB,← hP]
 have hbW:Below (w.heap.size+1+1) ((w.alloc A).alloc B) ((((((((w.alloc A).alloc B).alloc A).alloc A).alloc B).alloc B).alloc Pq).drew):=
  ((((((Below.refl _ _).alloc (by simp) A).alloc (by simp<;>omega) A).alloc (by simp<;>omega) B).alloc (by simp<;>omega) B).alloc (by simp<;>omega) Pq).drew
 have hgp:((((((((w.alloc A).alloc B).alloc A).alloc A).alloc B).alloc B).alloc Pq).drew).heap[w.heap.size+1+1+1+1+1+1]?=some Pq:=by
  have h:=heap_alloc_new ((((((w.alloc A).alloc B).alloc A).alloc A).alloc B).alloc B) Pq
  rw [show ((((((w.alloc A).alloc B).alloc A).alloc A).alloc B).alloc B).heap.size=w.heap.size+1+1+1+1+1+1 by simp] at h
  exact h
 have hga:((((((((w.alloc A).alloc B).alloc A).alloc A).alloc B).alloc B).alloc Pq).drew).heap[w.heap.size+1+1+1]?=some A:=by
  have h1:=heap_alloc_new (((w.alloc A).alloc B).alloc A) A
  rw [show (((w.alloc A).alloc B).alloc A).heap.size=w.heap.size+1+1+1 by simp] at h1
  have h2:=Below.heap_alloc ((((w.alloc A).alloc B).alloc A).alloc A) B (w.heap.size+1+1+1) (by simp)
  have h3:=Below.heap_alloc (((((w.alloc A).alloc B).alloc A).alloc A).alloc B) B (w.heap.size+1+1+1) (by simp<;>omega)
  have h4:=Below.heap_alloc ((((((w.alloc A).alloc B).alloc A).alloc A).alloc B).alloc B) Pq (w.heap.size+1+1+1) (by simp<;>omega)
  exact h4.trans (h3.trans (h2.trans h1))
 have hgb:((((((((w.alloc A).alloc B).alloc A).alloc A).alloc B).alloc B).alloc Pq).drew).heap[w.heap.size+1+1+1+1+1]?=some B:=by
  have h1:=heap_alloc_new (((((w.alloc A).alloc B).alloc A).alloc A).alloc B) B
  rw [show (((((w.alloc A).alloc B).alloc A).alloc A).alloc B).heap.size=w.heap.size+1+1+1+1+1 by simp] at h1
  have h4:=Below.heap_alloc ((((((w.alloc A).alloc B).alloc A).alloc A).alloc B).alloc B) Pq (w.heap.size+1+1+1+1+1) (by simp)
  exact h4.trans h1
 have hsz:((((((((w.alloc A).alloc B).alloc A).alloc A).alloc B).alloc B).alloc Pq).drew).heap.size=w.heap.size+1+1+1+1+1+1+1:=by simp
 generalize ((((((((w.alloc A).alloc B).alloc A).alloc A).alloc B).alloc B).alloc Pq).drew)=W at *
 have hgp':=hgp.trans (congrArg some hP)
 refine (checkAll_two [a] [b] _ _ _ 2 W (sl_one W _ 1 a ha (hga.trans (congrArg some hA))) (sl_one W _ 1 b hb (hgb.trans (congrArg some hB))) (by omega) (cellsAt hgp' 0) (cellsAt hgp' 1)).mono ?_
 rintro e w' ⟨rfl,h⟩
 exact ⟨rfl,hbW.trans (h.mono (by omega))⟩
set_option maxHeartbeats 1600000 in
set_option maxRecDepth 100000 in
theorem newer2_bad (a b:Mem) (w:World) (ha:a.name.size≤maxLen) (hb:b.name.size≤maxLen) (hne0:chkTwo [a] [b]≠0) :
 Calls Tryz.prog 190 #[.agg #[.string a.name,.int .i64 a.state,.int .i64 a.life,.int .i64 a.addr,.bool a.server],.agg #[.string b.name,.int .i64 b.state,.int .i64 b.life,.int .i64 b.addr,.bool b.server]] w
  fun e w'=>e=.returned (.tuple #[.bool (newE a b == 0 && newM a b),.int .i64 (newE a b)])∧Below w.heap.size w w':=by
 have hne:(chkTwo [a] [b] != 0)=true:=by simpa using hne0
 have HE:Hid (newE a b=chkTwo [a] [b]):=if_neg hne0
 have HN:Hid (chkTwo [a] [b]≠0):=hne0
 clear hne0
 go_enter Tryz.func190,Tryz.ntmps190
 go_wp2_with fail
 go_region_with (first | (go_at_call 194;refine (alone_any _ _ _ _ _ _).mono ?_;rintro e w' ⟨rfl,rfl⟩) | (go_at_call 233;refine (checkAll_alone a b w ha hb).mono ?_;rintro e w1 ⟨rfl,hb1⟩))
 all_goals
  go_wp2_with fail
  go_ret2
  refine ⟨?_,?_⟩
  ·rw [HE.out,show (chkTwo [a] [b] == 0)=false by simpa using HN.out];rfl
  ·exact (((Below.refl _ _).alloc (Nat.le_refl _) _).alloc (by simp) _).trans (hb1.mono (by omega))
set_option maxHeartbeats 1600000 in
set_option maxRecDepth 100000 in
theorem newer2_form (a b:Mem) (w:World) (ha:a.name.size≤maxLen) (hb:b.name.size≤maxLen) (h0:chkTwo [a] [b]=0) (hnm:a.name≠b.name) :
 Calls Tryz.prog 190 #[.agg #[.string a.name,.int .i64 a.state,.int .i64 a.life,.int .i64 a.addr,.bool a.server],.agg #[.string b.name,.int .i64 b.state,.int .i64 b.life,.int .i64 b.addr,.bool b.server]] w
  fun e w'=>e=.returned (.tuple #[.bool (newE a b == 0 && newM a b),.int .i64 (newE a b)])∧Below w.heap.size w w':=by
 have hz:(chkTwo [a] [b] != 0)=false:=by simpa using h0
 have hn:(a.name.toList == b.name.toList)=false:=by have h:=(bne_name a.name b.name).2 hnm;simpa using h
 have hn3:¬ a.name.toList=b.name.toList:=by simpa using hn
 have HE:Hid (newE a b=1):=(show newE a b=1 by rw [newE,if_pos h0,if_neg hnm])
 clear hnm h0
 go_enter Tryz.func190,Tryz.ntmps190
 go_wp2_with fail
 go_region_with (first | (go_at_call 194;refine (alone_any _ _ _ _ _ _).mono ?_;rintro e w' ⟨rfl,rfl⟩) | (go_at_call 233;refine (checkAll_alone a b w ha hb).mono ?_;rintro e w1 ⟨rfl,hb1⟩))
 all_goals
  have hsz:=hb1.size
  have hbc:∀ k o,k < w.heap.size+1+1→w1.cell? ⟨k,o,none⟩=((w.alloc (.cells #[.string a.name,.int .i64 a.state,.int .i64 a.life,.int .i64 a.addr,.bool a.server] 56)).alloc (.cells #[.string b.name,.int .i64 b.state,.int .i64 b.life,.int .i64 b.addr,.bool b.server] 56)).cell? ⟨k,o,none⟩:=fun k o h=>hb1.cell (p:=⟨k,o,none⟩) h
  have hwl:w.heap.size < w.heap.size+1+1:=by omega
  have hwl2:w.heap.size+1 < w.heap.size+1+1:=by omega
  go_wp2_with fail
  go_ret2
  refine ⟨?_,?_⟩
  ·rw [HE.out];rfl
  ·exact (((Below.refl _ _).alloc (Nat.le_refl _) _).alloc (by simp) _).trans (hb1.mono (by omega))
set_option maxHeartbeats 1600000 in
set_option maxRecDepth 100000 in
theorem newer2_same (na:ByteArray) (sa la aa:Int) (va:Bool) (sb lb ab:Int) (vb:Bool) (w:World) (ha:na.size≤maxLen) (h0:chkTwo [⟨na,sa,la,aa,va⟩] [⟨na,sb,lb,ab,vb⟩]=0) :
 Calls Tryz.prog 190 #[.agg #[.string na,.int .i64 sa,.int .i64 la,.int .i64 aa,.bool va],.agg #[.string na,.int .i64 sb,.int .i64 lb,.int .i64 ab,.bool vb]] w
  fun e w'=>e=.returned (.tuple #[.bool (newB sa la aa va sb lb ab vb),.int .i64 0])∧Below w.heap.size w w':=by
 have hz:(chkTwo [⟨na,sa,la,aa,va⟩] [⟨na,sb,lb,ab,vb⟩] != 0)=false:=by simpa using h0
 clear h0
 go_enter Tryz.func190,Tryz.ntmps190
 go_wp2_with fail
 go_region_with (first | (go_at_call 194;refine (alone_any _ _ _ _ _ _).mono ?_;rintro e w' ⟨rfl,rfl⟩) | (go_at_call 233;refine (checkAll_alone ⟨na,sa,la,aa,va⟩ ⟨na,sb,lb,ab,vb⟩ w ha ha).mono ?_;rintro e w1 ⟨rfl,hb1⟩))
 all_goals
  have hsz:=hb1.size
  have hbc:∀ k o,k < w.heap.size+1+1→w1.cell? ⟨k,o,none⟩=((w.alloc (.cells #[.string na,.int .i64 sa,.int .i64 la,.int .i64 aa,.bool va] 56)).alloc (.cells #[.string na,.int .i64 sb,.int .i64 lb,.int .i64 ab,.bool vb] 56)).cell? ⟨k,o,none⟩:=fun k o h=>hb1.cell (p:=⟨k,o,none⟩) h
  have hwl:w.heap.size < w.heap.size+1+1:=by omega
  have hwl2:w.heap.size+1 < w.heap.size+1+1:=by omega
  go_wp2_with (go_at_call 234;refine (newer_any _ _ _ _ _ _ _ _ _ _ _).mono ?_;rintro e w' ⟨rfl,rfl⟩)
  go_ret2
  refine ⟨rfl,?_⟩
  have h0:=(((Below.refl w.heap.size w).alloc (Nat.le_refl _) (.cells #[.string na,.int .i64 sa,.int .i64 la,.int .i64 aa,.bool va] 56)).alloc (by simp) (.cells #[.string na,.int .i64 sb,.int .i64 lb,.int .i64 ab,.bool vb] 56)).trans (hb1.mono (by omega))
  exact (h0.alloc h0.size _).alloc (by have:=h0.size;simp;omega) _
theorem newer2_any (a b:Mem) (w:World) (ha:a.name.size≤maxLen) (hb:b.name.size≤maxLen) :
 Calls Tryz.prog 190 #[.agg #[.string a.name,.int .i64 a.state,.int .i64 a.life,.int .i64 a.addr,.bool a.server],.agg #[.string b.name,.int .i64 b.state,.int .i64 b.life,.int .i64 b.addr,.bool b.server]] w
  fun e w'=>e=.returned (.tuple #[.bool (newE a b == 0 && newM a b),.int .i64 (newE a b)])∧Below w.heap.size w w':=by
 by_cases h0:chkTwo [a] [b]=0
 ·by_cases hnm:a.name=b.name
  ·have hE:newE a b=0:=by rw [newE,if_pos h0,if_pos hnm]
   rw [hE]
   obtain ⟨na,sa,la,aa,va⟩:=a
   obtain ⟨nb,sb,lb,ab,vb⟩:=b
   simp only at hnm
   subst hnm
   exact newer2_same na sa la aa va sb lb ab vb w ha h0
  ·exact newer2_form a b w ha hb h0 hnm
 ·exact newer2_bad a b w ha hb h0
theorem Tryz.info9:(Tryz.prog.info? 9).map (fun i=>(i.zero,i.size,i.bytes))=some (some (.string ⟨#[]⟩),1,16):=by kernel_rfl
abbrev OwnS (base:Nat) (w:World) (v:Value) (l:List ByteArray):Prop:=w.ownsRow base 9 1 v l.length (l.map Value.string)
theorem ownS_nil (base:Nat) (w:World):OwnS base w (.slice none 0 0) []:=World.ownsRow_nil w base 9 1
theorem OwnS.below {base:Nat} {w w':World} {v:Value} {l:List ByteArray} (h:OwnS base w v l) (hb:Below w.heap.size w w'):OwnS base w' v l:=by
 rcases h.2 with ⟨rfl,h0⟩ | ⟨g,c,cur,rfl,hbg,hg,hnc,hcm,hcs,htake⟩
 ·exact ⟨h.1,.inl ⟨rfl,h0⟩⟩
 ·have hlt:g < w.heap.size:=(Array.getElem?_eq_some_iff.1 hg).1
  exact ⟨h.1,.inr ⟨g,c,cur,rfl,hbg,(hb.block g hlt).trans hg,hnc,hcm,hcs,htake⟩⟩
theorem OwnS.lt {base:Nat} {w:World} {v:Value} {l:List ByteArray} (h:OwnS base w v l) (k:Nat) (hk:v.ownBlock=some k):base≤k∧k < w.heap.size:=World.ownsRow.lt h k hk
theorem ownS_snoc {base:Nat} {w:World} {v:Value} {l:List ByteArray} {s:ByteArray} (h:w.ownsRow base 9 1 v (l.length+1) (l.map Value.string++[.string s])):OwnS base w v (l++[s]):=by
 show w.ownsRow base 9 1 v (l++[s]).length ((l++[s]).map Value.string)
 rw [List.length_append,List.map_append]
 exact h
def isLive (m:Mem):Bool:=m.state == 1 || m.state == 2
def liveL (ms:List Mem):List ByteArray:=(ms.filter isLive).map Mem.name
theorem liveL_yes (ms:List Mem) (k:Nat) (hk:k < ms.length) (h:isLive (ms.getD k dm)=true):liveL (ms.take (k+1))=liveL (ms.take k)++[(ms.getD k dm).name]:=by
 have e:ms.getD k dm=ms[k]:=by simp [List.getD,List.getElem?_eq_getElem hk]
 rw [e] at h ⊢
 unfold liveL
 rw [List.take_succ_eq_append_getElem hk,List.filter_append,List.map_append]
 simp [h]
theorem liveL_no (ms:List Mem) (k:Nat) (hk:k < ms.length) (h:isLive (ms.getD k dm)=false):liveL (ms.take (k+1))=liveL (ms.take k):=by
 have e:ms.getD k dm=ms[k]:=by simp [List.getD,List.getElem?_eq_getElem hk]
 rw [e] at h
 unfold liveL
 rw [List.take_succ_eq_append_getElem hk,List.filter_append,List.map_append]
 simp [h]
theorem liveL_len (ms:List Mem) (k:Nat):(liveL (ms.take k)).length≤k:=by
 unfold liveL
 rw [List.length_map]
 exact Nat.le_trans (List.length_filter_le _ _) (List.length_take_le _ _)
set_option maxHeartbeats 1000000 in
set_option maxRecDepth 100000 in
theorem live_good (ms:List Mem) (v:Value) (w:World) (hv:Sl w v ms) (h0:chk ms=0) :
 Calls Tryz.prog 94 #[v] w fun e w'=>∃ v',e=.returned (.tuple #[v',.int .i64 0])∧Hid (OwnS w.heap.size w' v' (liveL ms))∧Below w.heap.size w w':=by
 obtain ⟨i0,hi0,hz0,hzs,hzb⟩:=info_parts Tryz.info9
 have he:(chk ms != 0)=false:=by simpa using h0
 have hz:=chk_zero h0
 have hlen:=hz.1
 have HV:Hid (Sl w v ms):=hv
 obtain ⟨pa,ca,rfl,_,ha⟩:=hv
 have HA:Hid (ms=[]∨∃ b off,pa=some ⟨b,off,none⟩∧b < w.heap.size∧Row w b off ms):=ha
 clear ha h0 hz
 generalize hna:ms.length=n at *
 have HN:Hid (ms.length=n):=hna
 clear hna
 go_enter Tryz.func94,Tryz.ntmps94
 go_wp2_with fail
 refine (check_any ms _ _ HV.out).mono ?_
 rintro e w1 ⟨rfl,hb1⟩
 go_wp2_with fail
 go_loopw [5,15] (fun kn i w'=>∃ k:Nat,k≤n∧i=.int .i64 k∧Below w.heap.size w w'∧Hid (OwnS w.heap.size w' kn (liveL (ms.take k)))) (fun _ i _=>n - (intOf i).toNat)
 case atStart=>exact ⟨0,Nat.zero_le _,rfl,hb1,ownS_nil _ _⟩
 case round=>
  clear hb1
  obtain ⟨k,hk,rfl,hbl,HO⟩:=hrel
  obtain ⟨hbc,hbf⟩:=bcell hbl
  have hsz:=hbl.size
  by_cases hlt:k < n
  ·obtain ⟨b1,o1,hp1,hl1,hr1⟩:∃ b off,pa=some ⟨b,off,none⟩∧b < w.heap.size∧Row w b off ms:=by
    rcases HA.out with h | h
    ·have:=HN.out;rw [h] at this;simp at this;omega
    ·exact h
   subst hp1
   obtain ⟨c0,c1,c2,c3,c4⟩:=hr1 k (by rw [HN.out];exact hlt)
   clear hr1
   have HY:Hid (isLive (ms.getD k dm)=true→liveL (ms.take (k+1))=liveL (ms.take k)++[(ms.getD k dm).name]):=fun h=>liveL_yes ms k (by rw [HN.out];exact hlt) h
   have HX:Hid (isLive (ms.getD k dm)=false→liveL (ms.take (k+1))=liveL (ms.take k)):=fun h=>liveL_no ms k (by rw [HN.out];exact hlt) h
   have hll:=liveL_len ms k
   generalize ms.getD k dm=mk at *
   obtain ⟨nk,sk,lk,ak,vk⟩:=mk
   simp only at c0 c1 c2 c3 c4
   have hcases:sk=1∨sk=2∨(sk≠1∧sk≠2):=by omega
   rcases hcases with h | h | ⟨h,h'⟩
   ·subst h
    have HY2:Hid (liveL (ms.take (k+1))=liveL (ms.take k)++[nk]):=HY.out rfl
    clear HY HX
    generalize liveL (ms.take k)=L at *
    go_wp2_with (at_builtin;refine wpList_append_own _ rfl _ _ 85 rfl w.heap.size 9 i0 _ 1 16 Tryz.underlying85 hi0 hz0 hzs hzb rfl (by omega) _ L.length (L.map Value.string) rfl ?hown ⟨wr.heap.size+1,0,none⟩ 1 1 [.string nk] rfl rfl ?hnews (by intro u hu;simp at hu;subst hu;rfl) ?h63 ?hbytes ?hbase ?_)
    case hown=>exact HO.out.below (((Below.refl _ _).alloc (Nat.le_refl _) _).alloc (by simp) _)
    case hnews=>(intro j u hj;rw [Addr.add_lit];have hh:=cellsAt (heap_alloc_new (wr.alloc (.cells #[.string nk,.int .i64 1,.int .i64 lk,.int .i64 ak,.bool vk] 56)) (.cells #[.string nk] 9)) (0+j);rw [show (wr.alloc (.cells #[.string nk,.int .i64 1,.int .i64 lk,.int .i64 ak,.bool vk] 56)).heap.size=wr.heap.size+1 by simp] at hh;exact hh.trans (by simpa using hj))
    case h63=>(unfold maxLen;omega)
    case hbytes=>omega
    case hbase=>first | omega | (simp;omega)
    intro v' w2 r1 r2 r3
    have HO2:Hid (OwnS w.heap.size w2 v' (L++[nk])):=ownS_snoc r1
    have HB2:Hid (Below w.heap.size w w2):=((hbl.alloc hsz _).alloc (by simp;omega) _).grown r2 (by simp;omega) (fun j hj=>(HO.out.lt j hj).1)
    go_wp2_with fail
    exact ⟨⟨k+1,by omega,by go_num,HB2.out,by rw [HY2.out];exact HO2⟩,by simp [intOf];omega⟩
   ·subst h
    have HY2:Hid (liveL (ms.take (k+1))=liveL (ms.take k)++[nk]):=HY.out rfl
    clear HY HX
    generalize liveL (ms.take k)=L at *
    go_wp2_with (at_builtin;refine wpList_append_own _ rfl _ _ 85 rfl w.heap.size 9 i0 _ 1 16 Tryz.underlying85 hi0 hz0 hzs hzb rfl (by omega) _ L.length (L.map Value.string) rfl ?hown ⟨wr.heap.size+1,0,none⟩ 1 1 [.string nk] rfl rfl ?hnews (by intro u hu;simp at hu;subst hu;rfl) ?h63 ?hbytes ?hbase ?_)
    case hown=>exact HO.out.below (((Below.refl _ _).alloc (Nat.le_refl _) _).alloc (by simp) _)
    case hnews=>(intro j u hj;rw [Addr.add_lit];have hh:=cellsAt (heap_alloc_new (wr.alloc (.cells #[.string nk,.int .i64 2,.int .i64 lk,.int .i64 ak,.bool vk] 56)) (.cells #[.string nk] 9)) (0+j);rw [show (wr.alloc (.cells #[.string nk,.int .i64 2,.int .i64 lk,.int .i64 ak,.bool vk] 56)).heap.size=wr.heap.size+1 by simp] at hh;exact hh.trans (by simpa using hj))
    case h63=>(unfold maxLen;omega)
    case hbytes=>omega
    case hbase=>first | omega | (simp;omega)
    intro v' w2 r1 r2 r3
    have HO2:Hid (OwnS w.heap.size w2 v' (L++[nk])):=ownS_snoc r1
    have HB2:Hid (Below w.heap.size w w2):=((hbl.alloc hsz _).alloc (by simp;omega) _).grown r2 (by simp;omega) (fun j hj=>(HO.out.lt j hj).1)
    go_wp2_with fail
    exact ⟨⟨k+1,by omega,by go_num,HB2.out,by rw [HY2.out];exact HO2⟩,by simp [intOf];omega⟩
   ·have e1:(sk == 1)=false:=by simpa using h
    have e2:(sk == 2)=false:=by simpa using h'
    have HX2:Hid (liveL (ms.take (k+1))=liveL (ms.take k)):=HX.out (by simp [isLive,h,h'])
    clear HY HX h h'
    go_wp2_with fail
    go_roundw
    case rel=>exact ⟨k+1,by omega,by go_num,hbl.alloc hsz _,by rw [HX2.out];exact HO.out.below ((Below.refl _ _).alloc (Nat.le_refl _) _)⟩
    case measure=>simp [intOf];omega
  ·have HF:Hid (OwnS w.heap.size wr u5 (liveL ms)):=by
    have h:=HO.out
    rw [List.take_of_length_le (by rw [HN.out];omega)] at h
    exact h
   go_wp2_with fail
   go_ret2
   exact ⟨u5,rfl,HF,hbl⟩
end Go.Proofs.YtffdoiokmiklgaaGreatDoor
