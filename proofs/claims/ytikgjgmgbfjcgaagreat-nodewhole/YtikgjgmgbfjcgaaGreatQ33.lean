import Derived.Test.YtikgjgmgbfjcgaaGreatQ17
namespace Go.Proofs.YtikgjgmgbfjcgaaGreat
open Go.RowKit
theorem atI_at {ms:List Mem} {t:ByteArray} {r:Int} {p:Nat} {f:Bool} (hi:AtI ms t r) (ha:At ms t p f) (hr:Rise ms):(f=true→r=p)∧(f=false→r = -1):=by
 rcases hi with ⟨k,hk,rfl,hn⟩ | ⟨rfl,hn⟩
 ·have hc:cmpI (ms.getD k dm).name t=0:=(cmpI_eq _ _).2 hn
  have hat:At ms t k true:=⟨by omega,fun j hj=>?_,fun j hj hl=>?_,⟨fun _=>⟨hk,hc⟩,fun _=>rfl⟩⟩
  ·obtain ⟨rfl,rfl⟩:=at_uniq ha hat
   exact ⟨fun _=>rfl,fun h=>by cases h⟩
  ·have hp:=List.pairwise_iff_getElem.1 hr j k (by omega) hk hj
   have e1:ms.getD j dm=ms[j]:=by simp [List.getD,List.getElem?_eq_getElem (show j < ms.length by omega)]
   have e2:ms.getD k dm=ms[k]:=by simp [List.getD,List.getElem?_eq_getElem hk]
   rw [cmpI_lt,e1,← hn,e2];exact hp
  ·rcases Nat.lt_or_eq_of_le hj with h | rfl
   ·have hp:=List.pairwise_iff_getElem.1 hr k j hk hl h
    have e1:ms.getD j dm=ms[j]:=by simp [List.getD,List.getElem?_eq_getElem hl]
    have e2:ms.getD k dm=ms[k]:=by simp [List.getD,List.getElem?_eq_getElem hk]
    have:0 < cmpI (ms.getD j dm).name t:=by rw [cmpI_gt,e1,← hn,e2];exact hp
    omega
   ·omega
 ·refine ⟨fun h=>?_,fun _=>rfl⟩
  have:=ha.is.1 h
  exact absurd ((cmpI_eq _ _).1 this.2) (hn p this.1)
theorem joinE_good {a b:List Mem} (h:chk a=0) (h2:chk b=0):joinE a b=if 20 < (joinL a b).length then 2 else 0:=by
 have:chkTwo a b=0:=(if_pos h).trans h2
 rw [joinE,if_pos this]
theorem Tryz.info9:(Tryz.prog.info? 9).map (fun i=>(i.zero,i.size,i.bytes))=some (some (.string ⟨#[]⟩),1,16):=by kernel_rfl
abbrev OwnS (base:Nat) (w:World) (v:Value) (l:List ByteArray):Prop:=w.ownsRow base 9 1 v l.length (l.map Value.string)
theorem ownS_nil (base:Nat) (w:World):OwnS base w (.slice none 0 0) []:=World.ownsRow_nil w base 9 1
theorem OwnS.below {base:Nat} {w w':World} {v:Value} {l:List ByteArray} (h:OwnS base w v l) (hb:Below w.heap.size w w'):OwnS base w' v l:=by
 rcases h.2 with ⟨rfl,h0⟩ | ⟨g,c,cur,rfl,hbg,hg,hnc,hcm,hcs,htake⟩
 ·exact ⟨h.1,.inl ⟨rfl,h0⟩⟩
 ·have hlt:g < w.heap.size:=(Array.getElem?_eq_some_iff.1 hg).1
  exact ⟨h.1,.inr ⟨g,c,cur,rfl,hbg,(hb.block g hlt).trans hg,hnc,hcm,hcs,htake⟩⟩
theorem OwnS.lt {base:Nat} {w:World} {v:Value} {l:List ByteArray} (h:OwnS base w v l) (k:Nat) (hk:v.ownBlock=some k):base≤k∧k < w.heap.size:=World.ownsRow.lt h k hk
theorem ownS_snoc {base:Nat} {w:World} {v:Value} {l:List ByteArray} {s:ByteArray} (h:w.ownsRow base 9 1 v (l.length+1) (l.map Value.string++[.string s])):OwnS base w v (l++[s]):=by
 show w.ownsRow base 9 1 v (l++[s]).length ((l++[s]).map Value.string)
 rw [List.length_append,List.map_append]
 exact h
def isLive (m:Mem):Bool:=m.state == 1 || m.state == 2
def liveL (ms:List Mem):List ByteArray:=(ms.filter isLive).map Mem.name
theorem liveL_yes (ms:List Mem) (k:Nat) (hk:k < ms.length) (h:isLive (ms.getD k dm)=true):liveL (ms.take (k+1))=liveL (ms.take k)++[(ms.getD k dm).name]:=by
 have e:ms.getD k dm=ms[k]:=by simp [List.getD,List.getElem?_eq_getElem hk]
 rw [e] at h ⊢
 unfold liveL
 rw [List.take_succ_eq_append_getElem hk,List.filter_append,List.map_append]
 simp [h]
theorem liveL_no (ms:List Mem) (k:Nat) (hk:k < ms.length) (h:isLive (ms.getD k dm)=false):liveL (ms.take (k+1))=liveL (ms.take k):=by
 have e:ms.getD k dm=ms[k]:=by simp [List.getD,List.getElem?_eq_getElem hk]
 rw [e] at h
 unfold liveL
 rw [List.take_succ_eq_append_getElem hk,List.filter_append,List.map_append]
 simp [h]
theorem liveL_len (ms:List Mem) (k:Nat):(liveL (ms.take k)).length≤k:=by
 unfold liveL
 rw [List.length_map]
 exact Nat.le_trans (List.length_filter_le _ _) (List.length_take_le _ _)
set_option maxHeartbeats 1000000 in
set_option maxRecDepth 100000 in
theorem live_good (ms:List Mem) (v:Value) (w:World) (hv:Sl w v ms) (h0:chk ms=0) :
 Calls Tryz.prog 110 #[v] w fun e w'=>∃ v',e=.returned (.tuple #[v',.int .i64 0])∧Hid (OwnS w.heap.size w' v' (liveL ms))∧Below w.heap.size w w':=by
 obtain ⟨i0,hi0,hz0,hzs,hzb⟩:=info_parts Tryz.info9
 have he:(chk ms != 0)=false:=by simpa using h0
 have hz:=chk_zero h0
 have hlen:=hz.1
 have HV:Hid (Sl w v ms):=hv
 obtain ⟨pa,ca,rfl,_,ha⟩:=hv
 have HA:Hid (ms=[]∨∃ b off,pa=some ⟨b,off,none⟩∧b < w.heap.size∧Row w b off ms):=ha
 clear ha h0 hz
 generalize hna:ms.length=n at *
 have HN:Hid (ms.length=n):=hna
 clear hna
 go_enter Tryz.func110,Tryz.ntmps110
 go_wp2_with fail
 refine (check_any ms _ _ HV.out).mono ?_
 rintro e w1 ⟨rfl,hb1⟩
 go_wp2_with fail
 go_loopw [5,15] (fun kn i w'=>∃ k:Nat,k≤n∧i=.int .i64 k∧Below w.heap.size w w'∧Hid (OwnS w.heap.size w' kn (liveL (ms.take k)))) (fun _ i _=>n - (intOf i).toNat)
 case atStart=>exact ⟨0,Nat.zero_le _,rfl,hb1,ownS_nil _ _⟩
 case round=>
  clear hb1
  obtain ⟨k,hk,rfl,hbl,HO⟩:=hrel
  obtain ⟨hbc,hbf⟩:=bcell hbl
  have hsz:=hbl.size
  by_cases hlt:k < n
  ·obtain ⟨b1,o1,hp1,hl1,hr1⟩:∃ b off,pa=some ⟨b,off,none⟩∧b < w.heap.size∧Row w b off ms:=by
    rcases HA.out with h | h
    ·have:=HN.out;rw [h] at this;simp at this;omega
    ·exact h
   subst hp1
   obtain ⟨c0,c1,c2,c3,c4⟩:=hr1 k (by rw [HN.out];exact hlt)
   clear hr1
   have HY:Hid (isLive (ms.getD k dm)=true→liveL (ms.take (k+1))=liveL (ms.take k)++[(ms.getD k dm).name]):=fun h=>liveL_yes ms k (by rw [HN.out];exact hlt) h
   have HX:Hid (isLive (ms.getD k dm)=false→liveL (ms.take (k+1))=liveL (ms.take k)):=fun h=>liveL_no ms k (by rw [HN.out];exact hlt) h
   have hll:=liveL_len ms k
   generalize ms.getD k dm=mk at *
   obtain ⟨nk,sk,lk,ak,vk⟩:=mk
   simp only at c0 c1 c2 c3 c4
   have hcases:sk=1∨sk=2∨(sk≠1∧sk≠2):=by omega
   rcases hcases with h | h | ⟨h,h'⟩
   ·subst h
    have HY2:Hid (liveL (ms.take (k+1))=liveL (ms.take k)++[nk]):=HY.out rfl
    clear HY HX
    generalize liveL (ms.take k)=L at *
    go_wp2_with (at_builtin;refine wpList_append_own _ rfl _ _ 89 rfl w.heap.size 9 i0 _ 1 16 Tryz.underlying89 hi0 hz0 hzs hzb rfl (by omega) _ L.length (L.map Value.string) rfl ?hown ⟨wr.heap.size+1,0,none⟩ 1 1 [.string nk] rfl rfl ?hnews (by intro u hu;simp at hu;subst hu;rfl) ?h63 ?hbytes ?hbase ?_)
    case hown=>exact HO.out.below (((Below.refl _ _).alloc (Nat.le_refl _) _).alloc (by simp) _)
    case hnews=>(intro j u hj;rw [Addr.add_lit];have hh:=cellsAt (heap_alloc_new (wr.alloc (.cells #[.string nk,.int .i64 1,.int .i64 lk,.int .i64 ak,.bool vk] 37)) (.cells #[.string nk] 9)) (0+j);rw [show (wr.alloc (.cells #[.string nk,.int .i64 1,.int .i64 lk,.int .i64 ak,.bool vk] 37)).heap.size=wr.heap.size+1 by simp] at hh;exact hh.trans (by simpa using hj))
    case h63=>(unfold maxLen;omega)
    case hbytes=>omega
    case hbase=>first | omega | (simp;omega)
    intro v' w2 r1 r2 r3
    have HO2:Hid (OwnS w.heap.size w2 v' (L++[nk])):=ownS_snoc r1
    have HB2:Hid (Below w.heap.size w w2):=((hbl.alloc hsz _).alloc (by simp;omega) _).grown r2 (by simp;omega) (fun j hj=>(HO.out.lt j hj).1)
    go_wp2_with fail
    exact ⟨⟨k+1,by omega,by go_num,HB2.out,by rw [HY2.out];exact HO2⟩,by simp [intOf];omega⟩
   ·subst h
    have HY2:Hid (liveL (ms.take (k+1))=liveL (ms.take k)++[nk]):=HY.out rfl
    clear HY HX
    generalize liveL (ms.take k)=L at *
    go_wp2_with (at_builtin;refine wpList_append_own _ rfl _ _ 89 rfl w.heap.size 9 i0 _ 1 16 Tryz.underlying89 hi0 hz0 hzs hzb rfl (by omega) _ L.length (L.map Value.string) rfl ?hown ⟨wr.heap.size+1,0,none⟩ 1 1 [.string nk] rfl rfl ?hnews (by intro u hu;simp at hu;subst hu;rfl) ?h63 ?hbytes ?hbase ?_)
    case hown=>exact HO.out.below (((Below.refl _ _).alloc (Nat.le_refl _) _).alloc (by simp) _)
    case hnews=>(intro j u hj;rw [Addr.add_lit];have hh:=cellsAt (heap_alloc_new (wr.alloc (.cells #[.string nk,.int .i64 2,.int .i64 lk,.int .i64 ak,.bool vk] 37)) (.cells #[.string nk] 9)) (0+j);rw [show (wr.alloc (.cells #[.string nk,.int .i64 2,.int .i64 lk,.int .i64 ak,.bool vk] 37)).heap.size=wr.heap.size+1 by simp] at hh;exact hh.trans (by simpa using hj))
    case h63=>(unfold maxLen;omega)
    case hbytes=>omega
    case hbase=>first | omega | (simp;omega)
    intro v' w2 r1 r2 r3
    have HO2:Hid (OwnS w.heap.size w2 v' (L++[nk])):=ownS_snoc r1
    have HB2:Hid (Below w.heap.size w w2):=((hbl.alloc hsz _).alloc (by simp;omega) _).grown r2 (by simp;omega) (fun j hj=>(HO.out.lt j hj).1)
    go_wp2_with fail
    exact ⟨⟨k+1,by omega,by go_num,HB2.out,by rw [HY2.out];exact HO2⟩,by simp [intOf];omega⟩
   ·have e1:(sk == 1)=false:=by simpa using h
    have e2:(sk == 2)=false:=by simpa using h'
    have HX2:Hid (liveL (ms.take (k+1))=liveL (ms.take k)):=HX.out (by simp [isLive,h,h'])
    clear HY HX h h'
    go_wp2_with fail
    go_roundw
    case rel=>exact ⟨k+1,by omega,by go_num,hbl.alloc hsz _,by rw [HX2.out];exact HO.out.below ((Below.refl _ _).alloc (Nat.le_refl _) _)⟩
    case measure=>simp [intOf];omega
  ·have HF:Hid (OwnS w.heap.size wr u5 (liveL ms)):=by
    have h:=HO.out
    rw [List.take_of_length_le (by rw [HN.out];omega)] at h
    exact h
   go_wp2_with fail
   go_ret2
   exact ⟨u5,rfl,HF,hbl⟩
end Go.Proofs.YtikgjgmgbfjcgaaGreat
