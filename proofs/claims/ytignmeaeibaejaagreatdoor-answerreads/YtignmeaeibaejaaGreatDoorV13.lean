import Derived.Test.YtignmeaeibaejaaGreatDoorV12
namespace Go.Proofs.YtignmeaeibaejaaGreatDoor
namespace Sv
open Go.RowKit
def keyOf (s:Svc):Svc:=⟨s.node,s.idn,⟨#[]⟩,⟨#[]⟩,0,0,false,0,false⟩
def keep (name tag:ByteArray) (m:Svc):Bool:=(m.name.toList == name.toList) && ((tag.toList == []) || (m.tag.toList == tag.toList)) && m.passing && !m.gone
def findL (ms:List Svc) (name tag:ByteArray):List Svc:=ms.filter (keep name tag)
def findE (name tag:ByteArray):Int:=if (labB name && tagB tag)=true then 0 else 1
theorem findL_yes {ms:List Svc} {name tag:ByteArray} {k:Nat} (hk:k < ms.length) (h:keep name tag (ms.getD k dm)=true):findL (ms.take (k+1)) name tag=findL (ms.take k) name tag++[ms.getD k dm]:=by
 rw [RL.getD_el dm hk] at h ⊢
 rw [findL,findL,List.take_succ_eq_append_getElem hk,List.filter_append,List.filter_cons_of_pos h]
 rfl
theorem findL_no {ms:List Svc} {name tag:ByteArray} {k:Nat} (hk:k < ms.length) (h:keep name tag (ms.getD k dm)=false):findL (ms.take (k+1)) name tag=findL (ms.take k) name tag:=by
 rw [RL.getD_el dm hk] at h
 rw [findL,findL,List.take_succ_eq_append_getElem hk,List.filter_append,List.filter_cons_of_neg (by rw [h];exact Bool.false_ne_true)]
 simp
theorem findL_len (ms:List Svc) (name tag:ByteArray):(findL ms name tag).length≤ms.length:=List.length_filter_le _ _
theorem findL_ok {ms:List Svc} {name tag:ByteArray} (h:∀ m∈ms,m.ok):∀ m∈findL ms name tag,m.ok:=fun m hm=>h m (List.mem_filter.1 hm).1
theorem keep_why (name tag:ByteArray) (m:Svc) :
 (keep name tag m=false∧((m.name.toList == name.toList)=false∨((m.name.toList == name.toList)=true∧(tag.toList == [])=false∧(m.tag.toList == tag.toList)=false)
   ∨ ((m.name.toList == name.toList)=true∧(tag.toList == [])=true∧m.passing=false)∨((m.name.toList == name.toList)=true∧(tag.toList == [])=false∧(m.tag.toList == tag.toList)=true∧m.passing=false)
   ∨ ((m.name.toList == name.toList)=true∧(tag.toList == [])=true∧m.passing=true∧m.gone=true)∨((m.name.toList == name.toList)=true∧(tag.toList == [])=false∧(m.tag.toList == tag.toList)=true∧m.passing=true∧m.gone=true)))
 ∨ (keep name tag m=true∧(((m.name.toList == name.toList)=true∧(tag.toList == [])=true∧m.passing=true∧m.gone=false)∨((m.name.toList == name.toList)=true∧(tag.toList == [])=false∧(m.tag.toList == tag.toList)=true∧m.passing=true∧m.gone=false))):=by
 unfold keep
 generalize (m.name.toList == name.toList)=b1
 generalize (tag.toList == [])=b2
 generalize (m.tag.toList == tag.toList)=b3
 generalize m.passing=b4
 generalize m.gone=b5
 cases b1<;>cases b2<;>cases b3<;>cases b4<;>cases b5<;>simp
set_option maxHeartbeats 6400000 in
set_option maxRecDepth 100000 in
theorem findS_good (ms:List Svc) (v:Value) (name tag:ByteArray) (w:World) (hv:Sl w v ms) (h0:chk ms=0) (hn:name.size≤maxLen) (ht:tag.size≤maxLen) (hl:findE name tag=0) :
 Calls Tryz.prog 109 #[v,.string name,.string tag] w fun e w'=>∃ v',e=.returned (.tuple #[v',.int .i64 0])∧Own w.heap.size w' v' (findL ms name tag)∧Below w.heap.size w w':=by
 obtain ⟨i0,hi0,hz0,hzs,hzb⟩:=info_parts Tryz.info57
 have he:(chk ms != 0)=false:=by simpa using h0
 have hlen:=(chk_zero h0).1
 have HV:Hid (Sl w v ms):=hv
 have hll:labB name=true∧tagB tag=true:=by
  unfold findE at hl
  split at hl
  ·rename_i h;simpa using h
  ·cases hl
 obtain ⟨h1,h2⟩:=hll
 obtain ⟨pa,ca,rfl,_,ha⟩:=hv
 have HA:Hid (ms=[]∨∃ b off,pa=some ⟨b,off,none⟩∧b < w.heap.size∧Row w b off ms):=ha
 clear ha h0 hl
 generalize hna:ms.length=n at *
 have HN:Hid (ms.length=n):=hna
 clear hna
 go_enter Tryz.func109,Tryz.ntmps109
 go_wp2_with (first | (go_at_call 27;refine (check_any ms _ _ HV.out).mono ?_;rintro e w1 ⟨rfl,hb1⟩) | (go_at_call 26;refine (label_any _ _ hn).mono ?_;rintro e w' ⟨rfl,rfl⟩;rw [h1]) | (go_at_call 99;refine (tag_any tag _ _ ht (heap_new1 _ _)).mono ?_;rintro e w3 ⟨rfl,rfl⟩;rw [h2]))
 have HB1:Hid (Below w.heap.size w _):=hb1.alloc hb1.size (.cells #[.string tag] 9)
 have hs1:=HB1.out.size
 clear hb1 HV
 go_loopw [9,28] (fun kn i w'=>∃ k:Nat,k≤n∧i=.int .i64 k∧Below w.heap.size w w'∧Hid (Own w.heap.size w' kn (findL (ms.take k) name tag))) (fun _ i _=>n - (intOf i).toNat)
 case atStart=>exact ⟨0,Nat.zero_le _,rfl,HB1.out,own_nil _ _⟩
 case round=>
  obtain ⟨k,hk,rfl,hbl,HO⟩:=hrel
  obtain ⟨hbc,hbf⟩:=bcell hbl
  have hsz:=hbl.size
  have hll2:(findL (ms.take k) name tag).length≤40:=by have h1:=findL_len (ms.take k) name tag;have h2:(ms.take k).length≤k:=List.length_take_le _ _;omega
  by_cases hlt:k < n
  ·obtain ⟨b1,o1,hp1,hl1,hr1⟩:∃ b off,pa=some ⟨b,off,none⟩∧b < w.heap.size∧Row w b off ms:=by
    rcases HA.out with h | h
    ·have:=HN.out;rw [h] at this;simp at this;omega
    ·exact h
   subst hp1
   obtain ⟨c0,c1,c2,c3,c4,c5,c6,c7,c8⟩:=hr1 k (by rw [HN.out];exact hlt)
   clear hr1
   have hkl:k < ms.length:=by rw [HN.out];exact hlt
   have HY:Hid (keep name tag (ms.getD k dm)=true→findL (ms.take (k+1)) name tag=findL (ms.take k) name tag++[ms.getD k dm]):=fun h=>findL_yes hkl h
   have HNO:Hid (keep name tag (ms.getD k dm)=false→findL (ms.take (k+1)) name tag=findL (ms.take k) name tag):=fun h=>findL_no hkl h
   generalize ms.getD k dm=m at *
   rcases keep_why name tag m with ⟨hkp,hw⟩ | ⟨hkp,hw⟩
   ·have HST:Hid (findL (ms.take (k+1)) name tag=findL (ms.take k) name tag):=HNO.out hkp
    clear HY HNO hkp
    rcases hw with h | ⟨h,g1,g2⟩ | ⟨h,g1,g2⟩ | ⟨h,g1,g2,g3⟩ | ⟨h,g1,g2,g3⟩ | ⟨h,g1,g2,g3,g4⟩
    all_goals
     go_wp2_with fail
     go_roundw
     case rel=>exact ⟨k+1,by omega,by go_num,hbl.alloc hsz _,by rw [HST.out];exact HO.out.below ((Below.refl _ _).alloc (Nat.le_refl _) _)⟩
     case measure=>simp [intOf];omega
   ·have HST:Hid (findL (ms.take (k+1)) name tag=findL (ms.take k) name tag++[m]):=HY.out hkp
    clear HY HNO hkp
    generalize findL (ms.take k) name tag=L at *
    rcases hw with ⟨h,g1,gp,gg⟩ | ⟨h,g1,g2,gp,gg⟩
    all_goals
     go_wp2_with (at_builtin;refine wpList_append_own _ rfl _ _ 22 rfl w.heap.size 57 i0 _ 9 104 Tryz.underlying22 hi0 hz0 hzs hzb rfl (by omega) _ L.length (fl L) rfl ?hown ⟨wr.heap.size+1,0,none⟩ 1 1 m.cs rfl rfl ?hnews (cs_one _) ?h63 ?hbytes ?hbase ?_)
     case hown=>exact HO.out.below (((Below.refl _ _).alloc (Nat.le_refl _) _).alloc (by simp) _)
     case hnews=>(intro j u hj;rw [Addr.add_lit];exact (cell_topL (by simp)).trans (by simpa [Svc.cs,gp,gg] using hj))
     case h63=>(unfold maxLen;omega)
     case hbytes=>omega
     case hbase=>(simp;omega)
     all_goals
      intro v' w2 r1 r2 r3
      have HBX:Hid (Below w.heap.size w w2):=((hbl.alloc hsz _).alloc (by simp;omega) _).grown r2 (by simp;omega) (fun j hj=>(HO.out.lt j hj).1)
      have HOX:Hid (Own w.heap.size w2 v' (L++[m])):=own_snoc r1
      clear r1 r2 r3
      go_wp2_with fail
      go_roundw
      case rel=>exact ⟨k+1,by omega,by go_num,HBX.out,by rw [HST.out];exact HOX.out⟩
      case measure=>simp [intOf];omega
  ·have hkn:k=n:=by omega
   subst hkn
   have HFO:Hid (Own w.heap.size wr u9 (findL ms name tag)):=by
    have h:=HO.out
    rw [List.take_of_length_le (by rw [HN.out];exact Nat.le_refl _)] at h
    exact h
   go_wp2_with fail
   go_ret2
   exact ⟨u9,rfl,HFO.out,hbl⟩
end Sv
end Go.Proofs.YtignmeaeibaejaaGreatDoor
