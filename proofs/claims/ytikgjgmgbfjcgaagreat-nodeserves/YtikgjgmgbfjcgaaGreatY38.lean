import Derived.Test.YtikgjgmgbfjcgaaGreatY7
namespace Go.Proofs.YtikgjgmgbfjcgaaGreat
open Go.RowKit
def AtI (ms:List Mem) (t:ByteArray) (r:Int):Prop:=
 (∃ k:Nat,k < ms.length∧r=k∧(ms.getD k dm).name=t)∨(r = -1∧∀ j,j < ms.length→(ms.getD j dm).name≠t)
def outL (ms:List Mem) (m:Mem) (p q k:Nat):List Mem:=if k≤p then ms.take k else ms.take p++m :: (ms.take k).drop q
theorem outL_lo {ms:List Mem} {m:Mem} {p q k:Nat} (h:k < p) (hk:k < ms.length):outL ms m p q (k+1)=outL ms m p q k++[ms.getD k dm]:=by
 rw [outL,outL,if_pos (by omega),if_pos (by omega),List.take_succ_eq_append_getElem hk]
 simp [List.getD,List.getElem?_eq_getElem hk]
theorem outL_eq {ms:List Mem} {m:Mem} {p:Nat} (hp:p < ms.length):outL ms m p (p+1) (p+1)=outL ms m p (p+1) p++[m]:=by
 rw [outL,outL,if_neg (by omega),if_pos (by omega),List.drop_of_length_le (by simp;omega)]
theorem outL_ne {ms:List Mem} {m:Mem} {p:Nat} (hp:p < ms.length):outL ms m p p (p+1)=(outL ms m p p p++[m])++[ms.getD p dm]:=by
 rw [outL,outL,if_neg (by omega),if_pos (by omega),List.take_succ_eq_append_getElem hp,List.drop_append_of_le_length (by simp;omega),List.drop_of_length_le (by simp;omega)]
 simp [List.getD,List.getElem?_eq_getElem hp]
theorem outL_hi {ms:List Mem} {m:Mem} {p q k:Nat} (h:p < k) (hq:q≤k) (hk:k < ms.length):outL ms m p q (k+1)=outL ms m p q k++[ms.getD k dm]:=by
 rw [outL,outL,if_neg (by omega),if_neg (by omega),List.take_succ_eq_append_getElem hk,List.drop_append_of_le_length (by simp;omega)]
 simp [List.getD,List.getElem?_eq_getElem hk]
theorem outL_len {ms:List Mem} {m:Mem} {p q k:Nat}:(outL ms m p q k).length≤1+ms.length+ms.length:=by
 unfold outL;split<;>simp<;>omega
theorem atI_at {ms:List Mem} {t:ByteArray} {r:Int} {p:Nat} {f:Bool} (hi:AtI ms t r) (ha:At ms t p f) (hr:Rise ms):(f=true→r=p)∧(f=false→r = -1):=by
 rcases hi with ⟨k,hk,rfl,hn⟩ | ⟨rfl,hn⟩
 ·have hc:cmpI (ms.getD k dm).name t=0:=(cmpI_eq _ _).2 hn
  have hat:At ms t k true:=⟨by omega,fun j hj=>?_,fun j hj hl=>?_,⟨fun _=>⟨hk,hc⟩,fun _=>rfl⟩⟩
  ·obtain ⟨rfl,rfl⟩:=at_uniq ha hat
   exact ⟨fun _=>rfl,fun h=>by cases h⟩
  ·have hp:=List.pairwise_iff_getElem.1 hr j k (by omega) hk hj
   have e1:ms.getD j dm=ms[j]:=by simp [List.getD,List.getElem?_eq_getElem (show j < ms.length by omega)]
   have e2:ms.getD k dm=ms[k]:=by simp [List.getD,List.getElem?_eq_getElem hk]
   rw [cmpI_lt,e1,← hn,e2];exact hp
  ·rcases Nat.lt_or_eq_of_le hj with h | rfl
   ·have hp:=List.pairwise_iff_getElem.1 hr k j hk hl h
    have e1:ms.getD j dm=ms[j]:=by simp [List.getD,List.getElem?_eq_getElem hl]
    have e2:ms.getD k dm=ms[k]:=by simp [List.getD,List.getElem?_eq_getElem hk]
    have:0 < cmpI (ms.getD j dm).name t:=by rw [cmpI_gt,e1,← hn,e2];exact hp
    omega
   ·omega
 ·refine ⟨fun h=>?_,fun _=>rfl⟩
  have:=ha.is.1 h
  exact absurd ((cmpI_eq _ _).1 this.2) (hn p this.1)
theorem at_hi_ne {ms:List Mem} {t:ByteArray} {p:Nat} {f:Bool} (ha:At ms t p f) (hr:Rise ms) (k:Nat) (hk:p < k) (hl:k < ms.length):(ms.getD k dm).name≠t:=by
 intro e
 have hp:=List.pairwise_iff_getElem.1 hr p k (by omega) hl hk
 have e1:ms.getD p dm=ms[p]:=by simp [List.getD,List.getElem?_eq_getElem (show p < ms.length by omega)]
 have e2:ms.getD k dm=ms[k]:=by simp [List.getD,List.getElem?_eq_getElem hl]
 have h:=ha.hi p (Nat.le_refl _) (by omega)
 have:cmpI (ms.getD p dm).name t < 0:=by rw [cmpI_lt,e1,← e,e2];exact hp
 omega
end Go.Proofs.YtikgjgmgbfjcgaaGreat
