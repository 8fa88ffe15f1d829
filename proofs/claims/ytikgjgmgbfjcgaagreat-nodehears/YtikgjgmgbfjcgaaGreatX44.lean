import Derived.Test.YtikgjgmgbfjcgaaGreatX33
import Derived.Test.YtikgjgmgbfjcgaaGreatX25
import Derived.Test.YtikgjgmgbfjcgaaGreatX26
import Derived.Test.YtikgjgmgbfjcgaaGreatX29
import Derived.Test.YtikgjgmgbfjcgaaGreatX24
namespace Go.Proofs.YtikgjgmgbfjcgaaGreat
open Go.RowKit
theorem liveAgain_newer (m:Mem):newM (liveAgain m) m=true:=by
 have h:¬ (m.life+1=m.life):=by omega
 show newB 1 (m.life+1) m.addr m.server m.state m.life m.addr m.server=true
 unfold newB
 rw [if_neg h]
 simp
 omega
theorem hearL_again {ms:List Mem} {t:ByteArray} {p:Nat} (h:At ms t p true):hearL ms (liveAgain (ms.getD p dm))=ms.set p (liveAgain (ms.getD p dm)):=by
 have hn:(ms.getD p dm).name=t:=(cmpI_eq _ _).1 (h.is.1 rfl).2
 have h':At ms (liveAgain (ms.getD p dm)).name p true:=by
  have:(liveAgain (ms.getD p dm)).name=t:=hn
  rw [this];exact h
 rw [hearL_at ms _ p true h',if_pos rfl,if_pos (liveAgain_newer _)]
def RefuteOfSays (ms:List Mem) (p:Nat) (f:Bool) (w:World) (e:Ending) (w':World):Prop:=
 ∃ v':Value,e=.returned (.tuple #[v',.bool (refR ms p f),.int .i64 (refE ms p f)])∧Below w.heap.size w w'∧(refE ms p f=0→Sl w' v' (refL ms p f))
set_option maxHeartbeats 1000000 in
set_option maxRecDepth 100000 in
theorem refuteOf_none (ms:List Mem) (v:Value) (me:ByteArray) (w:World) (hv:Sl w v ms) (h0:chk ms=0) (p:Nat) (hat:At ms me p false) :
 Calls Tryz.prog 127 #[v,.string me] w fun e w'=>RefuteOfSays ms p false w e w':=by
 have hz:=chk_zero h0
 have HR:Hid (Rise ms):=hz.2.1
 have hlen:=hz.1
 have HAT:Hid (At ms me p false):=hat
 have HV:Hid (Sl w v ms):=hv
 clear hv hz hat h0
 go_enter Tryz.func127,Tryz.ntmps127
 go_wp2_with fail
 refine (memberAt_any ms _ _ _ HV.out (by omega)).mono ?_
 rintro e w1 ⟨r,rfl,hI,rfl⟩
 have hrp:r=(-1:Int):=(atI_at hI.out HAT.out HR.out).2 rfl
 subst hrp
 go_wp2_with fail
 go_ret3
 exact ⟨v,rfl,Below.refl _ _,fun _=>HV.out⟩
set_option maxHeartbeats 1600000 in
set_option maxRecDepth 100000 in
theorem refuteOf_some (ms:List Mem) (v:Value) (me:ByteArray) (w:World) (hv:Sl w v ms) (h0:chk ms=0) (p:Nat) (hat:At ms me p true) :
 Calls Tryz.prog 127 #[v,.string me] w fun e w'=>RefuteOfSays ms p true w e w':=by
 have hz:=chk_zero h0
 have HR:Hid (Rise ms):=hz.2.1
 have hlen:=hz.1
 have HAT:Hid (At ms me p true):=hat
 have HV:Hid (Sl w v ms):=hv
 have hp:=(hat.is.1 rfl).1
 have hbd:=oneE_zero (firstE_at0 hz.2.2 p hp)
 have HAG:Hid (hearL ms (liveAgain (ms.getD p dm))=ms.set p (liveAgain (ms.getD p dm))):=hearL_again hat
 have HNS:Hid ((ms.getD p dm).name.size≤maxLen):=by obtain ⟨_,_,_,h,_⟩:=hv;exact h p
 obtain ⟨pa,ca,rfl,_,ha⟩:=hv
 obtain ⟨b1,o1,hp1,hl1,hr1⟩:∃ b off,pa=some ⟨b,off,none⟩∧b < w.heap.size∧Row w b off ms:=by
  rcases ha with h | h
  ·rw [h] at hp;simp at hp
  ·exact h
 subst hp1
 obtain ⟨c0,c1,c2,c3,c4⟩:=hr1 p hp
 clear hr1 ha hz hat h0
 have HREF:Hid (refL ms p true=if refR ms p true=true then ms.set p (liveAgain (ms.getD p dm)) else ms):=rfl
 generalize hm:ms.getD p dm=mk at *
 have Hm:Hid (ms.getD p dm=mk):=hm
 clear hm
 obtain ⟨nk,sk,lk,ak,vk⟩:=mk
 simp only at c0 c1 c2 c3 c4 hbd
 obtain ⟨_,⟨hs1,hs4⟩,⟨hl1',hl2'⟩,_⟩:=hbd
 go_enter Tryz.func127,Tryz.ntmps127
 go_wp2_with fail
 refine (memberAt_any ms _ _ _ HV.out (by omega)).mono ?_
 rintro e w1 ⟨r,rfl,hI,rfl⟩
 have hrp:r=(p:Int):=(atI_at hI.out HAT.out HR.out).1 rfl
 subst hrp
 by_cases hs:sk=1∨sk=4
 ·have e1:refR ms p true=false:=by unfold refR;rw [Hm.out];rcases hs with h | h<;>simp [h]
  have e2:refE ms p true=0:=by unfold refE;rw [Hm.out];rcases hs with h | h<;>simp [h]
  have E1:Hid (refR ms p true=false):=e1
  have E2:Hid (refE ms p true=0):=e2
  clear e1 e2
  rcases hs with h | h
  ·subst h
   go_wp2_with fail
   go_ret3
   refine ⟨_,by rw [E1.out,E2.out];rfl,Below.refl _ _,fun _=>?_⟩
   rw [HREF.out,if_neg (by rw [E1.out];exact Bool.false_ne_true)]
   exact HV.out
  ·subst h
   go_wp2_with fail
   go_ret3
   refine ⟨_,by rw [E1.out,E2.out];rfl,Below.refl _ _,fun _=>?_⟩
   rw [HREF.out,if_neg (by rw [E1.out];exact Bool.false_ne_true)]
   exact HV.out
 ·have hd:(decide (sk=2) || decide (sk=3))=true:=by
   have:sk=2∨sk=3:=by omega
   simpa using this
  have f1:(sk == 1)=false:=by simp;omega
  have f4:(sk == 4)=false:=by simp;omega
  rcases hl2:((lk:Int) == 1000000) with _ | _
  ·have E1:Hid (refR ms p true=true):=(show refR ms p true=true by unfold refR;rw [Hm.out];simp only [hd,hl2];rfl)
   have E2:Hid (refE ms p true=0):=(show refE ms p true=0 by unfold refE;rw [Hm.out];simp only [hd,hl2];rfl)
   have HV1:Hid (Sl (w1.alloc (.cells #[.string nk,.int .i64 1,.int .i64 (lk+1),.int .i64 ak,.bool vk] 37)) (.slice (some ⟨b1,o1,none⟩) ms.length ca) ms):=HV.out.below ((Below.refl _ _).alloc (Nat.le_refl _) _)
   clear hs hd
   go_wp2_with fail
   refine (hearMember_any ms _ ⟨nk,1,lk+1,ak,vk⟩ _ HV1.out (by omega) HR.out HNS.out).mono ?_
   rintro e w2 ⟨v2,r2,rfl,g1,_,g2⟩
   have G1:Hid (Sl w2 v2 (hearL ms ⟨nk,1,lk+1,ak,vk⟩)):=g1
   clear g1
   go_wp2_with fail
   go_ret3
   refine ⟨v2,by rw [E1.out,E2.out];rfl,((Below.refl _ _).alloc (Nat.le_refl _) _).trans (g2.mono (by simp)),fun _=>?_⟩
   rw [HREF.out,if_pos E1.out,← HAG.out]
   exact G1.out
  ·have E1:Hid (refR ms p true=false):=(show refR ms p true=false by unfold refR;rw [Hm.out];simp only [hd,hl2];rfl)
   have E2:Hid (refE ms p true=3):=(show refE ms p true=3 by unfold refE;rw [Hm.out];simp only [hd,hl2];rfl)
   clear hs hd
   go_wp2_with fail
   go_ret3
   exact ⟨_,by rw [E1.out,E2.out];rfl,(Below.refl _ _).alloc (Nat.le_refl _) _,fun h=>by rw [E2.out] at h;cases h⟩
theorem refuteOf_any (ms:List Mem) (v:Value) (me:ByteArray) (w:World) (hv:Sl w v ms) (h0:chk ms=0) (p:Nat) (f:Bool) (hat:At ms me p f) :
 Calls Tryz.prog 127 #[v,.string me] w fun e w'=>RefuteOfSays ms p f w e w':=by
 cases f
 ·exact refuteOf_none ms v me w hv h0 p hat
 ·exact refuteOf_some ms v me w hv h0 p hat
theorem putDoc_any (rs:List Rum) (v:Value) (m:Mem) (w:World) (hv:RSl w v rs) (hm:m.name.size≤maxLen) (h0:chkR rs=0) :
 Calls Tryz.prog 126 #[v,.agg #[.string m.name,.int .i64 m.state,.int .i64 m.life,.int .i64 m.addr,.bool m.server]] w fun e w'=>∃ a k c,e=.returned (.tuple #[.slice a k c,.int .i64 (putE rs m)])∧Below w.heap.size w w'∧RSl w' (.slice a k c) (if putE rs m=0 then putL rs m else []):=by
 have hz:=chkR_zero h0
 have hl:=hz.1
 have hok:∀ r∈rs,r.m.name.size≤maxLen:=by obtain ⟨_,_,_,h,_⟩:=hv;exact rns_mem h
 have hle:rAt rs m.name≤rs.length:=List.findIdx_le_length
 have hne:∀ j,j < rs.length→j≠rAt rs m.name→(rs.getD j dr).m.name≠m.name:=fun j hj h=>rAt_ne hz.2.2.2 hj h
 have hks:∀ r∈rs.eraseIdx (rAt rs m.name)++[⟨m,0⟩],r.m.name.size≤maxLen:=fun r hr=>by
  rcases List.mem_append.1 hr with hr | hr
  ·exact hok r (List.mem_of_mem_eraseIdx hr)
  ·rw [List.mem_singleton.1 hr];exact hm
 by_cases hp:rAt rs m.name < rs.length
 ·rcases hn:newM m (rs.getD (rAt rs m.name) dr).m with _ | _
  ·have e1:putL rs m=rs:=by unfold putL;rw [if_pos hp,if_neg (by rw [hn];simp)]
   have e2:putE rs m=0:=by unfold putE;rw [e1,if_neg (by omega)]
   refine (putRumor_old rs v m w hv hm hl _ hne hp (fun _=>⟨rAt_is hp,hn⟩)).mono ?_
   rintro e w' ⟨rfl,hb⟩
   have hv':=hv.below hb
   obtain ⟨a,c,rfl,_⟩:=hv
   exact ⟨a,_,c,by rw [e2],hb,by rw [if_pos e2,e1];exact hv'⟩
  ·have e1:putL rs m=rs.eraseIdx (rAt rs m.name)++[⟨m,0⟩]:=by unfold putL;rw [if_pos hp,if_pos hn]
   have hlen:(rs.eraseIdx (rAt rs m.name)).length < 20:=by rw [List.length_eraseIdx_of_lt hp];omega
   have e2:putE rs m=0:=by unfold putE;rw [e1,if_neg (by rw [List.length_append];simp only [List.length_cons,List.length_nil];omega)]
   refine (putRumor_newer rs v m w hv hm hl _ hne (fun _=>⟨rAt_is hp,hn⟩)).mono ?_
   rintro e w' (⟨h20,_⟩ | ⟨_,v',rfl,ho,hb⟩)
   ·omega
   ·have hs:=ho.sl (rns_get hks)
    obtain ⟨a,c,rfl,_⟩:=own_slice ho
    exact ⟨a,_,c,by rw [e2],hb,by rw [if_pos e2,e1];exact hs⟩
 ·have hx:rs.eraseIdx (rAt rs m.name)=rs:=List.eraseIdx_of_length_le (by omega)
  have e1:putL rs m=rs++[⟨m,0⟩]:=by unfold putL;rw [if_neg hp]
  refine (putRumor_newer rs v m w hv hm hl (rAt rs m.name) hne (fun h=>absurd h hp)).mono ?_
  rw [hx] at hks ⊢
  rintro e w' (⟨h20,rfl,hb⟩ | ⟨h20,v',rfl,ho,hb⟩)
  ·have e2:putE rs m=2:=by unfold putE;rw [e1,if_pos (by rw [List.length_append];simp only [List.length_cons,List.length_nil];omega)]
   exact ⟨none,0,0,by rw [e2],hb,by rw [e2,if_neg (by decide)];exact ⟨none,0,rfl,rns_get (by simp),.inl rfl⟩⟩
  ·have e2:putE rs m=0:=by unfold putE;rw [e1,if_neg (by rw [List.length_append];simp only [List.length_cons,List.length_nil];omega)]
   have hs:=ho.sl (rns_get hks)
   obtain ⟨a,c,rfl,_⟩:=own_slice ho
   exact ⟨a,_,c,by rw [e2],hb,by rw [if_pos e2,e1];exact hs⟩
theorem rf_none {n:Nd} (he:n.e=0):rfE n=0∧rfN n=n:=by
 have hp:=Nd.parts (Nd.e_zero he).1
 obtain ⟨me,hme,h2,h3,_⟩:=Nd.wE_zero (Nd.e_zero he).2
 have hat:=at_pos (chk_zero hp.ms).2.1 n.name
 have hR:refR n.ms (rfP n) (rfF n)=false∧refE n.ms (rfP n) (rfF n)=0:=by
  rcases hf:rfF n with _ | _
  ·simp [refR,refE]
  ·have hat2:At n.ms n.name (rfP n) true:=by rw [← hf];exact hat
   have h4:fstM n.ms n.name=some (n.ms.getD (rfP n) dm):=fst_some_of hat2
   rw [hme] at h4
   injection h4 with h4
   unfold refR refE
   rw [← h4]
   simp [h2,h3]
 refine ⟨?_,?_⟩
 ·unfold rfE
  rw [hR.2,hR.1];simp
 ·unfold rfN rfL refL
  rw [hR.1];simp
end Go.Proofs.YtikgjgmgbfjcgaaGreat
