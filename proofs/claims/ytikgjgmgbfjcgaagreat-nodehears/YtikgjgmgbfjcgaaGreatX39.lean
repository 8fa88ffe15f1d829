import Derived.Test.YtikgjgmgbfjcgaaGreatX19
namespace Go.Proofs.YtikgjgmgbfjcgaaGreat
namespace Gw
open Go.RowKit
theorem newE_def (a b:Gwy):newE a b=if a.version=b.version then decide (b.addr < a.addr) else decide (b.version < a.version):=by
 simp only [newE,newC,RL.lex]
 by_cases h:a.version=b.version
 ·rw [if_pos (by omega),if_pos h];congr 1;apply propext;omega
 ·rw [if_neg (by omega),if_neg h];congr 1;apply propext;omega
theorem new_why (m x:Gwy):(newE m x=true∧(x.version < m.version∨(m.version=x.version∧x.addr < m.addr)))∨(newE m x=false∧((m.version=x.version∧m.addr≤x.addr)∨m.version < x.version)):=by
 rw [newE_def]
 by_cases h:m.version=x.version
 ·rw [if_pos h]
  by_cases h2:x.addr < m.addr
  ·exact .inl ⟨by simpa using h2,.inr ⟨h,h2⟩⟩
  ·exact .inr ⟨by simpa using h2,.inl ⟨h,by omega⟩⟩
 ·rw [if_neg h]
  by_cases h2:x.version < m.version
  ·exact .inl ⟨by simpa using h2,.inl h2⟩
  ·exact .inr ⟨by simpa using h2,.inr (by omega)⟩
theorem put_hear {ms:List Gwy} {m:Gwy} {p:Nat} {f:Bool} (h:At ms m p f) (hn:f=true→newE m (ms.getD p dm)=true):RL.put ms m p f=hearL ms m:=(RL.hear_put ord newE dm h hn).symm
theorem hearL_old {ms:List Gwy} {m:Gwy} {p:Nat} (h:At ms m p true) (hn:newE m (ms.getD p dm)=false):hearL ms m=ms:=by
 rw [hearL_at ms m p true h,if_pos rfl,if_neg (by rw [hn];exact Bool.false_ne_true)]
set_option maxHeartbeats 9000000 in
set_option maxRecDepth 100000 in
theorem refJoin_any (a b:List Gwy) (va vb:Value) (w:World) (ha:Sl w va a) (hb:Sl w vb b) (hla:a.length≤100) (hlb:b.length≤100) (hr:Rise a) :
 Calls Tryz.prog 71 #[va,vb] w fun e w'=>∃ v',e=.returned v'∧Hid (Sl w' v' (joinL a b))∧Below w.heap.size w w':=by
 obtain ⟨pv,cb,rfl,nsb,hb⟩:=hb
 have HA:Hid (Sl w va a):=ha
 have HB:Hid (b=[]∨∃ b_1 off,pv=some ⟨b_1,off,none⟩∧b_1 < w.heap.size∧Row w b_1 off b):=hb
 have NA:Hid (∀ m∈a,m.ok):=sl_ok ha
 have NB:Hid (∀ m∈b,m.ok):=ns_mem nsb
 have RA:Hid (Rise a):=hr
 clear ha hb nsb hr
 generalize hnb:b.length=nb at *
 have HNB:Hid (b.length=nb):=hnb
 clear hnb
 go_enter Tryz.func71,Tryz.ntmps71
 go_wp2_with fail
 go_loopw [0,5] (fun kn i w'=>∃ k:Nat,k≤nb∧i=.int .i64 k∧Below w.heap.size w w'∧Hid (Sl w' kn (joinL a (b.take k)))) (fun _ i _=>nb - (intOf i).toNat)
 case atStart=>exact ⟨0,Nat.zero_le _,rfl,Below.refl _ _,HA⟩
 case round=>
  obtain ⟨k,hk,rfl,hbl,HO⟩:=hrel
  obtain ⟨hbc,hbf⟩:=bcell hbl
  have hsz:=hbl.size
  by_cases hlt:k < nb
  ·obtain ⟨b2,o2,hp2,hl2,hr2⟩:∃ b_1 off,pv=some ⟨b_1,off,none⟩∧b_1 < w.heap.size∧Row w b_1 off b:=by
    rcases HB.out with h | h
    ·have:=HNB.out;rw [h] at this;simp at this;omega
    ·exact h
   subst hp2
   obtain ⟨c0,c1,c2⟩:=hr2 k (by rw [HNB.out];exact hlt)
   clear hr2
   have HJ:Hid (joinL a (b.take (k+1))=hearL (joinL a (b.take k)) (b.getD k dm)):=joinL_take a b k (by rw [HNB.out];exact hlt)
   have HR:Hid (Rise (joinL a (b.take k))):=joinL_rise _ _ RA.out
   have HL:Hid ((joinL a (b.take k)).length≤1000):=by
    have h1:=joinL_len (b.take k) a
    have h2:(b.take k).length≤k:=List.length_take_le _ _
    show (joinL a (b.take k)).length≤1000
    omega
   have HM:Hid ((b.getD k dm).ok):=ns_get NB.out k
   have HNJ:Hid (∀ m∈joinL a (b.take k),m.ok):=ns_join _ _ NA.out (fun x hx=>NB.out x (List.mem_of_mem_take hx))
   generalize b.getD k dm=m at *
   generalize joinL a (b.take k)=known at *
   obtain ⟨p,f,hat⟩:=at_any known HR.out m
   have HAT:Hid (At known m p f):=hat
   have hpn:=hat.le
   clear hat
   have hkl:=HL.out
   go_wp2_with fail
   refine (refAt_any known _ m.centre _ HO.out (by omega)).mono ?_
   rintro e w1 ⟨r,rfl,hI,hw⟩
   have hw':=hw.symm
   clear hw
   subst hw'
   have hrp:=atI_at hI.out HAT.out HR.out
   clear hI
   have HP:Hid (∀ W v',Sl W v' known→Calls Tryz.prog 129 #[v',.agg #[.string m.centre,.int .i64 m.addr,.int .i64 m.version]] W fun e w'=>∃ v2,e=.returned v2∧Own (W.heap.size+1) w' v2 (RL.put known m p f)∧Below W.heap.size W w'):=fun W v' hs=>refPut_any known v' m W hs HL.out HR.out p f HAT.out
   cases f
   ·have hr1:r = -1:=hrp.2 rfl
    subst hr1
    have HST:Hid (RL.put known m p false=hearL known m):=put_hear HAT.out (fun h=>by cases h)
    go_wp2_with fail
    go_quiet (fail)
    have HQ:Hid (Below wr.heap.size wr (wr.drewN nq)):=below_drewN (Below.refl _ _) _
    have HSQ:Hid (Sl (wr.drewN nq) u0 known):=HO.out.below HQ.out
    have hszq:(wr.drewN nq).heap.size=wr.heap.size:=rfl
    go_wp2_with fail
    refine (HP.out (wr.drewN nq) u0 HSQ.out).mono ?_
    rintro e w2 ⟨v2,rfl,g1,g2⟩
    have HBX:Hid (Below w.heap.size w w2):=(hbl.trans (HQ.out.mono hsz)).trans (g2.mono hsz)
    have HOX:Hid (Sl w2 v2 (hearL known m)):=by rw [← HST.out];exact own_names g1 (by rw [HST.out];exact ns_hear HNJ.out HM.out)
    clear g1 g2 HQ HSQ
    go_wp2_with fail
    exact ⟨⟨k+1,by omega,by go_num,HBX.out,by rw [HJ.out];exact HOX.out⟩,by simp [intOf];omega⟩
   ·have hr1:r=(p:Int):=hrp.1 rfl
    subst hr1
    have hp:p < known.length:=(HAT.out.is.1 rfl).1
    obtain ⟨pa,ca,hva,_,hrow⟩:=HO.out
    subst hva
    have b0:decide ((p:Int) < 0)=false:=decide_eq_false (by omega)
    obtain ⟨b3,o3,hp3,hl3,hr3⟩:∃ b_1 off,pa=some ⟨b_1,off,none⟩∧b_1 < wr.heap.size∧Row wr b_1 off known:=by
     rcases hrow with h | h
     ·rw [h] at hp;simp at hp
     ·exact h
    subst hp3
    obtain ⟨d0,d1,d2⟩:=hr3 p hp
    clear hr3 hrow
    generalize hx:known.getD p dm=x at *
    have HX:Hid (known.getD p dm=x):=hx
    clear hx
    rcases new_why m x with ⟨hnw,hy⟩ | ⟨hnw,hy⟩
    ·have HST:Hid (RL.put known m p true=hearL known m):=put_hear HAT.out (fun _=>by rw [HX.out];exact hnw)
     clear hnw
     rcases hy with hy | ⟨hy,hz⟩
     ·have b1:decide (x.version < m.version)=true:=decide_eq_true hy
      clear hy
      go_wp2_with fail
      go_quiet (fail)
      have HQ:Hid (Below wr.heap.size wr (wr.drewN nq)):=below_drewN (Below.refl _ _) _
      have HSQ:Hid (Sl (wr.drewN nq) (.slice (some ⟨b3,o3,none⟩) known.length ca) known):=HO.out.below HQ.out
      have hszq:(wr.drewN nq).heap.size=wr.heap.size:=rfl
      go_wp2_with fail
      refine (HP.out (wr.drewN nq) (.slice (some ⟨b3,o3,none⟩) known.length ca) HSQ.out).mono ?_
      rintro e w2 ⟨v2,rfl,g1,g2⟩
      have HBX:Hid (Below w.heap.size w w2):=(hbl.trans (HQ.out.mono hsz)).trans (g2.mono hsz)
      have HOX:Hid (Sl w2 v2 (hearL known m)):=by rw [← HST.out];exact own_names g1 (by rw [HST.out];exact ns_hear HNJ.out HM.out)
      clear g1 g2 HQ HSQ
      go_wp2_with fail
      exact ⟨⟨k+1,by omega,by go_num,HBX.out,by rw [HJ.out];exact HOX.out⟩,by simp [intOf];omega⟩
     ·have b1:decide (x.version < m.version)=false:=decide_eq_false (by omega)
      have b2:(m.version == x.version)=true:=by simpa using hy
      have e3:decide (x.addr < m.addr)=true:=decide_eq_true hz
      clear hy hz
      go_wp2_with fail
      go_quiet (fail)
      have HQ:Hid (Below wr.heap.size wr (wr.drewN nq)):=below_drewN (Below.refl _ _) _
      have HSQ:Hid (Sl (wr.drewN nq) (.slice (some ⟨b3,o3,none⟩) known.length ca) known):=HO.out.below HQ.out
      have hszq:(wr.drewN nq).heap.size=wr.heap.size:=rfl
      go_wp2_with fail
      refine (HP.out (wr.drewN nq) (.slice (some ⟨b3,o3,none⟩) known.length ca) HSQ.out).mono ?_
      rintro e w2 ⟨v2,rfl,g1,g2⟩
      have HBX:Hid (Below w.heap.size w w2):=(hbl.trans (HQ.out.mono hsz)).trans (g2.mono hsz)
      have HOX:Hid (Sl w2 v2 (hearL known m)):=by rw [← HST.out];exact own_names g1 (by rw [HST.out];exact ns_hear HNJ.out HM.out)
      clear g1 g2 HQ HSQ
      go_wp2_with fail
      exact ⟨⟨k+1,by omega,by go_num,HBX.out,by rw [HJ.out];exact HOX.out⟩,by simp [intOf];omega⟩
    ·have HST:Hid (hearL known m=known):=hearL_old HAT.out (by rw [HX.out];exact hnw)
     clear hnw
     rcases hy with ⟨hy,hz⟩ | hy
     ·have b1:decide (x.version < m.version)=false:=decide_eq_false (by omega)
      have b2:(m.version == x.version)=true:=by simpa using hy
      have e3:decide (x.addr < m.addr)=false:=decide_eq_false (by omega)
      clear hy hz
      go_wp2_with fail
      go_quiet (fail)
      go_wp2_with fail
      exact ⟨⟨k+1,by omega,by go_num,below_drewN hbl _,by rw [HJ.out,HST.out];exact HO.out.below (below_drewN (Below.refl _ _) _)⟩,by simp [intOf];omega⟩
     ·have b1:decide (x.version < m.version)=false:=decide_eq_false (by omega)
      have b2:(m.version == x.version)=false:=by simp;omega
      clear hy
      go_wp2_with fail
      go_quiet (fail)
      go_wp2_with fail
      exact ⟨⟨k+1,by omega,by go_num,below_drewN hbl _,by rw [HJ.out,HST.out];exact HO.out.below (below_drewN (Below.refl _ _) _)⟩,by simp [intOf];omega⟩
  ·have HF:Hid (Sl wr u0 (joinL a b)):=by
    have h:=HO.out
    rw [List.take_of_length_le (by rw [HNB.out];omega)] at h
    exact h
   go_wp2_with fail
   go_ret
   exact ⟨u0,rfl,HF,hbl⟩
end Gw
namespace Gw
open Go.RowKit
end Gw
end Go.Proofs.YtikgjgmgbfjcgaaGreat
