import Derived.Test.YtikgjgmgbfjcgaaGreatY17
namespace Go.Proofs.YtikgjgmgbfjcgaaGreat
namespace Gw
open Go.RowKit
def fnd (ms:List Gwy) (p:Nat) (f:Bool):Gwy:=if f=true then ms.getD p dm else dm
set_option maxHeartbeats 1600000 in
theorem find2_any (ms:List Gwy) (v:Value) (name:ByteArray) (w:World) (h:Sl w v ms) (hn:ms.length≤6) (hr:Rise ms) :
 Calls Tryz.prog 181 #[v,.string name] w fun e w'=>∃ (p:Nat) (f:Bool),e=.returned (.tuple #[.agg #[.string (fnd ms p f).centre,.int .i64 (fnd ms p f).addr,.int .i64 (fnd ms p f).version],.bool f])∧Below w.heap.size w w'∧At ms ⟨name,0,0⟩ p f:=by
 obtain ⟨W0,hW0⟩:∃ W0,W0=w.alloc (.cells #[.string ⟨#[]⟩,.int .i64 0,.int .i64 0] 122):=⟨_,rfl⟩
 have hb0:Below w.heap.size w W0:=by rw [hW0];exact (Below.refl _ _).alloc (Nat.le_refl _) _
 have hs0:W0.heap.size=w.heap.size+1:=by rw [hW0];simp
 have hg0:W0.heap[w.heap.size]?=some (.cells #[.string ⟨#[]⟩,.int .i64 0,.int .i64 0] 122 (0,0)):=by rw [hW0];exact heap_alloc_new w _
 have HV:Hid (Sl W0 v ms):=h.below hb0
 have HF:Hid (Calls Tryz.prog 220 #[v,.agg #[.string name,.int .i64 0,.int .i64 0],.func (.func 150) #[] #[]] W0 fun e w'=>∃ (p:Nat) (f:Bool),e=.returned (.tuple #[.int .i64 p,.bool f])∧Below W0.heap.size W0 w'∧At ms ⟨name,0,0⟩ p f):=
  find_any ms v ⟨name,0,0⟩ W0 HV.out (by omega) hr
 have HW0:Hid (W0=w.alloc (.cells #[.string ⟨#[]⟩,.int .i64 0,.int .i64 0] 122)):=hW0
 clear hW0 h hr
 go_enter Tryz.func181,Tryz.ntmps181
 go_wp2_with fail
 rw [← HW0.out]
 refine HF.out.mono ?_
 rintro e w1 ⟨p,f,rfl,hb1,hat⟩
 have HAT:Hid (At ms ⟨name,0,0⟩ p f):=hat
 have HV1:Hid (Sl w1 v ms):=HV.out.below hb1
 have hs1:=hb1.size
 have HB1:Hid (Below w.heap.size w w1):=hb0.trans (hb1.mono (by omega))
 have hg1:w1.heap[w.heap.size]?=some (.cells #[.string ⟨#[]⟩,.int .i64 0,.int .i64 0] 122 (0,0)):=(hb1.block w.heap.size (by omega)).trans hg0
 have t0:w1.cell? ⟨w.heap.size,0,none⟩=some (.string ⟨#[]⟩):=cellsAt hg1 0
 have t1:w1.cell? ⟨w.heap.size,1,none⟩=some (.int .i64 0):=cellsAt hg1 1
 have t2:w1.cell? ⟨w.heap.size,2,none⟩=some (.int .i64 0):=cellsAt hg1 2
 have hfz:∀ o,w1.frozen? ⟨w.heap.size,o,none⟩=false:=fun o=>by simp [World.frozen?,hg1]
 have hlt:w.heap.size < w1.heap.size:=by omega
 clear hat HF HV hg0 hg1 hb0 hb1 HW0 hs0 hs1
 cases f
 ·go_wp2_with fail
  exact bodyPost_ret (v:=.tuple #[.agg #[.string ⟨#[]⟩,.int .i64 0,.int .i64 0],.bool false]) (by simp [results,Tryz.results181,go_sem,t0,t1,t2]) rfl ⟨p,false,rfl,(((HB1.out.setCell (p:=⟨w.heap.size,0,none⟩) (Nat.le_refl _) _).setCell (p:=⟨w.heap.size,1,none⟩) (Nat.le_refl _) _).setCell (p:=⟨w.heap.size,2,none⟩) (Nat.le_refl _) _),HAT.out⟩
 ·have hp:p < ms.length:=(HAT.out.is.1 rfl).1
  obtain ⟨a,cap,rfl,_,hsl⟩:=HV1.out
  obtain ⟨b,off,hab,hgb,hrow⟩:∃ b off,a=some ⟨b,off,none⟩∧b < w1.heap.size∧Row w1 b off ms:=by
   rcases hsl with h | h
   ·rw [h] at hp;simp at hp
   ·exact h
  subst hab
  obtain ⟨c0,c1,c2⟩:=hrow p hp
  clear hrow hsl HV1
  generalize hm:ms.getD p dm=m at *
  have HM:Hid (fnd ms p true=m):=by show fnd ms p true=m;rw [fnd,if_pos rfl,hm]
  clear hm
  go_wp2_with fail
  exact bodyPost_ret (v:=.tuple #[.agg #[.string m.centre,.int .i64 m.addr,.int .i64 m.version],.bool true]) (by simp [results,Tryz.results181,go_sem,t0,t1,t2]) rfl ⟨p,true,by rw [HM.out],(((HB1.out.setCell (p:=⟨w.heap.size,0,none⟩) (Nat.le_refl _) _).setCell (p:=⟨w.heap.size,1,none⟩) (Nat.le_refl _) _).setCell (p:=⟨w.heap.size,2,none⟩) (Nat.le_refl _) _),HAT.out⟩
end Gw
namespace Gw
open Go.RowKit
theorem e_zero {m:Gwy} (h:m.e=0):labB m.centre=true∧0≤m.addr∧m.addr≤4294967295∧1≤m.version∧m.version≤1000000:=by
 unfold Gwy.e at h
 split at h
 ·rename_i h1
  split at h
  ·rename_i h2
   split at h
   ·rename_i h3
    simp [within] at h2 h3
    exact ⟨h1,h2.1,h2.2,h3.1,h3.2⟩
   ·omega
  ·omega
 ·omega
theorem e_at {ms:List Gwy} (h:firstE ms=0) (p:Nat) (hp:p < ms.length):(ms.getD p dm).e=0:=by
 have:=firstE_mem ms h ms[p] (List.getElem_mem hp)
 simpa [List.getD,List.getElem?_eq_getElem hp] using this
theorem fnd_ver {ms:List Gwy} {t:Gwy} (h:firstE ms=0) {p:Nat} {f:Bool} (hat:At ms t p f):0≤(fnd ms p f).version∧(fnd ms p f).version≤1000000:=by
 cases f
 ·exact ⟨by show (0:Int)≤0;omega,by show (0:Int)≤1000000;omega⟩
 ·have:=(e_zero (e_at h p (hat.is.1 rfl).1)).2.2.2
  rw [fnd,if_pos rfl]
  omega
def opn (ms:List Gwy) (p:Nat) (f:Bool) (name:ByteArray) (addr:Int):Gwy:=⟨name,addr,(fnd ms p f).version+1⟩
set_option maxHeartbeats 1600000 in
theorem open_good (ms:List Gwy) (v:Value) (name:ByteArray) (addr:Int) (w:World) (hv:Sl w v ms) (h0:chk ms=0) (hs:name.size≤maxLen) (p:Nat) (f:Bool) (hat:At ms ⟨name,0,0⟩ p f) :
 Calls Tryz.prog 137 #[v,.string name,.int .i64 addr] w fun e w'=>∃ v',e=.returned (.tuple #[v',.int .i64 (joinE ms [opn ms p f name addr])])∧Below w.heap.size w w' ∧
  (joinE ms [opn ms p f name addr]≠0→v'=.slice none 0 0)∧(joinE ms [opn ms p f name addr]=0→Own w.heap.size w' v' (joinL ms [opn ms p f name addr])):=by
 have he:(chk ms != 0)=false:=by simpa using h0
 have hz:=chk_zero h0
 have HV:Hid (Sl w v ms):=hv
 have HR:Hid (Rise ms):=hz.2.1
 have hlen:=hz.1
 have HF:Hid (firstE ms=0):=hz.2.2
 have HAT:Hid (At ms ⟨name,0,0⟩ p f):=hat
 obtain ⟨pa,ca,rfl,_,_⟩:=hv
 have HG:Hid (opn ms p f name addr=⟨name,addr,(fnd ms p f).version+1⟩):=rfl
 generalize opn ms p f name addr=g at *
 clear h0 hz hat
 go_enter Tryz.func137,Tryz.ntmps137
 go_wp2_with (go_at_call 101;refine (check_any ms _ _ HV.out).mono ?_;rintro e w1 ⟨rfl,hb1⟩)
 refine (find2_any ms _ name _ (HV.out.below hb1) hlen HR.out).mono ?_
 rintro e w2 ⟨p',f',rfl,hb2,hat'⟩
 obtain ⟨rfl,rfl⟩:=at_uniq HAT.out hat'
 have hver:=fnd_ver HF.out hat'
 have HB2:Hid (Below w.heap.size w w2):=hb1.trans (hb2.mono hb1.size)
 have hs2:=HB2.out.size
 have HV2:Hid (Sl w2 (.slice pa ms.length ca) ms):=(HV.out.below hb1).below hb2
 clear hat' hb1 hb2 HV
 generalize fnd ms p f=kn at *
 obtain ⟨kc,ka,kv⟩:=kn
 simp only at hver
 obtain ⟨hv0,hv1⟩:=hver
 go_wp2_with fail
 refine (join_any ms [g] (.slice pa ms.length ca) (.slice (some ⟨w2.heap.size+1+1,0,none⟩) 1 1) _ _ _ ?ha ?hb ?hpb ?hc0 ?hc1).mono ?_
 case ha=>exact HV2.out.below ((((((Below.refl _ _).alloc (Nat.le_refl _) _).alloc (by simp) _).alloc (by simp;omega) _).alloc (by simp;omega) _))
 case hb=>
  rw [HG.out]
  refine sl_one _ _ _ ⟨name,addr,kv+1⟩ hs ?_
  refine (Below.heap_alloc _ _ _ (by simp)).trans ?_
  have h:=heap_alloc_new ((w2.alloc (.cells #[.string kc,.int .i64 ka,.int .i64 kv] 122)).alloc (.cells #[.string name,.int .i64 addr,.int .i64 (kv+1)] 122)) (.cells #[.string name,.int .i64 addr,.int .i64 (kv+1)] 122)
  simpa using h
 case hpb=>simp
 case hc0=>exact (cell_topL (by simp)).trans rfl
 case hc1=>exact (cell_topL (by simp)).trans rfl
 rintro e w3 ⟨v',rfl,hb3,hbad,hgood⟩
 have HBAD:Hid (joinE ms [g]≠0→v'=.slice none 0 0):=hbad
 have HB3:Hid (Below w.heap.size w w3):=((((HB2.out.alloc hs2 _).alloc (by simp;omega) _).alloc (by simp;omega) _).alloc (by simp;omega) _).trans (hb3.mono (by simp;omega))
 have HGOOD:Hid (joinE ms [g]=0→Own w.heap.size w3 v' (joinL ms [g])):=fun h=>(hgood h).mono (by simp;omega)
 clear hbad hgood hb3
 go_wp2_with fail
 go_ret2
 exact ⟨v',rfl,HB3.out,HBAD.out,HGOOD.out⟩
theorem labels2_any (a b:ByteArray) (ha:a.size≤maxLen) (hb:b.size≤maxLen) (W:World) :
 Calls Tryz.prog 41 #[.slice (some ⟨W.heap.size,0,none⟩) 2 2] (W.alloc (.cells #[.string a,.string b] 9)) fun e w'=>e=.returned (.bool (labB a && labB b))∧w'=W.alloc (.cells #[.string a,.string b] 9):=by
 have hg:=heap_alloc_new W (.cells #[.string a,.string b] 9)
 refine (labels_any [a,b] W.heap.size 2 _ (fun j hj=>?_) (fun j=>?_) (by simp)).mono ?_
 ·rw [cellsAt hg]
  have:j=0∨j=1:=by simp at hj;omega
  rcases this with rfl | rfl<;>rfl
 ·match j with
  | 0=>exact ha
  | 1=>exact hb
  | _+2=>simp [List.getD]
 ·rintro e w' ⟨rfl,rfl⟩
  exact ⟨ret_bool (by simp),rfl⟩
end Gw
namespace Gw
open Go.RowKit
set_option maxHeartbeats 1600000 in
theorem refCheck_row (ms:List Gwy) (b off cap:Nat) (w:World) (hr:Row w b off ms) (hb:b < w.heap.size) (hn:ms.length≤6) (hs:∀ j,(ms.getD j dm).ok) :
 Calls Tryz.prog 49 #[.slice (some ⟨b,off,none⟩) ms.length cap] w fun e w'=>e=.returned (.int .i64 (chk ms))∧Below w.heap.size w w':=by
 have HR:Hid (Row w b off ms):=hr
 clear hr
 have HE:Hid (∀ k,k < ms.length→(∀ j,j < k→(ms.getD j dm).e=0)→(ms.getD k dm).e≠0→chk ms=(ms.getD k dm).e):=fun k h1 h2 h3=>chk_e ms k hn h1 h2 h3
 have H4:Hid ((∀ j,j < ms.length→(ms.getD j dm).e=0)→∀ k,k+1 < ms.length→less (ms.getD k dm).centre (ms.getD (k+1) dm).centre=false→chk ms=4):=fun h1 k h2 h3=>chk_4 ms k hn h1 h2 (fun h=>by rw [show ord (ms.getD k dm) (ms.getD (k+1) dm)=cmpI (ms.getD k dm).centre (ms.getD (k+1) dm).centre from rfl,cmpI_lt,h3] at h;cases h)
 have H0:Hid ((∀ j,j < ms.length→(ms.getD j dm).e=0)→(∀ j,j+1 < ms.length→less (ms.getD j dm).centre (ms.getD (j+1) dm).centre=true)→chk ms=0):=fun h1 h2=>chk_0 ms hn h1 (fun j hj=>(cmpI_lt _ _).2 (h2 j hj))
 generalize hN:ms.length=n at *
 have HN:Hid (ms.length=n):=hN
 clear hN
 have HS:Hid (∀ j,(ms.getD j dm).ok):=hs
 clear hs
 generalize hC:chk ms=res at *
 have HC:Hid (chk ms=res):=hC
 clear hC
 go_enter Tryz.func49,Tryz.ntmps49
 go_wp2_with fail
 go_loopw [3] (fun i w'=>∃ k:Nat,k≤n∧i=.int .i64 k∧Below w.heap.size w w'∧Hid (∀ j,j < k→(ms.getD j dm).e=0)) (fun i _=>n - (intOf i).toNat)
 case atStart=>exact ⟨0,Nat.zero_le _,rfl,Below.refl _ _,fun j h=>absurd h (Nat.not_lt_zero _)⟩
 case round=>
  obtain ⟨k,hk,rfl,hbl,hz⟩:=hrel
  obtain ⟨hbc,hbf⟩:=bcell hbl
  have hsz:=hbl.size
  by_cases hlt:k < n
  ·obtain ⟨c0,c1,c2⟩:=HR.out k (by rw [HN.out];exact hlt)
   have hsk:(ms.getD k dm).centre.size≤maxLen:=HS.out k
   have HK:Hid ((ms.getD k dm).e≠0→res=(ms.getD k dm).e):=fun h=>HE.out k hlt hz.out h
   have HZ:Hid ((ms.getD k dm).e=0→∀ j,j < k+1→(ms.getD j dm).e=0):=fun h j hj=>by
    rcases Nat.lt_succ_iff_lt_or_eq.1 hj with h2 | rfl
    ·exact hz.out j h2
    ·exact h
   generalize ms.getD k dm=m at *
   have HD:Hid (m.e=if labB m.centre=true then (if within m.addr 0 4294967295=true then (if within m.version 1 1000000=true then 0 else 3) else 3) else 1):=rfl
   generalize m.e=me at *
   rcases h1:labB m.centre with _ | _
   ·have HRes:Hid (res=1):=(HK.out (by rw [HD.out];simp [h1])).trans (by rw [HD.out];simp [h1])
    go_wp2_with (go_at_call 13;refine (isLabel_any _ _ hsk).mono ?_;rintro e w' ⟨rfl,rfl⟩;rw [h1])
    go_ret
    exact ⟨ret_int HRes.out.symm,hbl⟩
   ·rcases h2:within m.addr 0 4294967295 with _ | _
    ·have HRes:Hid (res=3):=(HK.out (by rw [HD.out];simp [h1,h2])).trans (by rw [HD.out];simp [h1,h2])
     go_wp2_with (first | (go_at_call 13;refine (isLabel_any _ _ hsk).mono ?_;rintro e w' ⟨rfl,rfl⟩;rw [h1]) | (go_at_call 14;refine (isAddress_any _ _).mono ?_;rintro e w' ⟨rfl,rfl⟩;rw [h2]))
     go_ret
     exact ⟨ret_int HRes.out.symm,hbl⟩
    ·rcases h3:within m.version 1 1000000 with _ | _
     ·have HRes:Hid (res=3):=(HK.out (by rw [HD.out];simp [h1,h2,h3])).trans (by rw [HD.out];simp [h1,h2,h3])
      go_wp2_with (first | (go_at_call 13;refine (isLabel_any _ _ hsk).mono ?_;rintro e w' ⟨rfl,rfl⟩;rw [h1]) | (go_at_call 14;refine (isAddress_any _ _).mono ?_;rintro e w' ⟨rfl,rfl⟩;rw [h2]) | (go_at_call 43;refine (between_any _ _ _ _).mono ?_;rintro e w' ⟨rfl,rfl⟩;rw [h3]))
      go_ret
      exact ⟨ret_int HRes.out.symm,hbl⟩
     ·have HM0:Hid (me=0):=(show me=0 by rw [HD.out];simp [h1,h2,h3])
      go_wp2_with (first | (go_at_call 13;refine (isLabel_any _ _ hsk).mono ?_;rintro e w' ⟨rfl,rfl⟩;rw [h1]) | (go_at_call 14;refine (isAddress_any _ _).mono ?_;rintro e w' ⟨rfl,rfl⟩;rw [h2]) | (go_at_call 43;refine (between_any _ _ _ _).mono ?_;rintro e w' ⟨rfl,rfl⟩;rw [h3]))
      go_roundw
      case rel=>exact ⟨k+1,by omega,by go_num,hbl,HZ.out HM0.out⟩
      case measure=>simp [intOf];omega
  ·have hall:Hid (∀ j,j < n→(ms.getD j dm).e=0):=fun j hj=>hz.out j (by omega)
   clear hz
   go_wp2_with fail
   go_loopw [4] (fun i w'=>∃ k:Nat,(k+1≤n∨k=0)∧i=.int .i64 (k+1)∧Below w.heap.size w w'∧Hid (∀ j,j < k→less (ms.getD j dm).centre (ms.getD (j+1) dm).centre=true)) (fun i _=>n - (intOf i).toNat)
   case atStart=>exact ⟨0,.inr rfl,rfl,hbl,fun j h=>absurd h (Nat.not_lt_zero _)⟩
   case round=>
    clear hbc hbf hsz hbl
    obtain ⟨q,hq,rfl,hbl,hz⟩:=hrel
    obtain ⟨hbc,hbf⟩:=bcell hbl
    have hsz:=hbl.size
    by_cases hlt:q+1 < n
    ·obtain ⟨c0,_,_⟩:=HR.out q (by rw [HN.out];omega)
     obtain ⟨d0,_,_⟩:=HR.out (q+1) (by rw [HN.out];exact hlt)
     have HK:Hid (less (ms.getD q dm).centre (ms.getD (q+1) dm).centre=false→res=4):=fun h=>H4.out hall.out q hlt h
     have HZ:Hid (less (ms.getD q dm).centre (ms.getD (q+1) dm).centre=true→∀ j,j < q+1→less (ms.getD j dm).centre (ms.getD (j+1) dm).centre=true):=fun h j hj=>by
      rcases Nat.lt_succ_iff_lt_or_eq.1 hj with h2 | rfl
      ·exact hz.out j h2
      ·exact h
     generalize ms.getD q dm=m1 at *
     generalize ms.getD (q+1) dm=m2 at *
     rcases hl:Op.bytesLess m1.centre.toList m2.centre.toList with _ | _
     ·have h4:Hid (res=4):=HK.out hl
      have hl2:=bl_total m1.centre.toList m2.centre.toList
      rw [hl] at hl2
      have hl3:=hl2.symm
      clear hl2 hl
      go_wp2_with fail
      go_quiet (fail)
      go_wp2_with fail
      go_ret
      exact ⟨ret_int h4.out.symm,below_drewN hbl _⟩
     ·have hl2:=bl_total m1.centre.toList m2.centre.toList
      rw [hl] at hl2
      have hl3:=hl2.symm
      clear hl2
      have HL:Hid (Op.bytesLess m1.centre.toList m2.centre.toList=true):=hl
      clear hl
      go_wp2_with fail
      go_quiet (fail)
      go_wp2_with fail
      go_roundw
      case rel=>exact ⟨q+1,.inl (by omega),by go_num,below_drewN hbl _,HZ.out HL.out⟩
      case measure=>simp [intOf];omega
    ·have h0:Hid (res=0):=H0.out hall.out fun j hj=>hz.out j (by omega)
     go_wp2_with fail
     go_ret
     exact ⟨ret_int h0.out.symm,hbl⟩
set_option maxHeartbeats 400000 in
theorem refCheck_many (a:Option Addr) (n cap:Nat) (w:World) (hn:6 < n) :
 Calls Tryz.prog 49 #[.slice a n cap] w fun e w'=>e=.returned (.int .i64 2)∧w'=w:=by
 go_enter Tryz.func49,Tryz.ntmps49
 go_wp2_with fail
 go_ret
 exact ⟨rfl,rfl⟩
set_option maxHeartbeats 400000 in
theorem refCheck_none (a:Option Addr) (cap:Nat) (w:World) :
 Calls Tryz.prog 49 #[.slice a 0 cap] w fun e w'=>e=.returned (.int .i64 0)∧w'=w:=by
 go_enter Tryz.func49,Tryz.ntmps49
 go_wp2_with fail
 go_loop [3] (fun i=>i=.int .i64 0) (fun _=>0)
 case atStart=>rfl
 case round=>
  subst hrel
  go_wp2_with fail
  go_loop [4] (fun i=>i=.int .i64 1) (fun _=>0)
  case atStart=>rfl
  case round=>
   subst hrel
   go_wp2_with fail
   go_ret
   exact ⟨rfl,rfl⟩
theorem refCheck_any (ms:List Gwy) (v:Value) (w:World) (h:Sl w v ms) :
 Calls Tryz.prog 49 #[v] w fun e w'=>e=.returned (.int .i64 (chk ms))∧Below w.heap.size w w':=by
 obtain ⟨a,cap,rfl,hs,h⟩:=h
 by_cases hn:6 < ms.length
 ·refine (refCheck_many a ms.length cap w hn).mono ?_
  rintro e w' ⟨rfl,rfl⟩
  exact ⟨ret_int (by rw [chk,if_pos hn]),Below.refl _ _⟩
 ·rcases h with rfl | ⟨b,off,rfl,hb,hr⟩
  ·refine (refCheck_none a cap w).mono ?_
   rintro e w' ⟨rfl,rfl⟩
   exact ⟨rfl,Below.refl _ _⟩
  ·exact refCheck_row ms b off cap w hr hb (by omega) hs
def AtI (ms:List Gwy) (t:ByteArray) (r:Int):Prop:=
 (∃ k:Nat,k < ms.length∧r=k∧(ms.getD k dm).centre=t)∨(r = -1∧∀ j,j < ms.length→(ms.getD j dm).centre≠t)
set_option maxHeartbeats 800000 in
theorem refAt_any (ms:List Gwy) (v:Value) (t:ByteArray) (w:World) (hv:Sl w v ms) (hn:ms.length≤9223372036854775807) :
 Calls Tryz.prog 94 #[v,.string t] w fun e w'=>∃ r:Int,e=.returned (.int .i64 r)∧Hid (AtI ms t r)∧w'=w:=by
 obtain ⟨pa,ca,rfl,_,ha⟩:=hv
 have HA:Hid (ms=[]∨∃ b off,pa=some ⟨b,off,none⟩∧b < w.heap.size∧Row w b off ms):=ha
 clear ha
 generalize hna:ms.length=n at *
 have HN:Hid (ms.length=n):=hna
 clear hna
 go_enter Tryz.func94,Tryz.ntmps94
 go_wp2_with fail
 go_loop [5] (fun i=>∃ k:Nat,k≤n∧i=.int .i64 k∧Hid (∀ j,j < k→(ms.getD j dm).centre≠t)) (fun i=>n - (intOf i).toNat)
 case atStart=>exact ⟨0,Nat.zero_le _,rfl,fun j h=>absurd h (Nat.not_lt_zero _)⟩
 case round=>
  obtain ⟨k,hk,rfl,hz⟩:=hrel
  by_cases hlt:k < n
  ·obtain ⟨b1,o1,hp1,hl1,hr1⟩:∃ b off,pa=some ⟨b,off,none⟩∧b < w.heap.size∧Row w b off ms:=by
    rcases HA.out with h | h
    ·have:=HN.out;rw [h] at this;simp at this;omega
    ·exact h
   subst hp1
   obtain ⟨c0,_,_⟩:=hr1 k (by rw [HN.out];exact hlt)
   clear hr1
   have HF:Hid ((ms.getD k dm).centre=t→AtI ms t (k:Int)):=fun h=>.inl ⟨k,by rw [HN.out];exact hlt,rfl,h⟩
   have HZ:Hid ((ms.getD k dm).centre≠t→∀ j,j < k+1→(ms.getD j dm).centre≠t):=fun h j hj=>by
    rcases Nat.lt_succ_iff_lt_or_eq.1 hj with h2 | rfl
    ·exact hz.out j h2
    ·exact h
   generalize (ms.getD k dm).centre=nm at *
   by_cases he:nm=t
   ·subst he
    have HF2:Hid (AtI ms nm (k:Int)):=HF.out rfl
    clear HF HZ
    go_wp2_with fail
    go_ret
    exact ⟨k,rfl,HF2,rfl⟩
   ·obtain ⟨h1,h2⟩:=beq_name he
    have HE:Hid (nm≠t):=he
    clear he
    go_wp2_with fail
    go_round
    case rel=>exact ⟨k+1,by omega,by go_num,HZ.out HE.out⟩
    case measure=>simp [intOf];omega
  ·go_wp2_with fail
   go_ret
   exact ⟨-1,rfl,.inr ⟨rfl,fun j hj=>hz.out j (by have:=HN.out;omega)⟩,rfl⟩
theorem atI_at {ms:List Gwy} {t:Gwy} {r:Int} {p:Nat} {f:Bool} (hi:AtI ms t.centre r) (ha:At ms t p f) (hr:Rise ms):(f=true→r=p)∧(f=false→r = -1):=by
 rcases hi with ⟨k,hk,rfl,hn⟩ | ⟨rfl,hn⟩
 ·obtain ⟨rfl,rfl⟩:=at_uniq ha (RL.at_of ord dm keyed hr hk ((cmpI_eq _ _).2 hn))
  exact ⟨fun _=>rfl,fun h=>by cases h⟩
 ·refine ⟨fun h=>?_,fun _=>rfl⟩
  have:=ha.is.1 h
  exact absurd ((cmpI_eq _ _).1 this.2) (hn p this.1)
end Gw
end Go.Proofs.YtikgjgmgbfjcgaaGreat
