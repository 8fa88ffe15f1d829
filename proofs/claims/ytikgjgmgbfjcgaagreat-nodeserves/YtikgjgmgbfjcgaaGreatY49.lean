import Derived.Test.YtikgjgmgbfjcgaaGreatY46
import Derived.Test.YtikgjgmgbfjcgaaGreatY23
namespace Go.Proofs.YtikgjgmgbfjcgaaGreat
namespace Sv
open Go.RowKit
theorem labels2_any (a b:ByteArray) (ha:a.size≤maxLen) (hb:b.size≤maxLen) (W:World) :
 Calls Tryz.prog 41 #[.slice (some ⟨W.heap.size,0,none⟩) 2 2] (W.alloc (.cells #[.string a,.string b] 9)) fun e w'=>e=.returned (.bool (labB a && labB b))∧w'=W.alloc (.cells #[.string a,.string b] 9):=by
 have hg:=heap_alloc_new W (.cells #[.string a,.string b] 9)
 refine (labels_any [a,b] W.heap.size 2 _ (fun j hj=>?_) (fun j=>?_) (by simp)).mono ?_
 ·rw [cellsAt hg]
  have:j=0∨j=1:=by simp at hj;omega
  rcases this with rfl | rfl<;>rfl
 ·match j with
  | 0=>exact ha
  | 1=>exact hb
  | _+2=>simp [List.getD]
 ·rintro e w' ⟨rfl,rfl⟩
  exact ⟨ret_bool (by simp),rfl⟩
def goneS (x:Svc):Svc:={ x with gone:=true }
def dropE (ms:List Svc) (p:Nat) (f:Bool) (node idn:ByteArray):Int:=
 if (labB node && labB idn)=true then (if (f && !(fnd ms p f).gone)=true then setE ms p f (goneS (fnd ms p f)) else 5) else 1
def drp (ms:List Svc) (p:Nat) (f:Bool):Svc:=setS ms p f (goneS (fnd ms p f))
theorem drp_join {ms:List Svc} (h0:chk ms=0) {p:Nat} {t:Svc} (hat:At ms t p true) :
 joinE ms [drp ms p true]=setE ms p true (goneS (fnd ms p true))∧joinL ms [drp ms p true]=RL.put ms (drp ms p true) p true:=by
 have hz:=chk_zero h0
 have hp:=(hat.is.1 rfl).1
 have hf:fnd ms p true=ms.getD p dm:=if_pos rfl
 have h1:At ms (drp ms p true) p true:=RL.at_of ord dm keyed hz.2.1 hp (ord_zero.2 (by rw [← hf];exact ⟨rfl,rfl⟩))
 have h2:joinL ms [drp ms p true]=RL.put ms (drp ms p true) p true:=(put_hear h1 (fun hf=>up_new hf rfl)).symm
 refine ⟨?_,h2⟩
 have hv:=fnd_ver hz.2.2 hat
 have he:(drp ms p true).e=if (asOne (fnd ms p true)).e=0 then (if (fnd ms p true).version+1≤1000000 then 0 else 3) else (asOne (fnd ms p true)).e:=reg_e ms p true (fnd ms p true) hv.1
 have hx:(fnd ms p true).e=0:=by rw [hf];exact e_at hz.2.2 p hp
 have hone:(asOne (fnd ms p true)).e=0:=by
  rw [e_if] at hx ⊢
  revert hx
  show _→(if labB (fnd ms p true).node=true then (if labB (fnd ms p true).idn=true then (if labB (fnd ms p true).name=true then (if tagB (fnd ms p true).tag=true then (if within (fnd ms p true).addr 0 4294967295=true then (if within (fnd ms p true).port 0 65535=true then (if within (1:Int) 1 1000000=true then (0:Int) else 3) else 3) else 3) else 1) else 1) else 1) else 1)=0
  rw [show within (1:Int) 1 1000000=true by decide]
  cases labB (fnd ms p true).node<;>cases labB (fnd ms p true).idn<;>cases labB (fnd ms p true).name<;>cases tagB (fnd ms p true).tag<;>cases within (fnd ms p true).addr 0 4294967295<;>cases within (fnd ms p true).port 0 65535<;>simp
 rw [if_pos hone] at he
 unfold setE
 by_cases h4:(fnd ms p true).version+1≤1000000
 ·rw [if_pos h4] at he ⊢
  rw [joinE_good h0 (by rw [chk_one];exact he),h2]
  rfl
 ·rw [if_neg h4] at he ⊢
  rw [joinE_bad2 h0 (by rw [chk_one,he];decide),chk_one,he]
set_option maxHeartbeats 6400000 in
set_option maxRecDepth 100000 in
theorem drop_good (ms:List Svc) (v:Value) (node idn:ByteArray) (w:World) (hv:Sl w v ms) (h0:chk ms=0) (hs:node.size≤maxLen) (ht:idn.size≤maxLen) (p:Nat) (f:Bool) (hat:At ms ⟨node,idn,⟨#[]⟩,⟨#[]⟩,0,0,false,0,false⟩ p f) :
 Calls Tryz.prog 136 #[v,.string node,.string idn] w fun e w'=>∃ v',e=.returned (.tuple #[v',.int .i64 (dropE ms p f node idn)])∧Below w.heap.size w w'∧Hid ((dropE ms p f node idn≠0→v'=.slice none 0 0)∧(dropE ms p f node idn=0→Own w.heap.size w' v' (RL.put ms (drp ms p f) p f))):=by
 have he:(chk ms != 0)=false:=by simpa using h0
 have hz:=chk_zero h0
 have HV:Hid (Sl w v ms):=hv
 have HR:Hid (Rise ms):=hz.2.1
 have hlen:=hz.1
 have hver:=fnd_ver hz.2.2 hat
 have HAT:Hid (At ms ⟨node,idn,⟨#[]⟩,⟨#[]⟩,0,0,false,0,false⟩ p f):=hat
 have HRP:Hid (f=true→∀ W,Sl W v ms→Calls Tryz.prog 180 #[v,.agg #[.string (drp ms p f).node,.string (drp ms p f).idn,.string (drp ms p f).name,.string (drp ms p f).tag,.int .i64 (drp ms p f).addr,.int .i64 (drp ms p f).port,.bool (drp ms p f).passing,.int .i64 (drp ms p f).version,.bool (drp ms p f).gone]] W fun e w'=>∃ v',e=.returned (.tuple #[v',.int .i64 (setE ms p f (goneS (fnd ms p f)))])∧Below W.heap.size W w' ∧
  (setE ms p f (goneS (fnd ms p f))≠0→v'=.slice none 0 0)∧(setE ms p f (goneS (fnd ms p f))=0→Own W.heap.size w' v' (RL.put ms (drp ms p f) p f))):=fun hf W hW=>by
  subst hf
  have hp:=(hat.is.1 rfl).1
  have hok:(drp ms p true).ok:=by
   have h:(fnd ms p true).ok:=by rw [fnd,if_pos rfl];exact ns_get (sl_ok hv) p
   exact h
  have h:=replace_any ms v (drp ms p true) W hW hok
  rw [(drp_join h0 hat).1,(drp_join h0 hat).2] at h
  exact h
 have HD:Hid (dropE ms p f node idn=if (labB node && labB idn)=true then (if (f && !(fnd ms p f).gone)=true then setE ms p f (goneS (fnd ms p f)) else 5) else 1):=rfl
 have HG:Hid (drp ms p f={ fnd ms p f with version:=(fnd ms p f).version+1,gone:=true }):=rfl
 generalize dropE ms p f node idn=de at *
 generalize setE ms p f (goneS (fnd ms p f))=se at *
 generalize RL.put ms (drp ms p f) p f=pl at *
 clear hv h0 hz hat
 rcases hl:(labB node && labB idn) with _ | _
 ·have HN:Hid (de=1):=(show de=1 by rw [HD.out,hl];rfl)
  go_enter Tryz.func136,Tryz.ntmps136
  go_wp2_with (first | (go_at_call 100;refine (check_any ms _ _ HV.out).mono ?_;rintro e w1 ⟨rfl,hb1⟩) | (go_at_call 41;refine (labels2_any _ _ hs ht _).mono ?_;rintro e w' ⟨rfl,rfl⟩;rw [hl]))
  go_ret2
  exact ⟨_,by rw [HN.out];rfl,hb1.alloc hb1.size _,⟨fun _=>rfl,fun h=>by rw [HN.out] at h;cases h⟩⟩
 ·have HN:Hid (de=if (f && !(fnd ms p f).gone)=true then se else 5):=(show de=_ by rw [HD.out,hl,if_pos rfl])
  clear HD
  go_enter Tryz.func136,Tryz.ntmps136
  go_wp2_with (first | (go_at_call 100;refine (check_any ms _ _ HV.out).mono ?_;rintro e w1 ⟨rfl,hb1⟩) | (go_at_call 41;refine (labels2_any _ _ hs ht _).mono ?_;rintro e w' ⟨rfl,rfl⟩;rw [hl]))
  have hbx:=hb1.alloc hb1.size (.cells #[.string node,.string idn] 9)
  refine (find2_any ms _ node idn _ (HV.out.below hbx) hlen HR.out).mono ?_
  rintro e w2 ⟨p',f',rfl,hb2,hat'⟩
  obtain ⟨rfl,rfl⟩:=at_uniq HAT.out hat'
  have HB2:Hid (Below w.heap.size w w2):=hbx.trans (hb2.mono (by simp;have:=hb1.size;omega))
  clear hat' hb1 hb2 hbx
  have hs2:=HB2.out.size
  generalize hdr:drp ms p f=dr at *
  generalize fnd ms p f=kn at *
  obtain ⟨k_node,k_idn,k_name,k_tag,k_addr,k_port,k_passing,k_version,k_gone⟩:=kn
  simp only at hver
  obtain ⟨hv0,hv1⟩:=hver
  cases f
  ·have HN5:Hid (de=5):=(show de=5 by rw [HN.out];rfl)
   go_wp2_with fail
   go_ret2
   exact ⟨_,by rw [HN5.out];rfl,HB2.out.alloc hs2 _,⟨fun _=>rfl,fun h=>by rw [HN5.out] at h;cases h⟩⟩
  ·cases k_gone
   ·have HNS:Hid (de=se):=(show de=se by rw [HN.out];rfl)
    have HRQ:=HRP.out rfl
    rw [HG.out] at HRQ
    have HRQ':Hid (∀ W,Sl W v ms→Calls Tryz.prog 180 #[v,.agg #[.string k_node,.string k_idn,.string k_name,.string k_tag,.int .i64 k_addr,.int .i64 k_port,.bool k_passing,.int .i64 (k_version+1),.bool true]] W fun e w'=>∃ v',e=.returned (.tuple #[v',.int .i64 se])∧Below W.heap.size W w'∧(se≠0→v'=.slice none 0 0)∧(se=0→Own W.heap.size w' v' pl)):=HRQ
    clear HRQ HRP HG
    have HBY:Hid (Below w.heap.size w (w2.alloc (.cells #[.string k_node,.string k_idn,.string k_name,.string k_tag,.int .i64 k_addr,.int .i64 k_port,.bool k_passing,.int .i64 (k_version+1),.bool true] 62))):=HB2.out.alloc hs2 _
    go_wp2_with fail
    refine (HRQ'.out _ (HV.out.below HBY.out)).mono ?_
    rintro e w3 ⟨v3,rfl,hb3,hbad,hgood⟩
    have HBAD:Hid (se≠0→v3=.slice none 0 0):=hbad
    have HB3:Hid (Below w.heap.size w w3):=HBY.out.trans (hb3.mono (by simp;omega))
    have HGOOD:Hid (se=0→Own w.heap.size w3 v3 pl):=fun h=>(hgood h).mono (by simp;omega)
    clear hbad hgood hb3
    go_wp2_with fail
    go_ret2
    exact ⟨v3,by rw [HNS.out];rfl,HB3.out,⟨fun h=>HBAD.out (by rw [← HNS.out];exact h),fun h=>HGOOD.out (by rw [← HNS.out];exact h)⟩⟩
   ·have HN5:Hid (de=5):=(show de=5 by rw [HN.out];rfl)
    go_wp2_with fail
    go_ret2
    exact ⟨_,by rw [HN5.out];rfl,HB2.out.alloc hs2 _,⟨fun _=>rfl,fun h=>by rw [HN5.out] at h;cases h⟩⟩
end Sv
namespace Sv
open Go.RowKit
end Sv
namespace Gw
open Go.RowKit
set_option maxHeartbeats 6400000 in
set_option maxRecDepth 100000 in
theorem refPut_any (ms:List Gwy) (v:Value) (m:Gwy) (w:World) (hv:Sl w v ms) (hn:ms.length≤1000) (hr:Rise ms) (p:Nat) (f:Bool) (hat:At ms m p f) :
 Calls Tryz.prog 129 #[v,.agg #[.string m.centre,.int .i64 m.addr,.int .i64 m.version]] w fun e w'=>∃ v',e=.returned v'∧Own (w.heap.size+1) w' v' (RL.put ms m p f)∧Below w.heap.size w w':=by
 obtain ⟨i0,hi0,hz0,hzs,hzb⟩:=info_parts Tryz.info122
 have hb0:Below w.heap.size w (w.alloc (.cells #[.string m.centre,.int .i64 m.addr,.int .i64 m.version] 122)):=(Below.refl _ _).alloc (Nat.le_refl _) _
 have HR:Hid (Rise ms):=hr
 have HAT:Hid (At ms m p f):=hat
 have hpn:=hat.le
 obtain ⟨pa,ca,rfl,_,ha⟩:=hv
 have HA0:Hid (ms=[]∨∃ b off,pa=some ⟨b,off,none⟩∧b < w.heap.size∧Row w b off ms):=ha
 clear ha hat hr
 generalize hna:ms.length=n at *
 have HN:Hid (ms.length=n):=hna
 clear hna
 obtain ⟨q,hq⟩:∃ q,q=if f=true then p+1 else p:=⟨_,rfl⟩
 have HQ:Hid (q=if f=true then p+1 else p):=hq
 have hqp:q≤p+1:=by rw [hq];split<;>omega
 clear hq
 have HPUT:Hid (p < n→RL.outL ms m p q n=RL.put ms m p f):=fun h=>by rw [HQ.out,← HN.out];exact RL.put_out (by rw [HN.out];exact h)
 have HLAST:Hid (p=n→f=false∧RL.outL ms m p q n++[m]=RL.put ms m p f):=fun h=>by
  have hf:f=false:=by
   cases f
   ·rfl
   ·have:=(HAT.out.is.1 rfl).1;have:=HN.out;omega
  subst hf
  exact ⟨rfl,by rw [← HN.out];exact RL.put_last (by rw [HN.out];exact h)⟩
 go_enter Tryz.func129,Tryz.ntmps129
 go_wp2_with fail
 obtain ⟨W1,hW1⟩:∃ W1,W1=w.alloc (.cells #[.string m.centre,.int .i64 m.addr,.int .i64 m.version] 122):=⟨_,rfl⟩
 have hs1:W1.heap.size=w.heap.size+1:=by rw [hW1];simp
 have hg1:W1.heap[w.heap.size]?=some (.cells #[.string m.centre,.int .i64 m.addr,.int .i64 m.version] 122 (0,0)):=by rw [hW1];exact heap_alloc_new w _
 have d0:W1.cell? ⟨w.heap.size,0,none⟩=some (.string m.centre):=cellsAt hg1 0
 have d1:W1.cell? ⟨w.heap.size,1,none⟩=some (.int .i64 m.addr):=cellsAt hg1 1
 have d2:W1.cell? ⟨w.heap.size,2,none⟩=some (.int .i64 m.version):=cellsAt hg1 2
 have hb01:Hid (Below w.heap.size w W1):=by rw [hW1];exact hb0
 have HW1:Hid (W1=w.alloc (.cells #[.string m.centre,.int .i64 m.addr,.int .i64 m.version] 122)):=hW1
 have HA:Hid (ms=[]∨∃ b off,pa=some ⟨b,off,none⟩∧b < w.heap.size+1∧Row W1 b off ms):=by
  rcases HA0.out with h | ⟨b,off,h1,h2,h3⟩
  ·exact .inl h
  ·exact .inr ⟨b,off,h1,by omega,h3.later hb01.out h2⟩
 clear hW1 hg1 hb0 HA0
 have hw1:w.heap.size < w.heap.size+1:=by omega
 go_loopw [5,6,7] (fun kn b i w'=>∃ (k:Nat) (bb:Bool),k≤n∧i=.int .i64 k∧b=.bool bb∧Hid (bb=true↔p < k)∧Below (w.heap.size+1) W1 w'∧Hid (Own (w.heap.size+1) w' kn (RL.outL ms m p q k))) (fun _ _ i _=>n - (intOf i).toNat)
 case atStart=>exact ⟨0,false,Nat.zero_le _,rfl,rfl,⟨fun h=>(by cases h),fun h=>(by omega)⟩,by rw [HW1.out];exact Below.refl _ _,own_nil _ _⟩
 case round=>
  obtain ⟨k,bb,hk,rfl,rfl,hbb,hbl,HO⟩:=hrel
  have hbc:∀ b o,b < w.heap.size+1→wr.cell? ⟨b,o,none⟩=W1.cell? ⟨b,o,none⟩:=fun b o h=>hbl.cell (p:=⟨b,o,none⟩) h
  have hsz:=hbl.size
  have hlen:=RL.outL_len (ms:=ms) (m:=m) (p:=p) (q:=q) (k:=k)
  have hlen2:(RL.outL ms m p q k).length≤2001:=by have:=HN.out;omega
  clear hlen
  by_cases hlt:k < n
  ·obtain ⟨b1,o1,hp1,hl1,hr1⟩:∃ b off,pa=some ⟨b,off,none⟩∧b < w.heap.size+1∧Row W1 b off ms:=by
    rcases HA.out with h | h
    ·have:=HN.out;rw [h] at this;simp at this;omega
    ·exact h
   subst hp1
   obtain ⟨c0,c1,c2⟩:=hr1 k (by rw [HN.out];exact hlt)
   clear hr1
   have hkl:k < ms.length:=by rw [HN.out];exact hlt
   have HLO:Hid (k < p→RL.outL ms m p q (k+1)=RL.outL ms m p q k++[ms.getD k dm]∧ord (ms.getD k dm) m < 0):=fun h=>⟨RL.outL_lo dm h hkl,HAT.out.lo k h⟩
   have HHI:Hid (p < k→RL.outL ms m p q (k+1)=RL.outL ms m p q k++[ms.getD k dm]∧0 < ord (ms.getD k dm) m):=fun h=>⟨RL.outL_hi dm h (by omega) hkl,RL.at_hi_ne ord dm keyed HAT.out HR.out k h hkl⟩
   have HEQ:Hid (k=p→f=true→RL.outL ms m p q (k+1)=RL.outL ms m p q k++[m]∧ord (ms.getD k dm) m=0):=fun h hf=>by
    have hq:q=p+1:=HQ.out.trans (if_pos hf)
    rw [hq,h]
    exact ⟨RL.outL_eq,(HAT.out.is.1 hf).2⟩
   have HNE:Hid (k=p→f=false→RL.outL ms m p q (k+1)=(RL.outL ms m p q k++[m])++[ms.getD k dm]∧0 < ord (ms.getD k dm) m):=fun h hf=>by
    have hq:q=p:=HQ.out.trans (if_neg (by rw [hf];exact Bool.false_ne_true))
    rw [hq,h]
    refine ⟨RL.outL_ne dm (by omega),?_⟩
    have h1:=HAT.out.hi p (Nat.le_refl _) (by omega)
    have h2:¬ ord (ms.getD p dm) m=0:=fun e=>by have:=HAT.out.is.2 ⟨by omega,e⟩;rw [hf] at this;cases this
    omega
   generalize ms.getD k dm=mk at *
   rcases Nat.lt_trichotomy k p with hkp | hkp | hkp
   ·have hbf:bb=false:=by
     cases bb
     ·rfl
     ·have:=hbb.out.1 rfl;omega
    subst hbf
    obtain ⟨hO,hls⟩:=HLO.out hkp
    have HOL:Hid (RL.outL ms m p q (k+1)=RL.outL ms m p q k++[mk]):=hO
    have hl1':Op.bytesLess mk.centre.toList m.centre.toList=true:=(cmpI_lt _ _).1 hls
    obtain ⟨hne1,hne2⟩:=beq_name (a:=mk.centre) (b:=m.centre) (fun e=>by have h:ord mk m=0:=(cmpI_eq _ _).2 e;omega)
    clear hO hls HLO HHI HEQ HNE hbb
    generalize RL.outL ms m p q k=L at *
    go_wp2_with fail
    go_quiet (fail)
    go_wp2_with fail
    go_quiet (fail)
    go_wp2_with (at_builtin;refine wpList_append_own _ rfl _ _ 25 rfl (w.heap.size+1) 122 i0 _ 3 32 Tryz.underlying25 hi0 hz0 hzs hzb rfl (by omega) _ (L).length (fl (L)) rfl ?hown ⟨wr.heap.size,0,none⟩ 1 1 (mk).cs rfl rfl ?hnews (cs_one _) ?h63 ?hbytes ?hbase ?_)
    case hown=>(refine HO.out.below ?_;repeat (first | exact Below.refl _ _ | refine below_drewN ?_ _ | refine Below.alloc ?_ (by simp) _ | refine Below.drew ?_))
    case hnews=>(intro j u hj;rw [Addr.add_lit];exact (cellsAt (heap_alloc_new wr (.cells #[.string mk.centre,.int .i64 mk.addr,.int .i64 mk.version] 122)) (0+j)).trans (by simpa [Gwy.cs] using hj))
    case h63=>(unfold maxLen;omega)
    case hbytes=>omega
    case hbase=>(simp;omega)
    intro v' w2 r1 r2 r3
    have HBX:Hid (Below (w.heap.size+1) W1 w2):=by
     have h0:Below (w.heap.size+1) W1 (wr.alloc (.cells #[.string mk.centre,.int .i64 mk.addr,.int .i64 mk.version] 122)):=hbl.alloc (by omega) _
     exact h0.trans ((Below.refl _ _).grown (w:=wr.alloc (.cells #[.string mk.centre,.int .i64 mk.addr,.int .i64 mk.version] 122)) ⟨r2.os,r2.tape,r2.output,r2.size,r2.block⟩ (by simp;omega) (fun j hj=>(HO.out.lt j hj).1))
    have HOX:Hid (Own (w.heap.size+1) w2 v' (L++[mk])):=own_snoc (by first | exact r1 | (rw [List.length_append];exact r1))
    clear r1 r2 r3
    go_wp2_with fail
    exact ⟨⟨k+1,false,by omega,by go_num,rfl,⟨fun h=>(by cases h),fun h=>(by omega)⟩,HBX.out,(by rw [HOL.out];exact HOX.out)⟩,by simp [intOf];omega⟩
   ·have hbf:bb=false:=by
     cases bb
     ·rfl
     ·have:=hbb.out.1 rfl;omega
    subst hbf
    have hkp1:p≤k:=by omega
    have hkp2:k≤p:=by omega
    have HKP:Hid (k=p):=hkp
    clear hkp
    cases f
    ·obtain ⟨hO,hls⟩:=HNE.out HKP.out rfl
     have HOL:Hid (RL.outL ms m p q (k+1)=(RL.outL ms m p q k++[m])++[mk]):=hO
     have hl1':Op.bytesLess mk.centre.toList m.centre.toList=false:=less_asymm ((cmpI_gt _ _).1 hls)
     obtain ⟨hne1,hne2⟩:=beq_name (a:=mk.centre) (b:=m.centre) (fun e=>by have h:ord mk m=0:=(cmpI_eq _ _).2 e;omega)
     clear hO hls HLO HHI HEQ HNE hbb
     generalize RL.outL ms m p q k=L at *
     go_wp2_with fail
     go_quiet (fail)
     go_wp2_with (at_builtin;refine wpList_append_own _ rfl _ _ 25 rfl (w.heap.size+1) 122 i0 _ 3 32 Tryz.underlying25 hi0 hz0 hzs hzb rfl (by omega) _ (L).length (fl (L)) rfl ?hown ⟨wr.heap.size,0,none⟩ 1 1 (m).cs rfl rfl ?hnews (cs_one _) ?h63 ?hbytes ?hbase ?_)
     case hown=>(refine HO.out.below ?_;repeat (first | exact Below.refl _ _ | refine below_drewN ?_ _ | refine Below.alloc ?_ (by simp) _ | refine Below.drew ?_))
     case hnews=>(intro j u hj;rw [Addr.add_lit];exact (cellsAt (heap_alloc_new wr (.cells #[.string m.centre,.int .i64 m.addr,.int .i64 m.version] 122)) (0+j)).trans (by simpa [Gwy.cs] using hj))
     case h63=>(unfold maxLen;omega)
     case hbytes=>omega
     case hbase=>(simp;omega)
     intro v' w2 r1 r2 r3
     have HBX:Hid (Below (w.heap.size+1) W1 w2):=by
      have h0:Below (w.heap.size+1) W1 (wr.alloc (.cells #[.string m.centre,.int .i64 m.addr,.int .i64 m.version] 122)):=hbl.alloc (by omega) _
      exact h0.trans ((Below.refl _ _).grown (w:=wr.alloc (.cells #[.string m.centre,.int .i64 m.addr,.int .i64 m.version] 122)) ⟨r2.os,r2.tape,r2.output,r2.size,r2.block⟩ (by simp;omega) (fun j hj=>(HO.out.lt j hj).1))
     have HOX:Hid (Own (w.heap.size+1) w2 v' (L++[m])):=own_snoc (by first | exact r1 | (rw [List.length_append];exact r1))
     clear r1 r2 r3
     have hbl2:=HBX.out
     have hbc2:∀ b o,b < w.heap.size+1→w2.cell? ⟨b,o,none⟩=W1.cell? ⟨b,o,none⟩:=fun b o h=>hbl2.cell (p:=⟨b,o,none⟩) h
     have hsz2:=hbl2.size
     clear hbl hbc hsz HO
     have hl2:(L++[m]).length≤2002:=by simp;omega
     go_wp2_with fail
     go_quiet (fail)
     go_wp2_with (at_builtin;refine wpList_append_own _ rfl _ _ 25 rfl (w.heap.size+1) 122 i0 _ 3 32 Tryz.underlying25 hi0 hz0 hzs hzb rfl (by omega) _ (L++[m]).length (fl (L++[m])) rfl ?hown ⟨w2.heap.size,0,none⟩ 1 1 (mk).cs rfl rfl ?hnews (cs_one _) ?h63 ?hbytes ?hbase ?_)
     case hown=>(refine HOX.out.below ?_;repeat (first | exact Below.refl _ _ | refine below_drewN ?_ _ | refine Below.alloc ?_ (by simp) _ | refine Below.drew ?_))
     case hnews=>(intro j u hj;rw [Addr.add_lit];exact (cellsAt (heap_alloc_new w2 (.cells #[.string mk.centre,.int .i64 mk.addr,.int .i64 mk.version] 122)) (0+j)).trans (by simpa [Gwy.cs] using hj))
     case h63=>(unfold maxLen;omega)
     case hbytes=>omega
     case hbase=>(simp;omega)
     clear HBX
     intro v' w3 r1 r2 r3
     have HBXY:Hid (Below (w.heap.size+1) W1 w3):=by
      have h0:Below (w.heap.size+1) W1 (w2.alloc (.cells #[.string mk.centre,.int .i64 mk.addr,.int .i64 mk.version] 122)):=hbl2.alloc (by omega) _
      exact h0.trans ((Below.refl _ _).grown (w:=w2.alloc (.cells #[.string mk.centre,.int .i64 mk.addr,.int .i64 mk.version] 122)) ⟨r2.os,r2.tape,r2.output,r2.size,r2.block⟩ (by simp;omega) (fun j hj=>(HOX.out.lt j hj).1))
     have HOXY:Hid (Own (w.heap.size+1) w3 v' ((L++[m])++[mk])):=own_snoc (by first | exact r1 | (rw [List.length_append];exact r1))
     clear r1 r2 r3
     go_wp2_with fail
     exact ⟨⟨k+1,true,by omega,by go_num,rfl,⟨fun _=>(by omega),fun _=>(rfl)⟩,HBXY.out,(by rw [HOL.out];exact HOXY.out)⟩,by simp [intOf];omega⟩
    ·obtain ⟨hO,hls⟩:=HEQ.out HKP.out rfl
     have HOL:Hid (RL.outL ms m p q (k+1)=RL.outL ms m p q k++[m]):=hO
     have hce:mk.centre=m.centre:=(cmpI_eq _ _).1 hls
     rw [hce] at c0
     have hl1':Op.bytesLess m.centre.toList m.centre.toList=false:=bl_irrefl _
     clear hO hls HLO HHI HEQ HNE hbb
     generalize RL.outL ms m p q k=L at *
     go_wp2_with fail
     go_quiet (fail)
     go_wp2_with (at_builtin;refine wpList_append_own _ rfl _ _ 25 rfl (w.heap.size+1) 122 i0 _ 3 32 Tryz.underlying25 hi0 hz0 hzs hzb rfl (by omega) _ (L).length (fl (L)) rfl ?hown ⟨wr.heap.size,0,none⟩ 1 1 (m).cs rfl rfl ?hnews (cs_one _) ?h63 ?hbytes ?hbase ?_)
     case hown=>(refine HO.out.below ?_;repeat (first | exact Below.refl _ _ | refine below_drewN ?_ _ | refine Below.alloc ?_ (by simp) _ | refine Below.drew ?_))
     case hnews=>(intro j u hj;rw [Addr.add_lit];exact (cellsAt (heap_alloc_new wr (.cells #[.string m.centre,.int .i64 m.addr,.int .i64 m.version] 122)) (0+j)).trans (by simpa [Gwy.cs] using hj))
     case h63=>(unfold maxLen;omega)
     case hbytes=>omega
     case hbase=>(simp;omega)
     intro v' w2 r1 r2 r3
     have HBX:Hid (Below (w.heap.size+1) W1 w2):=by
      have h0:Below (w.heap.size+1) W1 (wr.alloc (.cells #[.string m.centre,.int .i64 m.addr,.int .i64 m.version] 122)):=hbl.alloc (by omega) _
      exact h0.trans ((Below.refl _ _).grown (w:=wr.alloc (.cells #[.string m.centre,.int .i64 m.addr,.int .i64 m.version] 122)) ⟨r2.os,r2.tape,r2.output,r2.size,r2.block⟩ (by simp;omega) (fun j hj=>(HO.out.lt j hj).1))
     have HOX:Hid (Own (w.heap.size+1) w2 v' (L++[m])):=own_snoc (by first | exact r1 | (rw [List.length_append];exact r1))
     clear r1 r2 r3
     have hbl2:=HBX.out
     have hbc2:∀ b o,b < w.heap.size+1→w2.cell? ⟨b,o,none⟩=W1.cell? ⟨b,o,none⟩:=fun b o h=>hbl2.cell (p:=⟨b,o,none⟩) h
     have hsz2:=hbl2.size
     clear hbl hbc hsz HO
     go_wp2_with fail
     go_quiet (fail)
     go_wp2_with fail
     exact ⟨⟨k+1,true,by omega,by go_num,rfl,⟨fun _=>(by omega),fun _=>rfl⟩,below_drewN HBX.out _,(by rw [HOL.out];exact HOX.out.below (below_drewN (Below.refl _ _) _))⟩,by simp [intOf];omega⟩
   ·have hbf:bb=true:=hbb.out.2 hkp
    subst hbf
    obtain ⟨hO,hls⟩:=HHI.out hkp
    have HOL:Hid (RL.outL ms m p q (k+1)=RL.outL ms m p q k++[mk]):=hO
    have hl1':Op.bytesLess mk.centre.toList m.centre.toList=false:=less_asymm ((cmpI_gt _ _).1 hls)
    obtain ⟨hne1,hne2⟩:=beq_name (a:=mk.centre) (b:=m.centre) (fun e=>by have h:ord mk m=0:=(cmpI_eq _ _).2 e;omega)
    clear hO hls HLO HHI HEQ HNE hbb
    generalize RL.outL ms m p q k=L at *
    go_wp2_with fail
    go_quiet (fail)
    go_wp2_with fail
    go_quiet (fail)
    go_wp2_with (at_builtin;refine wpList_append_own _ rfl _ _ 25 rfl (w.heap.size+1) 122 i0 _ 3 32 Tryz.underlying25 hi0 hz0 hzs hzb rfl (by omega) _ (L).length (fl (L)) rfl ?hown ⟨wr.heap.size,0,none⟩ 1 1 (mk).cs rfl rfl ?hnews (cs_one _) ?h63 ?hbytes ?hbase ?_)
    case hown=>(refine HO.out.below ?_;repeat (first | exact Below.refl _ _ | refine below_drewN ?_ _ | refine Below.alloc ?_ (by simp) _ | refine Below.drew ?_))
    case hnews=>(intro j u hj;rw [Addr.add_lit];exact (cellsAt (heap_alloc_new wr (.cells #[.string mk.centre,.int .i64 mk.addr,.int .i64 mk.version] 122)) (0+j)).trans (by simpa [Gwy.cs] using hj))
    case h63=>(unfold maxLen;omega)
    case hbytes=>omega
    case hbase=>(simp;omega)
    intro v' w2 r1 r2 r3
    have HBX:Hid (Below (w.heap.size+1) W1 w2):=by
     have h0:Below (w.heap.size+1) W1 (wr.alloc (.cells #[.string mk.centre,.int .i64 mk.addr,.int .i64 mk.version] 122)):=hbl.alloc (by omega) _
     exact h0.trans ((Below.refl _ _).grown (w:=wr.alloc (.cells #[.string mk.centre,.int .i64 mk.addr,.int .i64 mk.version] 122)) ⟨r2.os,r2.tape,r2.output,r2.size,r2.block⟩ (by simp;omega) (fun j hj=>(HO.out.lt j hj).1))
    have HOX:Hid (Own (w.heap.size+1) w2 v' (L++[mk])):=own_snoc (by first | exact r1 | (rw [List.length_append];exact r1))
    clear r1 r2 r3
    go_wp2_with fail
    exact ⟨⟨k+1,true,by omega,by go_num,rfl,⟨fun _=>(by omega),fun _=>(rfl)⟩,HBX.out,(by rw [HOL.out];exact HOX.out)⟩,by simp [intOf];omega⟩
  ·have hkn:k=n:=by omega
   subst hkn
   have HBX:Hid (Below w.heap.size w wr):=hb01.out.trans (hbl.mono (by omega))
   by_cases hpk:p < k
   ·have hbf:bb=true:=hbb.out.2 hpk
    subst hbf
    have HFO:Hid (Own (w.heap.size+1) wr u5 (RL.put ms m p f)):=by
     have h:=HO.out
     rw [HPUT.out hpk] at h
     exact h
    clear HO hlen2
    go_wp2_with fail
    go_ret
    exact ⟨u5,rfl,HFO.out,HBX.out⟩
   ·have hbf:bb=false:=by
     cases bb
     ·rfl
     ·have:=hbb.out.1 rfl;omega
    subst hbf
    obtain ⟨hf,hput⟩:=HLAST.out (by omega)
    have HPL:Hid (RL.outL ms m p q k++[m]=RL.put ms m p f):=hput
    clear hput HPUT HLAST
    generalize RL.outL ms m p q k=L at *
    go_wp2_with (at_builtin;refine wpList_append_own _ rfl _ _ 25 rfl (w.heap.size+1) 122 i0 _ 3 32 Tryz.underlying25 hi0 hz0 hzs hzb rfl (by omega) _ (L).length (fl (L)) rfl ?hown ⟨wr.heap.size,0,none⟩ 1 1 (m).cs rfl rfl ?hnews (cs_one _) ?h63 ?hbytes ?hbase ?_)
    case hown=>(refine HO.out.below ?_;repeat (first | exact Below.refl _ _ | refine below_drewN ?_ _ | refine Below.alloc ?_ (by simp) _ | refine Below.drew ?_))
    case hnews=>(intro j u hj;rw [Addr.add_lit];exact (cellsAt (heap_alloc_new wr (.cells #[.string m.centre,.int .i64 m.addr,.int .i64 m.version] 122)) (0+j)).trans (by simpa [Gwy.cs] using hj))
    case h63=>(unfold maxLen;omega)
    case hbytes=>omega
    case hbase=>(simp;omega)
    intro v' w2 r1 r2 r3
    have HBY:Hid (Below w.heap.size w w2):=by
     have h0:Below (w.heap.size+1) W1 (wr.alloc (.cells #[.string m.centre,.int .i64 m.addr,.int .i64 m.version] 122)):=hbl.alloc (by omega) _
     have h1:Below (w.heap.size+1) W1 w2:=h0.trans ((Below.refl _ _).grown (w:=wr.alloc (.cells #[.string m.centre,.int .i64 m.addr,.int .i64 m.version] 122)) ⟨r2.os,r2.tape,r2.output,r2.size,r2.block⟩ (by simp;omega) (fun j hj=>(HO.out.lt j hj).1))
     exact hb01.out.trans (h1.mono (by omega))
    have HFO:Hid (Own (w.heap.size+1) w2 v' (RL.put ms m p f)):=by rw [← HPL.out];exact own_snoc r1
    clear r1 r2 r3
    go_wp2_with fail
    go_ret
    exact ⟨v',rfl,HFO.out,HBY.out⟩
end Gw
namespace Gw
open Go.RowKit
theorem newE_def (a b:Gwy):newE a b=if a.version=b.version then decide (b.addr < a.addr) else decide (b.version < a.version):=by
 simp only [newE,newC,RL.lex]
 by_cases h:a.version=b.version
 ·rw [if_pos (by omega),if_pos h];congr 1;apply propext;omega
 ·rw [if_neg (by omega),if_neg h];congr 1;apply propext;omega
theorem put_hear {ms:List Gwy} {m:Gwy} {p:Nat} {f:Bool} (h:At ms m p f) (hn:f=true→newE m (ms.getD p dm)=true):RL.put ms m p f=hearL ms m:=(RL.hear_put ord newE dm h hn).symm
theorem at_key {ms:List Gwy} {s t:Gwy} {p:Nat} {f:Bool} (hk:s.centre=t.centre) (h:At ms s p f):At ms t p f:=by
 have e:∀ x,ord x s=ord x t:=fun x=>by unfold ord;rw [hk]
 exact ⟨h.le,fun j hj=>by rw [← e];exact h.lo j hj,fun j hj hl=>by rw [← e];exact h.hi j hj hl,by rw [← e];exact h.is⟩
end Gw
namespace Gw
open Go.RowKit
theorem opn_e (ms:List Gwy) (p:Nat) (f:Bool) (name:ByteArray) (addr:Int) (hv:0≤(fnd ms p f).version) :
 (opn ms p f name addr).e=if labB name=true then (if within addr 0 4294967295=true then (if (fnd ms p f).version+1≤1000000 then 0 else 3) else 3) else 1:=by
 have h:(within ((fnd ms p f).version+1) 1 1000000=true)↔(fnd ms p f).version+1≤1000000:=by simp [within];omega
 show (if labB name=true then (if within addr 0 4294967295=true then (if within ((fnd ms p f).version+1) 1 1000000=true then (0:Int) else 3) else 3) else 1)=_
 by_cases h3:(fnd ms p f).version+1≤1000000
 ·rw [if_pos (h.2 h3),if_pos h3]
 ·rw [if_neg (fun e=>h3 (h.1 e)),if_neg h3]
theorem opn_new {ms:List Gwy} {p:Nat} {f:Bool} {name:ByteArray} {addr:Int} (hf:f=true):newE (opn ms p f name addr) (ms.getD p dm)=true:=by
 rw [newE_def]
 have hv:(opn ms p f name addr).version=(ms.getD p dm).version+1:=by
  show (fnd ms p f).version+1=_
  rw [fnd,if_pos hf]
 rw [if_neg (by omega)]
 exact decide_eq_true (by omega)
def openE (ms:List Gwy) (p:Nat) (f:Bool) (name:ByteArray) (addr:Int):Int:=
 if (opn ms p f name addr).e=0 then (if 6 < (RL.put ms (opn ms p f name addr) p f).length then 2 else 0) else (opn ms p f name addr).e
theorem openE_join {ms:List Gwy} (h0:chk ms=0) {p:Nat} {f:Bool} {name:ByteArray} {addr:Int} (hat:At ms ⟨name,0,0⟩ p f) :
 joinE ms [opn ms p f name addr]=openE ms p f name addr∧joinL ms [opn ms p f name addr]=RL.put ms (opn ms p f name addr) p f:=by
 have h1:At ms (opn ms p f name addr) p f:=at_key (by rfl) hat
 have h2:joinL ms [opn ms p f name addr]=RL.put ms (opn ms p f name addr) p f:=(put_hear h1 (fun hf=>opn_new hf)).symm
 refine ⟨?_,h2⟩
 unfold openE
 by_cases he:(opn ms p f name addr).e=0
 ·rw [if_pos he,joinE_good h0 (by rw [chk_one];exact he),h2]
 ·rw [if_neg he,joinE_bad2 h0 (by rw [chk_one];exact he),chk_one]
theorem put_ok {ms:List Gwy} {m:Gwy} {p:Nat} {f:Bool} (h:∀ x∈ms,x.ok) (hm:m.ok):∀ x∈RL.put ms m p f,x.ok:=fun x hx=>by
 unfold RL.put at hx
 rcases List.mem_append.1 hx with hx | hx
 ·exact h x (List.mem_of_mem_take hx)
 ·rcases List.mem_cons.1 hx with rfl | hx
  ·exact hm
  ·exact h x (List.mem_of_mem_drop hx)
end Gw
end Go.Proofs.YtikgjgmgbfjcgaaGreat
namespace Go.Proofs.YtikgjgmgbfjcgaaGreat
open Go.RowKit
def IsSl (v:Value):Prop:=∃ a k c,v=.slice a k c
theorem isSl_nil:IsSl (.slice none 0 0):=⟨none,0,0,rfl⟩
theorem Sv.isSl_of {w:World} {v:Value} {L:List Sv.Svc} (h:Sv.Sl w v L):IsSl v:=by
 obtain ⟨a,c,hv,_⟩:=h
 exact ⟨a,_,c,hv⟩
theorem Gw.isSl_of {w:World} {v:Value} {L:List Gw.Gwy} (h:Gw.Sl w v L):IsSl v:=by
 obtain ⟨a,c,hv,_⟩:=h
 exact ⟨a,_,c,hv⟩
namespace Sv
set_option maxHeartbeats 6400000 in
set_option maxRecDepth 100000 in
theorem refSet_sl (ms:List Svc) (v:Value) (s:Svc) (w:World) (hv:Sl w v ms) (h0:chk ms=0) (hs:s.ok) (p:Nat) (f:Bool) (hat:At ms s p f) :
 Calls Tryz.prog 138 #[v,.agg #[.string s.node,.string s.idn,.string s.name,.string s.tag,.int .i64 s.addr,.int .i64 s.port,.bool s.passing,.int .i64 s.version,.bool s.gone]] w fun e w'=>∃ v',e=.returned (.tuple #[v',.int .i64 (setE ms p f s)])∧IsSl v'∧Below w.heap.size w w'∧Hid (setE ms p f s=0→Sl w' v' (RL.put ms (setS ms p f s) p f)):=by
 have hz:=chk_zero h0
 have hlen:=hz.1
 have hver:=fnd_ver hz.2.2 hat
 have HAT:Hid (At ms s p f):=hat
 have HR:Hid (Rise ms):=hz.2.1
 have HA1:Hid (At ms (setS ms p f s) p f):=at_key (s:=s) (t:=setS ms p f s) rfl rfl hat
 have HOK:Hid (∀ m∈RL.put ms (setS ms p f s) p f,m.ok):=put_ok (sl_ok hv) hs
 have HE:Hid (setE ms p f s=if (fnd ms p f).version+1≤1000000 then (if 40 < (RL.put ms (setS ms p f s) p f).length then 2 else 0) else 3):=rfl
 have hpl:(RL.put ms (setS ms p f s) p f).length≤41:=by
  have h:=RL.put_len ord dm HA1.out
  rw [h];split<;>omega
 have HPT:Hid (∀ W,Sl W v ms→Calls Tryz.prog 128 #[v,.agg #[.string s.node,.string s.idn,.string s.name,.string s.tag,.int .i64 s.addr,.int .i64 s.port,.bool s.passing,.int .i64 ((fnd ms p f).version+1),.bool s.gone]] W fun e w'=>∃ v',e=.returned v'∧Own (W.heap.size+1) w' v' (RL.put ms (setS ms p f s) p f)∧Below W.heap.size W w'):=fun W hW=>refPut_any ms v (setS ms p f s) W hW (by omega) HR.out p f HA1.out
 have HV:Hid (Sl w v ms):=hv
 have HFT:Hid (f=true→fnd ms p f=ms.getD p dm):=fun h=>if_pos h
 have HFF:Hid (f=false→(fnd ms p f).version=0):=fun h=>by show (fnd ms p f).version=0;rw [fnd,if_neg (by rw [h];exact Bool.false_ne_true)];rfl
 generalize setE ms p f s=oe at *
 generalize RL.put ms (setS ms p f s) p f=pl at *
 generalize hvv:(fnd ms p f).version=V at *
 have HVV:Hid ((fnd ms p f).version=V):=hvv
 obtain ⟨hv0,hv1⟩:=hver
 clear hv h0 hz hat hvv HA1
 generalize hpn:pl.length=np at *
 have HPN:Hid (pl.length=np):=hpn
 clear hpn
 obtain ⟨s_node,s_idn,s_name,s_tag,s_addr,s_port,s_passing,s_version,s_gone⟩:=s
 have hb0:Below w.heap.size w (w.alloc (.cells #[.string s_node,.string s_idn,.string s_name,.string s_tag,.int .i64 s_addr,.int .i64 s_port,.bool s_passing,.int .i64 1,.bool s_gone] 62)):=(Below.refl _ _).alloc (Nat.le_refl _) _
 have HV0:Hid (Sl (w.alloc (.cells #[.string s_node,.string s_idn,.string s_name,.string s_tag,.int .i64 s_addr,.int .i64 s_port,.bool s_passing,.int .i64 1,.bool s_gone] 62)) v ms):=HV.out.below hb0
 go_enter Tryz.func138,Tryz.ntmps138
 go_wp2_with fail
 refine (refAt_any ms _ s_node s_idn _ HV0.out (by omega)).mono ?_
 rintro e w1 ⟨r,rfl,hI,hw⟩
 have hrp:=atI_at (t:=⟨s_node,s_idn,s_name,s_tag,s_addr,s_port,s_passing,s_version,s_gone⟩) hI.out HAT.out HR.out
 subst hw
 clear hI
 cases f
 ·have hr1:r = -1:=hrp.2 rfl
  subst hr1
  have hV0:V=0:=HFF.out rfl
  subst hV0
  have HBZ:Hid (Below w.heap.size w (w.alloc (.cells #[.string s_node,.string s_idn,.string s_name,.string s_tag,.int .i64 s_addr,.int .i64 s_port,.bool s_passing,.int .i64 1,.bool s_gone] 62))):=hb0
  clear hb0 hrp
  have HO:Hid (oe=if 40 < np then 2 else 0):=HE.out.trans (if_pos (by omega))
  go_wp2_with fail
  refine (HPT.out _ HV0.out).mono ?_
  rintro e w2 ⟨v2,rfl,g1,g2⟩
  have HBX:Hid (Below w.heap.size w w2):=HBZ.out.trans (g2.mono (by simp))
  have HSX:Hid (Sl w2 v2 pl):=own_names g1 HOK.out
  clear g1 g2
  obtain ⟨p2,c2,hv2,_⟩:=HSX.out
  rw [HPN.out] at hv2
  subst hv2
  by_cases h6:40 < np
  ·go_wp2_with fail
   go_ret2
   exact ⟨_,by rw [HO.out,if_pos h6];rfl,(by first | exact isSl_nil | exact Sv.isSl_of HSX.out | exact hsl3),HBX.out,fun h=>by rw [HO.out,if_pos h6] at h;cases h⟩
  ·go_wp2_with fail
   go_ret2
   exact ⟨_,by rw [HO.out,if_neg h6];rfl,(by first | exact isSl_nil | exact Sv.isSl_of HSX.out | exact hsl3),HBX.out,fun _=>HSX.out⟩
 ·have hr1:r=(p:Int):=hrp.1 rfl
  subst hr1
  have hp:p < ms.length:=(HAT.out.is.1 rfl).1
  obtain ⟨pa,ca,hva,_,hrow⟩:=HV0.out
  subst hva
  obtain ⟨b3,o3,hp3,hl3,hr3⟩:∃ b_1 off,pa=some ⟨b_1,off,none⟩∧b_1 < w.heap.size∧Row w b_1 off ms:=by
   obtain ⟨pa2,ca2,h1,_,h2⟩:=HV.out
   simp only [Value.slice.injEq] at h1
   obtain ⟨rfl,_,_⟩:=h1
   rcases h2 with h | h
   ·rw [h] at hp;simp at hp
   ·exact h
  subst hp3
  clear hrow
  have hr3':=hr3.later hb0 hl3
  obtain ⟨d0,d1,d2,d3,d4,d5,d6,d7,d8⟩:=hr3' p hp
  have hxv:(ms.getD p dm).version=V:=by rw [← HFT.out rfl];exact HVV.out
  rw [hxv] at d7
  clear d0 d1 d2 d3 d4 d5 d6 d8
  have HBZ:Hid (Below w.heap.size w (w.alloc (.cells #[.string s_node,.string s_idn,.string s_name,.string s_tag,.int .i64 s_addr,.int .i64 s_port,.bool s_passing,.int .i64 (V+1),.bool s_gone] 62))):=(Below.refl _ _).alloc (Nat.le_refl _) _
  have HVZ:Hid (Sl (w.alloc (.cells #[.string s_node,.string s_idn,.string s_name,.string s_tag,.int .i64 s_addr,.int .i64 s_port,.bool s_passing,.int .i64 (V+1),.bool s_gone] 62)) (.slice (some ⟨b3,o3,none⟩) ms.length ca) ms):=HV.out.below HBZ.out
  clear hb0 hrp hr3 hr3' hxv
  by_cases hbig:V+1≤1000000
  ·have HO:Hid (oe=if 40 < np then 2 else 0):=HE.out.trans (if_pos hbig)
   go_wp2_with fail
   refine (HPT.out _ HVZ.out).mono ?_
   rintro e w2 ⟨v2,rfl,g1,g2⟩
   have HBX:Hid (Below w.heap.size w w2):=HBZ.out.trans (g2.mono (by simp))
   have HSX:Hid (Sl w2 v2 pl):=own_names g1 HOK.out
   clear g1 g2
   obtain ⟨p2,c2,hv2,_⟩:=HSX.out
   rw [HPN.out] at hv2
   subst hv2
   by_cases h6:40 < np
   ·go_wp2_with fail
    go_ret2
    exact ⟨_,by rw [HO.out,if_pos h6];rfl,(by first | exact isSl_nil | exact Sv.isSl_of HSX.out | exact hsl3),HBX.out,fun h=>by rw [HO.out,if_pos h6] at h;cases h⟩
   ·go_wp2_with fail
    go_ret2
    exact ⟨_,by rw [HO.out,if_neg h6];rfl,(by first | exact isSl_nil | exact Sv.isSl_of HSX.out | exact hsl3),HBX.out,fun _=>HSX.out⟩
  ·have HO:Hid (oe=3):=HE.out.trans (if_neg hbig)
   go_wp2_with fail
   go_ret2
   exact ⟨_,by rw [HO.out];rfl,(by first | exact isSl_nil | exact Sv.isSl_of HSX.out | exact hsl3),HBZ.out,fun h=>by rw [HO.out] at h;cases h⟩
set_option maxHeartbeats 3200000 in
set_option maxRecDepth 100000 in
theorem refReg_sl (ms:List Svc) (v:Value) (s:Svc) (w:World) (hv:Sl w v ms) (h0:chk ms=0) (hs:s.ok) (p:Nat) (f:Bool) (hat:At ms (keyOf s) p f) :
 Calls Tryz.prog 89 #[v,.agg #[.string s.node,.string s.idn,.string s.name,.string s.tag,.int .i64 s.addr,.int .i64 s.port,.bool s.passing,.int .i64 s.version,.bool s.gone]] w fun e w'=>∃ v',e=.returned (.tuple #[v',.int .i64 (regE ms p f s)])∧IsSl v'∧Below w.heap.size w w'∧Hid (regE ms p f s=0→Sl w' v' (RL.put ms (reg ms p f s) p f)):=by
 have HS:Hid (∀ W,Sl W v ms→Calls Tryz.prog 138 #[v,.agg #[.string (asOne s).node,.string (asOne s).idn,.string (asOne s).name,.string (asOne s).tag,.int .i64 (asOne s).addr,.int .i64 (asOne s).port,.bool (asOne s).passing,.int .i64 (asOne s).version,.bool (asOne s).gone]] W fun e w'=>∃ v',e=.returned (.tuple #[v',.int .i64 (setE ms p f (asOne s))])∧IsSl v'∧Below W.heap.size W w'∧Hid (setE ms p f (asOne s)=0→Sl w' v' (RL.put ms (reg ms p f s) p f))):=fun W hW=>refSet_sl ms v (asOne s) W hW h0 hs p f (at_key (s:=keyOf s) (t:=asOne s) rfl rfl hat)
 have HO:Hid (∀ W,Calls Tryz.prog 108 #[.agg #[.string (asOne s).node,.string (asOne s).idn,.string (asOne s).name,.string (asOne s).tag,.int .i64 (asOne s).addr,.int .i64 (asOne s).port,.bool (asOne s).passing,.int .i64 (asOne s).version,.bool (asOne s).gone]] W fun e w'=>e=.returned (.int .i64 (asOne s).e)∧Below W.heap.size W w'):=fun W=>refOne_any (asOne s) W hs
 have HE:Hid (regE ms p f s=if (asOne s).e=0 then setE ms p f (asOne s) else (asOne s).e):=rfl
 have HV:Hid (Sl w v ms):=hv
 generalize regE ms p f s=re at *
 generalize setE ms p f (asOne s)=se at *
 generalize RL.put ms (reg ms p f s) p f=pl at *
 generalize hoe:(asOne s).e=oe at *
 clear hoe hv h0 hs hat
 obtain ⟨s_node,s_idn,s_name,s_tag,s_addr,s_port,s_passing,s_version,s_gone⟩:=s
 simp only [asOne] at HS HO
 have hb0:Below w.heap.size w (w.alloc (.cells #[.string s_node,.string s_idn,.string s_name,.string s_tag,.int .i64 s_addr,.int .i64 s_port,.bool s_passing,.int .i64 1,.bool false] 62)):=(Below.refl _ _).alloc (Nat.le_refl _) _
 rcases he:decide (oe=0) with _ | _
 ·have he':(oe != 0)=true:=by simpa using he
  have HR:Hid (re=oe):=HE.out.trans (if_neg (by simpa using he))
  have HNZ:Hid (oe≠0):=(show oe≠0 by simpa using he)
  clear he
  go_enter Tryz.func89,Tryz.ntmps89
  go_wp2_with (go_at_call 108;refine (HO.out _).mono ?_;rintro e w1 ⟨rfl,hb1⟩)
  go_ret2
  exact ⟨_,by rw [HR.out];rfl,(by first | exact isSl_nil | exact Sv.isSl_of HSX.out | exact hsl3),hb0.trans (hb1.mono (by simp)),fun h=>absurd (HR.out.symm.trans h) HNZ.out⟩
 ·have he':(oe != 0)=false:=by simpa using he
  have HR:Hid (re=se):=HE.out.trans (if_pos (by simpa using he))
  clear he
  go_enter Tryz.func89,Tryz.ntmps89
  go_wp2_with fail
  refine (HO.out _).mono ?_
  rintro e w1 ⟨rfl,hb1⟩
  have hs1:w.heap.size+1≤w1.heap.size:=by have:=hb1.size;simpa using this
  have hbc:∀ o,w1.cell? ⟨w.heap.size,o,none⟩=(w.alloc (.cells #[.string s_node,.string s_idn,.string s_name,.string s_tag,.int .i64 s_addr,.int .i64 s_port,.bool s_passing,.int .i64 1,.bool false] 62)).cell? ⟨w.heap.size,o,none⟩:=fun o=>hb1.cell (p:=⟨w.heap.size,o,none⟩) (by simp)
  have HB1:Hid (Below w.heap.size w w1):=hb0.trans (hb1.mono (by simp))
  clear hb0 hb1
  go_wp2_with fail
  refine (HS.out _ (HV.out.below HB1.out)).mono ?_
  rintro e w2 ⟨v2,rfl,hsl3,hb2,hv2⟩
  have HB2:Hid (Below w.heap.size w w2):=HB1.out.trans (hb2.mono HB1.out.size)
  clear hb2
  go_wp2_with fail
  go_ret2
  exact ⟨_,by rw [HR.out];rfl,(by first | exact isSl_nil | exact Sv.isSl_of HSX.out | exact hsl3),HB2.out,fun h=>hv2.out (HR.out.symm.trans h)⟩
set_option maxHeartbeats 6400000 in
set_option maxRecDepth 100000 in
theorem refDrop_sl (ms:List Svc) (v:Value) (node idn:ByteArray) (w:World) (hv:Sl w v ms) (h0:chk ms=0) (hs:node.size≤maxLen) (ht:idn.size≤maxLen) (p:Nat) (f:Bool) (hat:At ms ⟨node,idn,⟨#[]⟩,⟨#[]⟩,0,0,false,0,false⟩ p f) :
 Calls Tryz.prog 90 #[v,.string node,.string idn] w fun e w'=>∃ v',e=.returned (.tuple #[v',.int .i64 (dropE ms p f node idn)])∧IsSl v'∧Below w.heap.size w w'∧Hid (dropE ms p f node idn=0→Sl w' v' (RL.put ms (drp ms p f) p f)):=by
 have hz:=chk_zero h0
 have hlen:=hz.1
 have HR:Hid (Rise ms):=hz.2.1
 have HV:Hid (Sl w v ms):=hv
 have hsA:Hid (∀ s:ByteArray,(s=node∨s=idn)→s.size≤maxLen):=by rintro s (rfl | rfl)<;>assumption
 have HAT:Hid (At ms ⟨node,idn,⟨#[]⟩,⟨#[]⟩,0,0,false,0,false⟩ p f):=hat
 have HST:Hid (f=true→∀ W,Sl W v ms→Calls Tryz.prog 138 #[v,.agg #[.string (goneS (fnd ms p f)).node,.string (goneS (fnd ms p f)).idn,.string (goneS (fnd ms p f)).name,.string (goneS (fnd ms p f)).tag,.int .i64 (goneS (fnd ms p f)).addr,.int .i64 (goneS (fnd ms p f)).port,.bool (goneS (fnd ms p f)).passing,.int .i64 (goneS (fnd ms p f)).version,.bool (goneS (fnd ms p f)).gone]] W fun e w'=>∃ v',e=.returned (.tuple #[v',.int .i64 (setE ms p f (goneS (fnd ms p f)))])∧IsSl v'∧Below W.heap.size W w'∧Hid (setE ms p f (goneS (fnd ms p f))=0→Sl w' v' (RL.put ms (drp ms p f) p f))):=fun hf W hW=>by
  subst hf
  have hp:=(hat.is.1 rfl).1
  have hf2:fnd ms p true=ms.getD p dm:=if_pos rfl
  have hok:(goneS (fnd ms p true)).ok:=by
   have h:(fnd ms p true).ok:=by rw [hf2];exact ns_get (sl_ok hv) p
   exact h
  exact refSet_sl ms v (goneS (fnd ms p true)) W hW h0 hok p true (RL.at_of ord dm keyed hz.2.1 hp (ord_zero.2 (by rw [← hf2];exact ⟨rfl,rfl⟩)))
 have HD:Hid (dropE ms p f node idn=if (labB node && labB idn)=true then (if (f && !(fnd ms p f).gone)=true then setE ms p f (goneS (fnd ms p f)) else 5) else 1):=rfl
 have HFT:Hid (f=true→fnd ms p f=ms.getD p dm):=fun h=>if_pos h
 generalize dropE ms p f node idn=de at *
 generalize setE ms p f (goneS (fnd ms p f))=se at *
 generalize RL.put ms (drp ms p f) p f=pl at *
 clear hv h0 hz hat
 rcases h1:labB node with _ | _
 ·have HN:Hid (de=1):=(show de=1 by rw [HD.out,h1];rfl)
  go_enter Tryz.func90,Tryz.ntmps90
  go_wp2_with (go_at_call 13;refine (isLabel_any _ _ (hsA.out _ (by simp))).mono ?_;rintro e w' ⟨rfl,rfl⟩;rw [h1])
  go_ret2
  exact ⟨_,by rw [HN.out];rfl,(by first | exact isSl_nil | exact Sv.isSl_of HSX.out | exact hsl3),Below.refl _ _,fun h=>by rw [HN.out] at h;cases h⟩
 ·rcases h2:labB idn with _ | _
  ·have HN:Hid (de=1):=(show de=1 by rw [HD.out,h1,h2];rfl)
   go_enter Tryz.func90,Tryz.ntmps90
   go_wp2_with (go_at_call 13;refine (isLabel_any _ _ (hsA.out _ (by simp))).mono ?_;rintro e w' ⟨rfl,rfl⟩;first | rw [h1] | rw [h2])
   go_ret2
   exact ⟨_,by rw [HN.out];rfl,(by first | exact isSl_nil | exact Sv.isSl_of HSX.out | exact hsl3),Below.refl _ _,fun h=>by rw [HN.out] at h;cases h⟩
  ·have HN:Hid (de=if (f && !(fnd ms p f).gone)=true then se else 5):=(show de=_ by rw [HD.out,h1,h2];rfl)
   clear HD
   go_enter Tryz.func90,Tryz.ntmps90
   go_wp2_with (go_at_call 13;refine (isLabel_any _ _ (hsA.out _ (by simp))).mono ?_;rintro e w' ⟨rfl,hw⟩;have hw2:=hw.symm;clear hw;subst hw2;first | rw [h1] | rw [h2])
   refine (refAt_any ms _ node idn _ HV.out (by omega)).mono ?_
   rintro e w1 ⟨r,rfl,hI,hw⟩
   have hw2:=hw.symm
   clear hw
   subst hw2
   have hrp:=atI_at (t:=⟨node,idn,⟨#[]⟩,⟨#[]⟩,0,0,false,0,false⟩) hI.out HAT.out HR.out
   clear hI
   cases f
   ·have hr1:r = -1:=hrp.2 rfl
    subst hr1
    have HN5:Hid (de=5):=(show de=5 by rw [HN.out];rfl)
    go_wp2_with fail
    go_ret2
    exact ⟨_,by rw [HN5.out];rfl,(by first | exact isSl_nil | exact Sv.isSl_of HSX.out | exact hsl3),Below.refl _ _,fun h=>by rw [HN5.out] at h;cases h⟩
   ·have hr1:r=(p:Int):=hrp.1 rfl
    subst hr1
    have hp:p < ms.length:=(HAT.out.is.1 rfl).1
    have hf2:=HFT.out rfl
    obtain ⟨pa,ca,hva,_,hrow⟩:=HV.out
    subst hva
    obtain ⟨b3,o3,hp3,hl3,hr3⟩:∃ b_1 off,pa=some ⟨b_1,off,none⟩∧b_1 < w.heap.size∧Row w b_1 off ms:=by
     rcases hrow with h | h
     ·rw [h] at hp;simp at hp
     ·exact h
    subst hp3
    obtain ⟨d0,d1,d2,d3,d4,d5,d6,d7,d8⟩:=hr3 p hp
    clear hr3 hrow hrp
    have HSQ:=HST.out rfl
    have hN2:=HN.out
    clear HST HN
    rw [hf2] at HSQ hN2
    clear hf2 HFT
    generalize ms.getD p dm=x at *
    obtain ⟨k_node,k_idn,k_name,k_tag,k_addr,k_port,k_passing,k_version,k_gone⟩:=x
    simp only at d0 d1 d2 d3 d4 d5 d6 d7 d8
    cases k_gone
    ·have HNS:Hid (de=se):=hN2
     clear hN2
     have HSR:Hid (∀ W,Sl W (.slice (some ⟨b3,o3,none⟩) ms.length ca) ms→Calls Tryz.prog 138 #[.slice (some ⟨b3,o3,none⟩) ms.length ca,.agg #[.string k_node,.string k_idn,.string k_name,.string k_tag,.int .i64 k_addr,.int .i64 k_port,.bool k_passing,.int .i64 k_version,.bool true]] W fun e w'=>∃ v',e=.returned (.tuple #[v',.int .i64 se])∧IsSl v'∧Below W.heap.size W w'∧Hid (se=0→Sl w' v' pl)):=HSQ
     clear HSQ
     have HBY:Hid (Below w.heap.size w (w.alloc (.cells #[.string k_node,.string k_idn,.string k_name,.string k_tag,.int .i64 k_addr,.int .i64 k_port,.bool k_passing,.int .i64 k_version,.bool true] 62))):=(Below.refl _ _).alloc (Nat.le_refl _) _
     go_wp2_with fail
     refine (HSR.out _ (HV.out.below HBY.out)).mono ?_
     rintro e w3 ⟨v3,rfl,hsl3,hb3,hv3⟩
     have HB3:Hid (Below w.heap.size w w3):=HBY.out.trans (hb3.mono (by simp))
     clear hb3
     go_wp2_with fail
     go_ret2
     exact ⟨v3,by rw [HNS.out];rfl,(by first | exact isSl_nil | exact Sv.isSl_of HSX.out | exact hsl3),HB3.out,fun h=>hv3.out (HNS.out.symm.trans h)⟩
    ·have HN5:Hid (de=5):=hN2
     clear hN2 HSQ
     go_wp2_with fail
     go_ret2
     exact ⟨_,by rw [HN5.out];rfl,(by first | exact isSl_nil | exact Sv.isSl_of HSX.out | exact hsl3),Below.refl _ _,fun h=>by rw [HN5.out] at h;cases h⟩
end Sv
namespace Gw
set_option maxHeartbeats 3200000 in
set_option maxRecDepth 100000 in
theorem refOpen_sl (ms:List Gwy) (v:Value) (name:ByteArray) (addr:Int) (w:World) (hv:Sl w v ms) (h0:chk ms=0) (hs:name.size≤maxLen) (p:Nat) (f:Bool) (hat:At ms ⟨name,0,0⟩ p f) :
 Calls Tryz.prog 91 #[v,.string name,.int .i64 addr] w fun e w'=>∃ v',e=.returned (.tuple #[v',.int .i64 (openE ms p f name addr)])∧IsSl v'∧Below w.heap.size w w'∧Hid (openE ms p f name addr=0→Sl w' v' (RL.put ms (opn ms p f name addr) p f)):=by
 have hz:=chk_zero h0
 have hlen:=hz.1
 have hver:=fnd_ver hz.2.2 hat
 have HD:Hid ((opn ms p f name addr).e=if labB name=true then (if within addr 0 4294967295=true then (if (fnd ms p f).version+1≤1000000 then 0 else 3) else 3) else 1):=opn_e ms p f name addr hver.1
 have HAT:Hid (At ms ⟨name,0,0⟩ p f):=hat
 have HR:Hid (Rise ms):=hz.2.1
 have HG:Hid (opn ms p f name addr=⟨name,addr,(fnd ms p f).version+1⟩):=rfl
 have HA1:Hid (At ms (opn ms p f name addr) p f):=at_key (by rfl) hat
 have HOK:Hid (∀ m∈RL.put ms (opn ms p f name addr) p f,m.ok):=put_ok (sl_ok hv) hs
 have HE:Hid (openE ms p f name addr=if (opn ms p f name addr).e=0 then (if 6 < (RL.put ms (opn ms p f name addr) p f).length then 2 else 0) else (opn ms p f name addr).e):=rfl
 have hpl:(RL.put ms (opn ms p f name addr) p f).length≤7:=by
  have h:=RL.put_len ord dm HA1.out
  rw [h];split<;>omega
 have HPT:Hid (∀ W,Sl W v ms→Calls Tryz.prog 129 #[v,.agg #[.string name,.int .i64 addr,.int .i64 ((fnd ms p f).version+1)]] W fun e w'=>∃ v',e=.returned v'∧Own (W.heap.size+1) w' v' (RL.put ms (opn ms p f name addr) p f)∧Below W.heap.size W w'):=fun W hW=>refPut_any ms v (opn ms p f name addr) W hW (by omega) HR.out p f HA1.out
 have HV:Hid (Sl w v ms):=hv
 have HFT:Hid (f=true→fnd ms p f=ms.getD p dm):=fun h=>if_pos h
 have HFF:Hid (f=false→(fnd ms p f).version=0):=fun h=>by show (fnd ms p f).version=0;rw [fnd,if_neg (by rw [h];exact Bool.false_ne_true)];rfl
 generalize openE ms p f name addr=oe at *
 generalize RL.put ms (opn ms p f name addr) p f=pl at *
 generalize (opn ms p f name addr).e=ge at *
 generalize hvv:(fnd ms p f).version=V at *
 have HVV:Hid ((fnd ms p f).version=V):=hvv
 obtain ⟨hv0,hv1⟩:=hver
 clear hv h0 hz hat hvv HG HA1
 generalize hpn:pl.length=np at *
 have HPN:Hid (pl.length=np):=hpn
 clear hpn
 rcases hl:labB name with _ | _
 ·have HO:Hid (oe=1):=(show oe=1 by rw [HE.out,HD.out,hl];rfl)
  go_enter Tryz.func91,Tryz.ntmps91
  go_wp2_with (go_at_call 13;refine (isLabel_any _ _ hs).mono ?_;rintro e w' ⟨rfl,rfl⟩;rw [hl])
  go_ret2
  exact ⟨_,by rw [HO.out];rfl,(by first | exact isSl_nil | exact Gw.isSl_of HSX.out | exact hsl3),Below.refl _ _,fun h=>by rw [HO.out] at h;cases h⟩
 ·have HEA:Hid (within addr 0 4294967295=false→oe=3):=fun h=>by show oe=3;rw [HE.out,HD.out,hl,h];rfl
  have HEV:Hid (within addr 0 4294967295=true→¬ V+1≤1000000→oe=3):=fun h h2=>by show oe=3;rw [HE.out,HD.out,hl,h,if_pos rfl,if_pos rfl,if_neg h2];rfl
  have HEO:Hid (within addr 0 4294967295=true→V+1≤1000000→oe=if 6 < np then 2 else 0):=fun h h2=>by show oe=_;rw [HE.out,HD.out,hl,h,if_pos rfl,if_pos rfl,if_pos h2,if_pos rfl]
  clear HE HD
  have hb0:Below w.heap.size w (w.alloc (.cells #[.string name,.int .i64 addr,.int .i64 1] 122)):=(Below.refl _ _).alloc (Nat.le_refl _) _
  have HV0:Hid (Sl (w.alloc (.cells #[.string name,.int .i64 addr,.int .i64 1] 122)) v ms):=HV.out.below hb0
  go_enter Tryz.func91,Tryz.ntmps91
  go_wp2_with (go_at_call 13;refine (isLabel_any _ _ hs).mono ?_;rintro e w' ⟨rfl,hw⟩;have hw':=hw.symm;clear hw;subst hw';rw [hl])
  refine (refAt_any ms _ name _ HV0.out (by omega)).mono ?_
  rintro e w1 ⟨r,rfl,hI,hw⟩
  have hrp:=atI_at (t:=⟨name,0,0⟩) hI.out HAT.out HR.out
  subst hw
  clear hI
  cases f
  ·have hr1:r = -1:=hrp.2 rfl
   subst hr1
   have hV0:V=0:=HFF.out rfl
   subst hV0
   have HBZ:Hid (Below w.heap.size w (w.alloc (.cells #[.string name,.int .i64 addr,.int .i64 1] 122))):=hb0
   clear hb0 hrp
   rcases ha:within addr 0 4294967295 with _ | _
   ·have HO:Hid (oe=3):=HEA.out ha
    go_wp2_with (go_at_call 14;refine (isAddress_any _ _).mono ?_;rintro e w' ⟨rfl,rfl⟩;rw [ha])
    go_ret2
    exact ⟨_,by rw [HO.out];rfl,(by first | exact isSl_nil | exact Gw.isSl_of HSX.out | exact hsl3),HBZ.out,fun h=>by rw [HO.out] at h;cases h⟩
   ·have HO:Hid (oe=if 6 < np then 2 else 0):=HEO.out ha (by omega)
    go_wp2_with (go_at_call 14;refine (isAddress_any _ _).mono ?_;rintro e w' ⟨rfl,rfl⟩;rw [ha])
    refine (HPT.out _ HV0.out).mono ?_
    rintro e w2 ⟨v2,rfl,g1,g2⟩
    have HBX:Hid (Below w.heap.size w w2):=HBZ.out.trans (g2.mono (by simp))
    have HSX:Hid (Sl w2 v2 pl):=own_names g1 HOK.out
    clear g1 g2
    obtain ⟨p2,c2,hv2,_⟩:=HSX.out
    rw [HPN.out] at hv2
    subst hv2
    by_cases h6:6 < np
    ·go_wp2_with fail
     go_ret2
     exact ⟨_,by rw [HO.out,if_pos h6];rfl,(by first | exact isSl_nil | exact Gw.isSl_of HSX.out | exact hsl3),HBX.out,fun h=>by rw [HO.out,if_pos h6] at h;cases h⟩
    ·go_wp2_with fail
     go_ret2
     exact ⟨_,by rw [HO.out,if_neg h6];rfl,(by first | exact isSl_nil | exact Gw.isSl_of HSX.out | exact hsl3),HBX.out,fun _=>HSX.out⟩
  ·have hr1:r=(p:Int):=hrp.1 rfl
   subst hr1
   have hp:p < ms.length:=(HAT.out.is.1 rfl).1
   obtain ⟨pa,ca,hva,_,hrow⟩:=HV0.out
   subst hva
   obtain ⟨b3,o3,hp3,hl3,hr3⟩:∃ b_1 off,pa=some ⟨b_1,off,none⟩∧b_1 < w.heap.size∧Row w b_1 off ms:=by
    obtain ⟨pa2,ca2,h1,_,h2⟩:=HV.out
    simp only [Value.slice.injEq] at h1
    obtain ⟨rfl,_,_⟩:=h1
    rcases h2 with h | h
    ·rw [h] at hp;simp at hp
    ·exact h
   subst hp3
   clear hrow
   have hr3':Row (w.alloc (.cells #[.string name,.int .i64 addr,.int .i64 1] 122)) b3 o3 ms:=hr3.later hb0 hl3
   obtain ⟨_,_,d2⟩:=hr3' p hp
   have hxv:(ms.getD p dm).version=V:=by rw [← HFT.out rfl];exact HVV.out
   rw [hxv] at d2
   have HBZ:Hid (Below w.heap.size w (w.alloc (.cells #[.string name,.int .i64 addr,.int .i64 (V+1)] 122))):=(Below.refl _ _).alloc (Nat.le_refl _) _
   have HVZ:Hid (Sl (w.alloc (.cells #[.string name,.int .i64 addr,.int .i64 (V+1)] 122)) (.slice (some ⟨b3,o3,none⟩) ms.length ca) ms):=HV.out.below HBZ.out
   clear hb0 hrp hr3 hr3' hxv
   rcases ha:within addr 0 4294967295 with _ | _
   ·have HO:Hid (oe=3):=HEA.out ha
    go_wp2_with (go_at_call 14;refine (isAddress_any _ _).mono ?_;rintro e w' ⟨rfl,rfl⟩;rw [ha])
    go_ret2
    exact ⟨_,by rw [HO.out];rfl,(by first | exact isSl_nil | exact Gw.isSl_of HSX.out | exact hsl3),HBZ.out,fun h=>by rw [HO.out] at h;cases h⟩
   ·by_cases hbig:V+1≤1000000
    ·have HO:Hid (oe=if 6 < np then 2 else 0):=HEO.out ha hbig
     go_wp2_with (go_at_call 14;refine (isAddress_any _ _).mono ?_;rintro e w' ⟨rfl,rfl⟩;rw [ha])
     refine (HPT.out _ HVZ.out).mono ?_
     rintro e w2 ⟨v2,rfl,g1,g2⟩
     have HBX:Hid (Below w.heap.size w w2):=HBZ.out.trans (g2.mono (by simp))
     have HSX:Hid (Sl w2 v2 pl):=own_names g1 HOK.out
     clear g1 g2
     obtain ⟨p2,c2,hv2,_⟩:=HSX.out
     rw [HPN.out] at hv2
     subst hv2
     by_cases h6:6 < np
     ·go_wp2_with fail
      go_ret2
      exact ⟨_,by rw [HO.out,if_pos h6];rfl,(by first | exact isSl_nil | exact Gw.isSl_of HSX.out | exact hsl3),HBX.out,fun h=>by rw [HO.out,if_pos h6] at h;cases h⟩
     ·go_wp2_with fail
      go_ret2
      exact ⟨_,by rw [HO.out,if_neg h6];rfl,(by first | exact isSl_nil | exact Gw.isSl_of HSX.out | exact hsl3),HBX.out,fun _=>HSX.out⟩
    ·have HO:Hid (oe=3):=HEV.out ha (by omega)
     go_wp2_with (go_at_call 14;refine (isAddress_any _ _).mono ?_;rintro e w' ⟨rfl,rfl⟩;rw [ha])
     go_ret2
     exact ⟨_,by rw [HO.out];rfl,(by first | exact isSl_nil | exact Gw.isSl_of HSX.out | exact hsl3),HBZ.out,fun h=>by rw [HO.out] at h;cases h⟩
end Gw
end Go.Proofs.YtikgjgmgbfjcgaaGreat
