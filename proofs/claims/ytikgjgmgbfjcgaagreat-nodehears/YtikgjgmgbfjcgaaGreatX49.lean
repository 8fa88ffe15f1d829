import Derived.Test.YtikgjgmgbfjcgaaGreatX44
import Derived.Test.YtikgjgmgbfjcgaaGreatX42
import Derived.Test.YtikgjgmgbfjcgaaGreatX12
import Derived.Test.YtikgjgmgbfjcgaaGreatX33
import Derived.Test.YtikgjgmgbfjcgaaGreatX29
import Derived.Test.YtikgjgmgbfjcgaaGreatX47
import Derived.Test.YtikgjgmgbfjcgaaGreatX43
import Derived.Test.YtikgjgmgbfjcgaaGreatX48
import Derived.Test.YtikgjgmgbfjcgaaGreatX39
import Derived.Test.YtikgjgmgbfjcgaaGreatX38
namespace Go.Proofs.YtikgjgmgbfjcgaaGreat
open Go.RowKit
set_option maxHeartbeats 51200000 in
set_option maxRecDepth 100000 in
theorem spreadOf_is (n:Nd) (m:Mem) (A:Array Value) (w:World) (h:IsNd w n A) (he:n.e=0) (hme:m.e=0) (hsz:m.name.size≤maxLen) :
 Calls Tryz.prog 69 #[.agg A,.agg #[.string m.name,.int .i64 m.state,.int .i64 m.life,.int .i64 m.addr,.bool m.server]] w fun e w'=>∃ C n1,e=.returned (.tuple #[.agg C,.int .i64 (spE n m)])∧IsNd w' n1 C∧(spE n m=0→n1=spN n m)∧Below w.heap.size w w':=by
 have hp:=Nd.parts (Nd.e_zero he).1
 have hrise:=(chk_zero hp.ms).2.1
 have HN0:Hid (IsNd w n A):=h
 obtain ⟨vm,vr,vs,vg,vw,hA,hi⟩:=h
 obtain ⟨t0a,t1a,p2a,k2a,c2a,p3a,k3a,c3a,p4a,k4a,c4a,p5a,k5a,c5a,i6a,i7a,i8a,i9a,i10a,p11a,k11a,c11a,rfl⟩:=HN0.out.letters
 simp only [ndV,ndA,Array.mk.injEq,List.cons.injEq,and_true] at hA
 obtain ⟨e0,e1,e2,e3,e4,e5,e6,e7,e8,e9,e10,e11⟩:=hA
 subst e2 e3 e4 e5 e11
 injection e0 with e0
 injection e1 with e1
 injection e6 with _ e6
 injection e7 with _ e7
 injection e8 with _ e8
 injection e9 with _ e9
 injection e10 with _ e10
 simp only [ndV] at HN0 ⊢
 have HHM:Hid (∀ W,Below w.heap.size w W→Calls Tryz.prog 121 #[.slice p2a k2a c2a,.agg #[.string m.name,.int .i64 m.state,.int .i64 m.life,.int .i64 m.addr,.bool m.server]] W fun e w'=>∃ a c,e=.returned (.tuple #[.slice a (hearL n.ms m).length c,.bool (chgB n.ms m)])∧Sl w' (.slice a (hearL n.ms m).length c) (hearL n.ms m)∧Below W.heap.size W w'):=fun W hW=>by
  refine (hearMember_any n.ms _ m W (hi.ms.below hW) (by have:=(chk_zero hp.ms).1;omega) hrise hsz).mono ?_
  rintro e w' ⟨v',r,rfl,hs,hr,hb⟩
  have hc:r=chgB n.ms m:=by
   have h2:=chgB_iff hrise m
   rcases r with _ | _<;>rcases hcc:chgB n.ms m with _ | _
   ·rfl
   ·exact absurd (hr.2 (h2.1 hcc)) (by simp)
   ·have h3:=h2.2 (hr.1 rfl);rw [hcc] at h3;cases h3
   ·rfl
  have hs2:=hs
  obtain ⟨a,c,rfl,_⟩:=hs2
  exact ⟨a,c,by rw [hc],hs,hb⟩
 have HPR:Hid (∀ W,Below w.heap.size w W→Calls Tryz.prog 126 #[.slice p3a k3a c3a,.agg #[.string m.name,.int .i64 m.state,.int .i64 m.life,.int .i64 m.addr,.bool m.server]] W fun e w'=>∃ a k c,e=.returned (.tuple #[.slice a k c,.int .i64 (putE n.rs m)])∧Below W.heap.size W w'∧RSl w' (.slice a k c) (if putE n.rs m=0 then putL n.rs m else [])):=fun W hW=>putDoc_any n.rs _ m W (hi.rs.below hW) hsz hp.rs
 have HFI:Hid (∀ W la lk lc ra rk rc L R,Below w.heap.size w W→Sl W (.slice la lk lc) L→RSl W (.slice ra rk rc) R→IsNd W { n with ms:=L,rs:=R } #[.string t0a,.string t1a,.slice la lk lc,.slice ra rk rc,.slice p4a k4a c4a,.slice p5a k5a c5a,.int .i64 i6a,.int .i64 i7a,.int .i64 i8a,.int .i64 i9a,.int .i64 i10a,.slice p11a k11a c11a]):=fun W la lk lc ra rk rc L R hW h1 h2=>by
  have hI:=hi.below hW
  refine ⟨.slice la lk lc,.slice ra rk rc,.slice p4a k4a c4a,.slice p5a k5a c5a,.slice p11a k11a c11a,?_,?_⟩
  ·simp only [ndA,e0,e1,e6,e7,e8,e9,e10]
  ·exact ⟨h1,h2,hI.sv,hI.gw,hI.wh,hI.name,hI.centre⟩
 have HJE:Hid (joinE n.ms [m]=if 20 < (hearL n.ms m).length then 2 else 0):=joinE_good hp.ms (by rw [chk_one];exact hme)
 have HX1:Hid (20 < (hearL n.ms m).length→spE n m=2):=fun h=>by
  have h1:sp1E n m=2:=by unfold sp1E;rw [HJE.out,if_pos h];rfl
  unfold spE;rw [h1];rfl
 have HX2:Hid (¬ 20 < (hearL n.ms m).length→chgB n.ms m=false→spE n m=0∧spN n m=n):=fun h hc=>by
  have h1:sp1E n m=0:=by unfold sp1E;rw [HJE.out,if_neg h,if_pos rfl,hc];rfl
  have h2:hearL n.ms m=n.ms:=by
   by_cases h3:hearL n.ms m=n.ms
   ·exact h3
   ·have:=(chgB_iff hrise m).2 h3;rw [hc] at this;cases this
  have h3:sp1 n m=n:=by unfold sp1;rw [hc,h2];rfl
  unfold spE spN;rw [h1,h3]
  by_cases h4:m.name=n.name
  ·rw [if_pos rfl,if_pos h4,if_pos h4];exact rf_none he
  ·rw [if_pos rfl,if_neg h4,if_neg h4];exact ⟨rfl,rfl⟩
 have HX3:Hid (¬ 20 < (hearL n.ms m).length→chgB n.ms m=true→putE n.rs m≠0→spE n m=putE n.rs m):=fun h hc hq=>by
  have h1:sp1E n m=putE n.rs m:=by unfold sp1E;rw [HJE.out,if_neg h,if_pos rfl,hc];rfl
  unfold spE;rw [h1,if_neg hq]
 have HX4:Hid (¬ 20 < (hearL n.ms m).length→chgB n.ms m=true→putE n.rs m=0→sp1 n m={ n with ms:=hearL n.ms m,rs:=putL n.rs m }∧chk (hearL n.ms m)=0∧chkR (putL n.rs m)=0∧(m.name≠n.name→spE n m=0∧spN n m=sp1 n m)∧(m.name=n.name→spE n m=rfE (sp1 n m)∧spN n m=rfN (sp1 n m))):=fun h hc hq=>by
  have h1:sp1E n m=0:=by unfold sp1E;rw [HJE.out,if_neg h,if_pos rfl,hc];exact hq
  have h2:=sp1_ok hp.ms hp.rs hme h1
  have h3:sp1 n m={ n with ms:=hearL n.ms m,rs:=putL n.rs m }:=by unfold sp1;rw [hc];rfl
  rw [h3] at h2
  refine ⟨h3,h2.1,h2.2,fun h4=>?_,fun h4=>?_⟩
  ·unfold spE spN;rw [h1,if_pos rfl,if_neg h4,if_neg h4];exact ⟨rfl,rfl⟩
  ·unfold spE spN;rw [h1,if_pos rfl,if_pos h4,if_pos h4];exact ⟨rfl,rfl⟩
 have HX5:Hid ((refE (hearL n.ms m) (posM (hearL n.ms m) n.name) (isM (hearL n.ms m) n.name)≠0→rfE { n with ms:=hearL n.ms m,rs:=putL n.rs m }=refE (hearL n.ms m) (posM (hearL n.ms m) n.name) (isM (hearL n.ms m) n.name))∧(refE (hearL n.ms m) (posM (hearL n.ms m) n.name) (isM (hearL n.ms m) n.name)=0→refR (hearL n.ms m) (posM (hearL n.ms m) n.name) (isM (hearL n.ms m) n.name)=false→rfE { n with ms:=hearL n.ms m,rs:=putL n.rs m }=0∧rfN { n with ms:=hearL n.ms m,rs:=putL n.rs m }={ n with ms:=hearL n.ms m,rs:=putL n.rs m })∧(refE (hearL n.ms m) (posM (hearL n.ms m) n.name) (isM (hearL n.ms m) n.name)=0→refR (hearL n.ms m) (posM (hearL n.ms m) n.name) (isM (hearL n.ms m) n.name)=true→rfE { n with ms:=hearL n.ms m,rs:=putL n.rs m }=putE (putL n.rs m) (mOf (refL (hearL n.ms m) (posM (hearL n.ms m) n.name) (isM (hearL n.ms m) n.name)) n.name)∧rfN { n with ms:=hearL n.ms m,rs:=putL n.rs m }={ n with ms:=refL (hearL n.ms m) (posM (hearL n.ms m) n.name) (isM (hearL n.ms m) n.name),rs:=putL (putL n.rs m) (mOf (refL (hearL n.ms m) (posM (hearL n.ms m) n.name) (isM (hearL n.ms m) n.name)) n.name) })):=by
  refine ⟨fun h=>if_neg h,fun h h2=>⟨?_,?_⟩,fun h h2=>⟨?_,?_⟩⟩
  ·exact (if_pos h).trans (if_neg (by show ¬ refR (hearL n.ms m) (posM (hearL n.ms m) n.name) (isM (hearL n.ms m) n.name)=true;rw [h2];simp))
  ·have h3:refL (hearL n.ms m) (posM (hearL n.ms m) n.name) (isM (hearL n.ms m) n.name)=hearL n.ms m:=if_neg (by rw [h2];simp)
   refine (if_neg (by show ¬ refR (hearL n.ms m) (posM (hearL n.ms m) n.name) (isM (hearL n.ms m) n.name)=true;rw [h2];simp)).trans ?_
   show ({ n with ms:=refL (hearL n.ms m) (posM (hearL n.ms m) n.name) (isM (hearL n.ms m) n.name),rs:=putL n.rs m }:Nd)=_
   rw [h3]
  ·exact (if_pos h).trans (if_pos h2)
  ·exact if_pos h2
 have HRF:Hid (chk (hearL n.ms m)=0→∀ W v,Sl W v (hearL n.ms m)→Calls Tryz.prog 127 #[v,.string t0a] W fun e w'=>RefuteOfSays (hearL n.ms m) (posM (hearL n.ms m) n.name) (isM (hearL n.ms m) n.name) W e w'):=fun hc W v hv=>by
  rw [e0]
  exact refuteOf_any _ v n.name W hv hc _ _ (at_pos (chk_zero hc).2.1 n.name)
 have HRQ:Hid (chk (hearL n.ms m)=0→refR (hearL n.ms m) (posM (hearL n.ms m) n.name) (isM (hearL n.ms m) n.name)=true→(∃ q,fstM (refL (hearL n.ms m) (posM (hearL n.ms m) n.name) (isM (hearL n.ms m) n.name)) n.name=some q)∧(mOf (refL (hearL n.ms m) (posM (hearL n.ms m) n.name) (isM (hearL n.ms m) n.name)) n.name).e=0∧(mOf (refL (hearL n.ms m) (posM (hearL n.ms m) n.name) (isM (hearL n.ms m) n.name)) n.name).name.size≤maxLen∧(refL (hearL n.ms m) (posM (hearL n.ms m) n.name) (isM (hearL n.ms m) n.name)).length≤20):=fun hc hR=>by
  obtain ⟨f1,f2,f3,f4,f5,f6,f7⟩:=rf_facts (n:={ n with ms:=hearL n.ms m,rs:=putL n.rs m }) hc hR
  have hl:=(chk_zero hc).1
  have h1:At (refL (hearL n.ms m) (posM (hearL n.ms m) n.name) (isM (hearL n.ms m) n.name)) n.name (posM (hearL n.ms m) n.name) true:=by
   have h2:=at_set f2 (x:=liveAgain ((hearL n.ms m).getD (posM (hearL n.ms m) n.name) dm)) f6
   have h3:(refL (hearL n.ms m) (posM (hearL n.ms m) n.name) (isM (hearL n.ms m) n.name))=(hearL n.ms m).set (posM (hearL n.ms m) n.name) (liveAgain ((hearL n.ms m).getD (posM (hearL n.ms m) n.name) dm)):=f3
   rw [h3];exact h2
  refine ⟨⟨_,fst_some_of h1⟩,f5,?_,?_⟩
  ·have h4:mOf (refL (hearL n.ms m) (posM (hearL n.ms m) n.name) (isM (hearL n.ms m) n.name)) n.name=liveAgain ((hearL n.ms m).getD (posM (hearL n.ms m) n.name) dm):=f4
   rw [h4]
   show ((hearL n.ms m).getD (posM (hearL n.ms m) n.name) dm).name.size≤maxLen
   have f6':((hearL n.ms m).getD (posM (hearL n.ms m) n.name) dm).name=n.name:=f6
   rw [f6'];exact hi.name
  ·have h3:(refL (hearL n.ms m) (posM (hearL n.ms m) n.name) (isM (hearL n.ms m) n.name))=(hearL n.ms m).set (posM (hearL n.ms m) n.name) (liveAgain ((hearL n.ms m).getD (posM (hearL n.ms m) n.name) dm)):=f3
   rw [h3,List.length_set];exact hl
 have HMA:Hid (chk (hearL n.ms m)=0→refR (hearL n.ms m) (posM (hearL n.ms m) n.name) (isM (hearL n.ms m) n.name)=true→∀ W v,Sl W v (refL (hearL n.ms m) (posM (hearL n.ms m) n.name) (isM (hearL n.ms m) n.name))→Calls Tryz.prog 52 #[v,.string t0a] W fun e w'=>∃ k:Nat,e=.returned (.int .i64 k)∧k < (refL (hearL n.ms m) (posM (hearL n.ms m) n.name) (isM (hearL n.ms m) n.name)).length∧(refL (hearL n.ms m) (posM (hearL n.ms m) n.name) (isM (hearL n.ms m) n.name)).getD k dm=mOf (refL (hearL n.ms m) (posM (hearL n.ms m) n.name) (isM (hearL n.ms m) n.name)) n.name∧w'=W):=fun hc hR W v hv=>by
  obtain ⟨⟨q,hq⟩,_,_,hl⟩:=HRQ.out hc hR
  rw [e0]
  refine (memAt_any _ v n.name W hv (by omega)).mono ?_
  rintro e w' ⟨r,rfl,ha,rfl⟩
  rcases ha.out with ⟨k,hk,rfl,hf⟩ | ⟨_,hf⟩
  ·exact ⟨k,rfl,hk,(mOf_some hf).symm,rfl⟩
  ·rw [hq] at hf;cases hf
 have HP2:Hid (chk (hearL n.ms m)=0→chkR (putL n.rs m)=0→refR (hearL n.ms m) (posM (hearL n.ms m) n.name) (isM (hearL n.ms m) n.name)=true→∀ W v,RSl W v (putL n.rs m)→Calls Tryz.prog 126 #[v,.agg #[.string (mOf (refL (hearL n.ms m) (posM (hearL n.ms m) n.name) (isM (hearL n.ms m) n.name)) n.name).name,.int .i64 (mOf (refL (hearL n.ms m) (posM (hearL n.ms m) n.name) (isM (hearL n.ms m) n.name)) n.name).state,.int .i64 (mOf (refL (hearL n.ms m) (posM (hearL n.ms m) n.name) (isM (hearL n.ms m) n.name)) n.name).life,.int .i64 (mOf (refL (hearL n.ms m) (posM (hearL n.ms m) n.name) (isM (hearL n.ms m) n.name)) n.name).addr,.bool (mOf (refL (hearL n.ms m) (posM (hearL n.ms m) n.name) (isM (hearL n.ms m) n.name)) n.name).server]] W fun e w'=>∃ a k c,e=.returned (.tuple #[.slice a k c,.int .i64 (putE (putL n.rs m) (mOf (refL (hearL n.ms m) (posM (hearL n.ms m) n.name) (isM (hearL n.ms m) n.name)) n.name))])∧Below W.heap.size W w'∧RSl w' (.slice a k c) (if putE (putL n.rs m) (mOf (refL (hearL n.ms m) (posM (hearL n.ms m) n.name) (isM (hearL n.ms m) n.name)) n.name)=0 then putL (putL n.rs m) (mOf (refL (hearL n.ms m) (posM (hearL n.ms m) n.name) (isM (hearL n.ms m) n.name)) n.name) else [])):=fun hc hr hR W v hv=>putDoc_any _ v _ W hv (HRQ.out hc hR).2.2.1 hr
 have HRN:Hid (chk (hearL n.ms m)=0→refR (hearL n.ms m) (posM (hearL n.ms m) n.name) (isM (hearL n.ms m) n.name)=true→refL (hearL n.ms m) (posM (hearL n.ms m) n.name) (isM (hearL n.ms m) n.name)≠[]):=fun hc hR e=>by
  obtain ⟨⟨q,hq⟩,_⟩:=HRQ.out hc hR
  rw [e] at hq
  cases hq
 clear HRQ hi hp hrise
 have HMN:Hid (m.name=n.name↔m.name=t0a):=by rw [e0];exact Iff.rfl
 generalize spE n m=SE at *
 generalize spN n m=SN at *
 have HRFX:Hid (chk (hearL n.ms m)=0→∀ W v,Sl W v (hearL n.ms m)→Calls Tryz.prog 127 #[v,.string t0a] W fun e w'=>∃ v':Value,e=.returned (.tuple #[v',.bool (refR (hearL n.ms m) (posM (hearL n.ms m) n.name) (isM (hearL n.ms m) n.name)),.int .i64 (refE (hearL n.ms m) (posM (hearL n.ms m) n.name) (isM (hearL n.ms m) n.name))])∧Below W.heap.size W w'∧(refE (hearL n.ms m) (posM (hearL n.ms m) n.name) (isM (hearL n.ms m) n.name)=0→Sl w' v' (refL (hearL n.ms m) (posM (hearL n.ms m) n.name) (isM (hearL n.ms m) n.name)))):=HRF.out
 clear HRF
 generalize hq1:mOf (refL (hearL n.ms m) (posM (hearL n.ms m) n.name) (isM (hearL n.ms m) n.name)) n.name=M2 at *
 generalize hq2:refL (hearL n.ms m) (posM (hearL n.ms m) n.name) (isM (hearL n.ms m) n.name)=RL at *
 generalize hq3:refR (hearL n.ms m) (posM (hearL n.ms m) n.name) (isM (hearL n.ms m) n.name)=RR at *
 generalize hq4:refE (hearL n.ms m) (posM (hearL n.ms m) n.name) (isM (hearL n.ms m) n.name)=RE at *
 clear hq1 hq2 hq3 hq4
 have HRF2:Hid (chk (hearL n.ms m)=0→∀ W v,Sl W v (hearL n.ms m)→Calls Tryz.prog 127 #[v,.string t0a] W fun e w'=>∃ v':Value,e=.returned (.tuple #[v',.bool RR,.int .i64 RE])∧Below W.heap.size W w'∧(RE=0→Sl w' v' RL)):=HRFX.out
 clear HRFX
 have HY4:Hid (¬ 20 < (hearL n.ms m).length→chgB n.ms m=true→putE n.rs m=0→chk (hearL n.ms m)=0∧chkR (putL n.rs m)=0∧(m.name≠t0a→SE=0∧SN={ n with ms:=hearL n.ms m,rs:=putL n.rs m })∧(m.name=t0a→(RE≠0→SE=RE)∧(RE=0→RR=false→SE=0∧SN={ n with ms:=hearL n.ms m,rs:=putL n.rs m })∧(RE=0→RR=true→SE=putE (putL n.rs m) M2∧SN={ n with ms:=RL,rs:=putL (putL n.rs m) M2 }))):=fun a b c=>by
  obtain ⟨g1,g2,g3,g4,g5⟩:=HX4.out a b c
  obtain ⟨k1,k2,k3⟩:=HX5.out
  rw [g1] at g4 g5
  refine ⟨g2,g3,fun h=>g4 (fun e=>h (HMN.out.1 e)),fun h=>?_⟩
  obtain ⟨g6,g7⟩:=g5 (HMN.out.2 h)
  refine ⟨fun h1=>g6.trans (k1 h1),fun h1 h2=>⟨g6.trans (k2 h1 h2).1,g7.trans (k2 h1 h2).2⟩,fun h1 h2=>⟨g6.trans (k3 h1 h2).1,g7.trans (k3 h1 h2).2⟩⟩
 clear HX4 HX5 HMN HJE
 generalize putE (putL n.rs m) M2=PE2 at *
 generalize putL (putL n.rs m) M2=PL2 at *
 generalize putL n.rs m=PL at *
 generalize putE n.rs m=PE at *
 generalize chgB n.ms m=chg at *
 generalize hearL n.ms m=L1 at *
 clear e0 e1 e6 e7 e8 e9 e10 he hme
 obtain ⟨mn,st,lf,ad,sb⟩:=m
 simp only at HHM HPR HY4 ⊢
 obtain ⟨W0,hW0⟩:∃ W0,W0=((w.alloc (.cells #[.string t0a,.string t1a,.slice p2a k2a c2a,.slice p3a k3a c3a,.slice p4a k4a c4a,.slice p5a k5a c5a,.int .i64 i6a,.int .i64 i7a,.int .i64 i8a,.int .i64 i9a,.int .i64 i10a,.slice p11a k11a c11a] 30)).alloc (.cells #[.string mn,.int .i64 st,.int .i64 lf,.int .i64 ad,.bool sb] 37)).alloc (.cells #[.string ⟨#[]⟩,.string ⟨#[]⟩,.slice none 0 0,.slice none 0 0,.slice none 0 0,.slice none 0 0,.int .i64 0,.int .i64 0,.int .i64 0,.int .i64 0,.int .i64 0,.slice none 0 0] 30):=⟨_,rfl⟩
 have hbw_W0:Below w.heap.size w W0:=by rw [hW0];exact (((Below.refl _ _).alloc (Nat.le_refl _) _).alloc (by simp) _).alloc (by simp<;>omega) _
 have hg_W0:W0.heap[w.heap.size]?=some (.cells #[.string t0a,.string t1a,.slice p2a k2a c2a,.slice p3a k3a c3a,.slice p4a k4a c4a,.slice p5a k5a c5a,.int .i64 i6a,.int .i64 i7a,.int .i64 i8a,.int .i64 i9a,.int .i64 i10a,.slice p11a k11a c11a] 30 (0,0)):=by rw [hW0,Below.heap_alloc _ _ _ (by simp<;>omega),Below.heap_alloc _ _ _ (by simp)];exact heap_alloc_new w _
 have hm_W0:W0.heap[w.heap.size+1]?=some (.cells #[.string mn,.int .i64 st,.int .i64 lf,.int .i64 ad,.bool sb] 37 (0,0)):=by
  have h:=heap_alloc_new (w.alloc (.cells #[.string t0a,.string t1a,.slice p2a k2a c2a,.slice p3a k3a c3a,.slice p4a k4a c4a,.slice p5a k5a c5a,.int .i64 i6a,.int .i64 i7a,.int .i64 i8a,.int .i64 i9a,.int .i64 i10a,.slice p11a k11a c11a] 30)) (.cells #[.string mn,.int .i64 st,.int .i64 lf,.int .i64 ad,.bool sb] 37)
  rw [hW0,Below.heap_alloc _ _ _ (by simp)];simpa using h
 have hz_W0:W0.heap[w.heap.size+1+1]?=some (.cells #[.string ⟨#[]⟩,.string ⟨#[]⟩,.slice none 0 0,.slice none 0 0,.slice none 0 0,.slice none 0 0,.int .i64 0,.int .i64 0,.int .i64 0,.int .i64 0,.int .i64 0,.slice none 0 0] 30 (0,0)):=by
  have h:=heap_alloc_new ((w.alloc (.cells #[.string t0a,.string t1a,.slice p2a k2a c2a,.slice p3a k3a c3a,.slice p4a k4a c4a,.slice p5a k5a c5a,.int .i64 i6a,.int .i64 i7a,.int .i64 i8a,.int .i64 i9a,.int .i64 i10a,.slice p11a k11a c11a] 30)).alloc (.cells #[.string mn,.int .i64 st,.int .i64 lf,.int .i64 ad,.bool sb] 37)) (.cells #[.string ⟨#[]⟩,.string ⟨#[]⟩,.slice none 0 0,.slice none 0 0,.slice none 0 0,.slice none 0 0,.int .i64 0,.int .i64 0,.int .i64 0,.int .i64 0,.int .i64 0,.slice none 0 0] 30)
  rw [hW0];simpa using h
 have hs_W0:w.heap.size+1+1 < W0.heap.size:=by rw [hW0];simp
 obtain ⟨a0,a1,a2,a3,a4,a5,a6,a7,a8,a9,a10,a11⟩:=cells12 hg_W0
 obtain ⟨b0,b1,b2,b3,b4⟩:=cells5 hm_W0
 have HW0:Hid (Below w.heap.size w W0∧W0.heap[w.heap.size]?=some (.cells #[.string t0a,.string t1a,.slice p2a k2a c2a,.slice p3a k3a c3a,.slice p4a k4a c4a,.slice p5a k5a c5a,.int .i64 i6a,.int .i64 i7a,.int .i64 i8a,.int .i64 i9a,.int .i64 i10a,.slice p11a k11a c11a] 30 (0,0))∧W0.heap[w.heap.size+1]?=some (.cells #[.string mn,.int .i64 st,.int .i64 lf,.int .i64 ad,.bool sb] 37 (0,0))∧W0.heap[w.heap.size+1+1]?=some (.cells #[.string ⟨#[]⟩,.string ⟨#[]⟩,.slice none 0 0,.slice none 0 0,.slice none 0 0,.slice none 0 0,.int .i64 0,.int .i64 0,.int .i64 0,.int .i64 0,.int .i64 0,.slice none 0 0] 30 (0,0))):=⟨hbw_W0,hg_W0,hm_W0,hz_W0⟩
 clear hbw_W0 hg_W0 hm_W0 hz_W0
 go_enter Tryz.func69,Tryz.ntmps69
 go_upto_region 1 with fail
 rw [← hW0]
 clear hW0
 go_wp2_with fail
 refine (HHM.out W0 HW0.out.1).mono ?_
 rintro e w1 ⟨la,lc,rfl,hsl,hb1⟩
 obtain ⟨hbw_W0,hg_W0,hm_W0,hz_W0⟩:=HW0.out
 have hg_w1:w1.heap[w.heap.size]?=some (.cells #[.string t0a,.string t1a,.slice p2a k2a c2a,.slice p3a k3a c3a,.slice p4a k4a c4a,.slice p5a k5a c5a,.int .i64 i6a,.int .i64 i7a,.int .i64 i8a,.int .i64 i9a,.int .i64 i10a,.slice p11a k11a c11a] 30 (0,0)):=(hb1.block _ (by omega)).trans hg_W0
 have hz_w1:w1.heap[w.heap.size+1+1]?=some (.cells #[.string ⟨#[]⟩,.string ⟨#[]⟩,.slice none 0 0,.slice none 0 0,.slice none 0 0,.slice none 0 0,.int .i64 0,.int .i64 0,.int .i64 0,.int .i64 0,.int .i64 0,.slice none 0 0] 30 (0,0)):=(hb1.block _ (by omega)).trans hz_W0
 have hm_w1:w1.heap[w.heap.size+1]?=some (.cells #[.string mn,.int .i64 st,.int .i64 lf,.int .i64 ad,.bool sb] 37 (0,0)):=(hb1.block _ (by omega)).trans hm_W0
 have hbw_w1:Below w.heap.size w w1:=hbw_W0.trans (hb1.mono hbw_W0.size)
 have hs_w1:w.heap.size+1+1 < w1.heap.size:=by have:=hb1.size;omega
 clear a0 a1 a2 a3 a4 a5 a6 a7 a8 a9 a10 a11 b0 b1 b2 b3 b4 hbw_W0 hg_W0 hm_W0 hz_W0 HHM HW0
 obtain ⟨a0,a1,a2,a3,a4,a5,a6,a7,a8,a9,a10,a11⟩:=cells12 hg_w1
 obtain ⟨z0,z1,z2,z3,z4,z5,z6,z7,z8,z9,z10,z11⟩:=cells12 hz_w1
 obtain ⟨zz0,zz1,zz2,zz3,zz4,zz5,zz6,zz7,zz8,zz9,zz10,zz11⟩:=frz12 hz_w1
 obtain ⟨b0,b1,b2,b3,b4⟩:=cells5 hm_w1
 have HSL:Hid (Sl w1 (.slice la L1.length lc) L1):=hsl
 have HW1:Hid (Below w.heap.size w w1∧w1.heap[w.heap.size]?=some (.cells #[.string t0a,.string t1a,.slice p2a k2a c2a,.slice p3a k3a c3a,.slice p4a k4a c4a,.slice p5a k5a c5a,.int .i64 i6a,.int .i64 i7a,.int .i64 i8a,.int .i64 i9a,.int .i64 i10a,.slice p11a k11a c11a] 30 (0,0))∧w1.heap[w.heap.size+1]?=some (.cells #[.string mn,.int .i64 st,.int .i64 lf,.int .i64 ad,.bool sb] 37 (0,0))∧w1.heap[w.heap.size+1+1]?=some (.cells #[.string ⟨#[]⟩,.string ⟨#[]⟩,.slice none 0 0,.slice none 0 0,.slice none 0 0,.slice none 0 0,.int .i64 0,.int .i64 0,.int .i64 0,.int .i64 0,.int .i64 0,.slice none 0 0] 30 (0,0))):=⟨hbw_w1,hg_w1,hm_w1,hz_w1⟩
 have HN1:Hid (IsNd w1 n #[.string t0a,.string t1a,.slice p2a k2a c2a,.slice p3a k3a c3a,.slice p4a k4a c4a,.slice p5a k5a c5a,.int .i64 i6a,.int .i64 i7a,.int .i64 i8a,.int .i64 i9a,.int .i64 i10a,.slice p11a k11a c11a]):=HN0.out.below hbw_w1
 clear hsl hb1 hbw_w1 hg_w1 hm_w1 hz_w1 HN0
 by_cases h20:20 < L1.length
 ·have HSE:Hid (SE=2):=HX1.out h20
  have h20':(20:Int) < (L1.length:Int):=by omega
  clear b0 b1 b2 b3 b4
  obtain ⟨WF,hWF⟩:∃ WF,WF=((((((((((((w1.setCell ⟨w.heap.size+1+1,0,none⟩ (.string t0a)).setCell ⟨w.heap.size+1+1,1,none⟩ (.string t1a)).setCell ⟨w.heap.size+1+1,2,none⟩ (.slice p2a k2a c2a)).setCell ⟨w.heap.size+1+1,3,none⟩ (.slice p3a k3a c3a)).setCell ⟨w.heap.size+1+1,4,none⟩ (.slice p4a k4a c4a)).setCell ⟨w.heap.size+1+1,5,none⟩ (.slice p5a k5a c5a)).setCell ⟨w.heap.size+1+1,6,none⟩ (.int .i64 i6a)).setCell ⟨w.heap.size+1+1,7,none⟩ (.int .i64 i7a)).setCell ⟨w.heap.size+1+1,8,none⟩ (.int .i64 i8a)).setCell ⟨w.heap.size+1+1,9,none⟩ (.int .i64 i9a)).setCell ⟨w.heap.size+1+1,10,none⟩ (.int .i64 i10a)).setCell ⟨w.heap.size+1+1,11,none⟩ (.slice p11a k11a c11a)):=⟨_,rfl⟩
  have hF:WF=setAll (w.heap.size+1+1) [.string t0a,.string t1a,.slice p2a k2a c2a,.slice p3a k3a c3a,.slice p4a k4a c4a,.slice p5a k5a c5a,.int .i64 i6a,.int .i64 i7a,.int .i64 i8a,.int .i64 i9a,.int .i64 i10a,.slice p11a k11a c11a] 0 w1:=by rw [hWF];simp only [setAll,Nat.zero_add,Nat.reduceAdd]
  have hzF:WF.heap[w.heap.size+1+1]?=some (.cells #[.string t0a,.string t1a,.slice p2a k2a c2a,.slice p3a k3a c3a,.slice p4a k4a c4a,.slice p5a k5a c5a,.int .i64 i6a,.int .i64 i7a,.int .i64 i8a,.int .i64 i9a,.int .i64 i10a,.slice p11a k11a c11a] 30 (0,0)):=by rw [hF];exact setAll12 HW1.out.2.2.2 _ _ _ _ _ _ _ _ _ _ _ _
  have HBF:Hid (Below w.heap.size w WF):=by rw [hF];exact setAll_below (by omega) _ _ HW1.out.1
  have HIF:Hid (IsNd WF n #[.string t0a,.string t1a,.slice p2a k2a c2a,.slice p3a k3a c3a,.slice p4a k4a c4a,.slice p5a k5a c5a,.int .i64 i6a,.int .i64 i7a,.int .i64 i8a,.int .i64 i9a,.int .i64 i10a,.slice p11a k11a c11a]):=by rw [hF];exact (HN1.out).setAll (NBox.of HW1.out.2.2.2) _ _
  clear hF
  go_wp2_with fail
  rw [← hWF]
  clear hWF a0 a1 a2 a3 a4 a5 a6 a7 a8 a9 a10 a11 z0 zz0 z1 zz1 z2 zz2 z3 zz3 z4 zz4 z5 zz5 z6 zz6 z7 zz7 z8 zz8 z9 zz9 z10 zz10 z11 zz11
  obtain ⟨z0,z1,z2,z3,z4,z5,z6,z7,z8,z9,z10,z11⟩:=cells12 hzF
  refine bodyPost_ret (v:=.tuple #[.agg #[.string t0a,.string t1a,.slice p2a k2a c2a,.slice p3a k3a c3a,.slice p4a k4a c4a,.slice p5a k5a c5a,.int .i64 i6a,.int .i64 i7a,.int .i64 i8a,.int .i64 i9a,.int .i64 i10a,.slice p11a k11a c11a],.int .i64 2]) ?_ rfl ?_
  ·simp [results,Tryz.results69,go_sem,z0,z1,z2,z3,z4,z5,z6,z7,z8,z9,z10,z11]
  ·exact ⟨_,n,(by rw [HSE.out]),HIF.out,(fun h=>by rw [HSE.out] at h;cases h),HBF.out⟩
 have h20':¬ (20:Int) < (L1.length:Int):=by omega
 rcases hcg:chg with _ | _
 ·have HSE:=HX2.out h20 hcg
  subst hcg
  have HS1:Hid (SE=0):=HSE.1
  have HS2:Hid (SN=n):=HSE.2
  clear HSE h20 b0 b1 b2 b3 b4
  obtain ⟨WF,hWF⟩:∃ WF,WF=((((((((((((w1.setCell ⟨w.heap.size+1+1,0,none⟩ (.string t0a)).setCell ⟨w.heap.size+1+1,1,none⟩ (.string t1a)).setCell ⟨w.heap.size+1+1,2,none⟩ (.slice p2a k2a c2a)).setCell ⟨w.heap.size+1+1,3,none⟩ (.slice p3a k3a c3a)).setCell ⟨w.heap.size+1+1,4,none⟩ (.slice p4a k4a c4a)).setCell ⟨w.heap.size+1+1,5,none⟩ (.slice p5a k5a c5a)).setCell ⟨w.heap.size+1+1,6,none⟩ (.int .i64 i6a)).setCell ⟨w.heap.size+1+1,7,none⟩ (.int .i64 i7a)).setCell ⟨w.heap.size+1+1,8,none⟩ (.int .i64 i8a)).setCell ⟨w.heap.size+1+1,9,none⟩ (.int .i64 i9a)).setCell ⟨w.heap.size+1+1,10,none⟩ (.int .i64 i10a)).setCell ⟨w.heap.size+1+1,11,none⟩ (.slice p11a k11a c11a)):=⟨_,rfl⟩
  have hF:WF=setAll (w.heap.size+1+1) [.string t0a,.string t1a,.slice p2a k2a c2a,.slice p3a k3a c3a,.slice p4a k4a c4a,.slice p5a k5a c5a,.int .i64 i6a,.int .i64 i7a,.int .i64 i8a,.int .i64 i9a,.int .i64 i10a,.slice p11a k11a c11a] 0 w1:=by rw [hWF];simp only [setAll,Nat.zero_add,Nat.reduceAdd]
  have hzF:WF.heap[w.heap.size+1+1]?=some (.cells #[.string t0a,.string t1a,.slice p2a k2a c2a,.slice p3a k3a c3a,.slice p4a k4a c4a,.slice p5a k5a c5a,.int .i64 i6a,.int .i64 i7a,.int .i64 i8a,.int .i64 i9a,.int .i64 i10a,.slice p11a k11a c11a] 30 (0,0)):=by rw [hF];exact setAll12 HW1.out.2.2.2 _ _ _ _ _ _ _ _ _ _ _ _
  have HBF:Hid (Below w.heap.size w WF):=by rw [hF];exact setAll_below (by omega) _ _ HW1.out.1
  have HIF:Hid (IsNd WF n #[.string t0a,.string t1a,.slice p2a k2a c2a,.slice p3a k3a c3a,.slice p4a k4a c4a,.slice p5a k5a c5a,.int .i64 i6a,.int .i64 i7a,.int .i64 i8a,.int .i64 i9a,.int .i64 i10a,.slice p11a k11a c11a]):=by rw [hF];exact (HN1.out).setAll (NBox.of HW1.out.2.2.2) _ _
  clear hF
  go_wp2_with fail
  rw [← hWF]
  clear hWF a0 a1 a2 a3 a4 a5 a6 a7 a8 a9 a10 a11 z0 zz0 z1 zz1 z2 zz2 z3 zz3 z4 zz4 z5 zz5 z6 zz6 z7 zz7 z8 zz8 z9 zz9 z10 zz10 z11 zz11
  obtain ⟨z0,z1,z2,z3,z4,z5,z6,z7,z8,z9,z10,z11⟩:=cells12 hzF
  refine bodyPost_ret (v:=.tuple #[.agg #[.string t0a,.string t1a,.slice p2a k2a c2a,.slice p3a k3a c3a,.slice p4a k4a c4a,.slice p5a k5a c5a,.int .i64 i6a,.int .i64 i7a,.int .i64 i8a,.int .i64 i9a,.int .i64 i10a,.slice p11a k11a c11a],.int .i64 0]) ?_ rfl ?_
  ·simp [results,Tryz.results69,go_sem,z0,z1,z2,z3,z4,z5,z6,z7,z8,z9,z10,z11]
  ·exact ⟨_,n,(by rw [HS1.out]),HIF.out,(fun _=>HS2.out.symm),HBF.out⟩
 subst hcg
 clear a0 a1 a2 a3 a4 a5 a6 a7 a8 a9 a10 a11 z0 zz0 z1 zz1 z2 zz2 z3 zz3 z4 zz4 z5 zz5 z6 zz6 z7 zz7 z8 zz8 z9 zz9 z10 zz10 z11 zz11 b0 b1 b2 b3 b4
 obtain ⟨hbw_w1,hg_w1,hm_w1,hz_w1⟩:=HW1.out
 obtain ⟨a0,a1,a2,a3,a4,a5,a6,a7,a8,a9,a10,a11⟩:=cells12 hg_w1
 obtain ⟨b0,b1,b2,b3,b4⟩:=cells5 hm_w1
 clear hbw_w1 hg_w1 hm_w1 hz_w1
 go_wp2_with fail
 refine (HPR.out w1 HW1.out.1).mono ?_
 rintro e w2 ⟨ra,rk,rc,rfl,hb2,hrs⟩
 obtain ⟨hbw_w1,hg_w1,hm_w1,hz_w1⟩:=HW1.out
 have hg_w2:w2.heap[w.heap.size]?=some (.cells #[.string t0a,.string t1a,.slice p2a k2a c2a,.slice p3a k3a c3a,.slice p4a k4a c4a,.slice p5a k5a c5a,.int .i64 i6a,.int .i64 i7a,.int .i64 i8a,.int .i64 i9a,.int .i64 i10a,.slice p11a k11a c11a] 30 (0,0)):=(hb2.block _ (by omega)).trans hg_w1
 have hz_w2:w2.heap[w.heap.size+1+1]?=some (.cells #[.string ⟨#[]⟩,.string ⟨#[]⟩,.slice none 0 0,.slice none 0 0,.slice none 0 0,.slice none 0 0,.int .i64 0,.int .i64 0,.int .i64 0,.int .i64 0,.int .i64 0,.slice none 0 0] 30 (0,0)):=(hb2.block _ (by omega)).trans hz_w1
 have hm_w2:w2.heap[w.heap.size+1]?=some (.cells #[.string mn,.int .i64 st,.int .i64 lf,.int .i64 ad,.bool sb] 37 (0,0)):=(hb2.block _ (by omega)).trans hm_w1
 have hbw_w2:Below w.heap.size w w2:=hbw_w1.trans (hb2.mono hbw_w1.size)
 have hs_w2:w.heap.size+1+1 < w2.heap.size:=by have:=hb2.size;omega
 clear a0 a1 a2 a3 a4 a5 a6 a7 a8 a9 a10 a11 b0 b1 b2 b3 b4
 have HSL2:Hid (Sl w2 (.slice la L1.length lc) L1):=HSL.out.below hb2
 have HN2:Hid (IsNd w2 n #[.string t0a,.string t1a,.slice p2a k2a c2a,.slice p3a k3a c3a,.slice p4a k4a c4a,.slice p5a k5a c5a,.int .i64 i6a,.int .i64 i7a,.int .i64 i8a,.int .i64 i9a,.int .i64 i10a,.slice p11a k11a c11a]):=HN1.out.below hb2
 have HRS:Hid (RSl w2 (.slice ra rk rc) (if PE=0 then PL else [])):=hrs
 clear hrs hb2 hbw_w1 hg_w1 hm_w1 hz_w1 HW1 HN1 HSL HPR HX1 HX2
 by_cases hpe:PE=0
 rotate_left
 ·have HSE:Hid (SE=PE):=HX3.out h20 (by first | rfl | trivial) hpe
  have HPE:Hid (PE≠0):=hpe
  have hpe':(PE != 0)=true:=by simpa using hpe
  obtain ⟨a0,a1,a2,a3,a4,a5,a6,a7,a8,a9,a10,a11⟩:=cells12 hg_w2
  obtain ⟨z0,z1,z2,z3,z4,z5,z6,z7,z8,z9,z10,z11⟩:=cells12 hz_w2
  obtain ⟨zz0,zz1,zz2,zz3,zz4,zz5,zz6,zz7,zz8,zz9,zz10,zz11⟩:=frz12 hz_w2
  have HZ2:Hid (w2.heap[w.heap.size+1+1]?=some (.cells #[.string ⟨#[]⟩,.string ⟨#[]⟩,.slice none 0 0,.slice none 0 0,.slice none 0 0,.slice none 0 0,.int .i64 0,.int .i64 0,.int .i64 0,.int .i64 0,.int .i64 0,.slice none 0 0] 30 (0,0))):=hz_w2
  have HB2:Hid (Below w.heap.size w w2):=hbw_w2
  clear hpe hg_w2 hz_w2 hm_w2 hbw_w2
  obtain ⟨WF,hWF⟩:∃ WF,WF=((((((((((((w2.setCell ⟨w.heap.size+1+1,0,none⟩ (.string t0a)).setCell ⟨w.heap.size+1+1,1,none⟩ (.string t1a)).setCell ⟨w.heap.size+1+1,2,none⟩ (.slice p2a k2a c2a)).setCell ⟨w.heap.size+1+1,3,none⟩ (.slice p3a k3a c3a)).setCell ⟨w.heap.size+1+1,4,none⟩ (.slice p4a k4a c4a)).setCell ⟨w.heap.size+1+1,5,none⟩ (.slice p5a k5a c5a)).setCell ⟨w.heap.size+1+1,6,none⟩ (.int .i64 i6a)).setCell ⟨w.heap.size+1+1,7,none⟩ (.int .i64 i7a)).setCell ⟨w.heap.size+1+1,8,none⟩ (.int .i64 i8a)).setCell ⟨w.heap.size+1+1,9,none⟩ (.int .i64 i9a)).setCell ⟨w.heap.size+1+1,10,none⟩ (.int .i64 i10a)).setCell ⟨w.heap.size+1+1,11,none⟩ (.slice p11a k11a c11a)):=⟨_,rfl⟩
  have hF:WF=setAll (w.heap.size+1+1) [.string t0a,.string t1a,.slice p2a k2a c2a,.slice p3a k3a c3a,.slice p4a k4a c4a,.slice p5a k5a c5a,.int .i64 i6a,.int .i64 i7a,.int .i64 i8a,.int .i64 i9a,.int .i64 i10a,.slice p11a k11a c11a] 0 w2:=by rw [hWF];simp only [setAll,Nat.zero_add,Nat.reduceAdd]
  have hzF:WF.heap[w.heap.size+1+1]?=some (.cells #[.string t0a,.string t1a,.slice p2a k2a c2a,.slice p3a k3a c3a,.slice p4a k4a c4a,.slice p5a k5a c5a,.int .i64 i6a,.int .i64 i7a,.int .i64 i8a,.int .i64 i9a,.int .i64 i10a,.slice p11a k11a c11a] 30 (0,0)):=by rw [hF];exact setAll12 HZ2.out _ _ _ _ _ _ _ _ _ _ _ _
  have HBF:Hid (Below w.heap.size w WF):=by rw [hF];exact setAll_below (by omega) _ _ HB2.out
  have HIF:Hid (IsNd WF n #[.string t0a,.string t1a,.slice p2a k2a c2a,.slice p3a k3a c3a,.slice p4a k4a c4a,.slice p5a k5a c5a,.int .i64 i6a,.int .i64 i7a,.int .i64 i8a,.int .i64 i9a,.int .i64 i10a,.slice p11a k11a c11a]):=by rw [hF];exact (HN2.out).setAll (NBox.of HZ2.out) _ _
  clear hF
  go_wp2_with fail
  rw [← hWF]
  clear hWF a0 a1 a2 a3 a4 a5 a6 a7 a8 a9 a10 a11 z0 zz0 z1 zz1 z2 zz2 z3 zz3 z4 zz4 z5 zz5 z6 zz6 z7 zz7 z8 zz8 z9 zz9 z10 zz10 z11 zz11
  obtain ⟨z0,z1,z2,z3,z4,z5,z6,z7,z8,z9,z10,z11⟩:=cells12 hzF
  refine bodyPost_ret (v:=.tuple #[.agg #[.string t0a,.string t1a,.slice p2a k2a c2a,.slice p3a k3a c3a,.slice p4a k4a c4a,.slice p5a k5a c5a,.int .i64 i6a,.int .i64 i7a,.int .i64 i8a,.int .i64 i9a,.int .i64 i10a,.slice p11a k11a c11a],.int .i64 PE]) ?_ rfl ?_
  ·simp [results,Tryz.results69,go_sem,z0,z1,z2,z3,z4,z5,z6,z7,z8,z9,z10,z11]
  ·exact ⟨_,n,(by rw [HSE.out]),HIF.out,(fun h=>absurd (HSE.out.symm.trans h) HPE.out),HBF.out⟩
 subst hpe
 obtain ⟨hck,hckR,hY5,hY6⟩:=HY4.out h20 (by first | rfl | trivial) (by first | rfl | trivial)
 have HCK:Hid (chk L1=0):=hck
 have HCR:Hid (chkR PL=0):=hckR
 have HY5:Hid (mn≠t0a→SE=0∧SN=({ n with ms:=L1,rs:=PL }:Nd)):=hY5
 have HY6:Hid (mn=t0a→(RE≠0→SE=RE)∧(RE=0→RR=false→SE=0∧SN=({ n with ms:=L1,rs:=PL }:Nd))∧(RE=0→RR=true→SE=PE2∧SN={ n with ms:=RL,rs:=PL2 })):=hY6
 have x2:w2.cell? ⟨w.heap.size,2,none⟩=some (.slice p2a k2a c2a):=cellsAt hg_w2 2
 have xz2:w2.frozen? ⟨w.heap.size,2,none⟩=false:=frozen_of hg_w2 2
 have x3:w2.cell? ⟨w.heap.size,3,none⟩=some (.slice p3a k3a c3a):=cellsAt hg_w2 3
 have xz3:w2.frozen? ⟨w.heap.size,3,none⟩=false:=frozen_of hg_w2 3
 obtain ⟨W3,hW3⟩:∃ W3,W3=(w2.setCell ⟨w.heap.size,2,none⟩ (.slice la L1.length lc)).setCell ⟨w.heap.size,3,none⟩ (.slice ra rk rc):=⟨_,rfl⟩
 have hg_W3:W3.heap[w.heap.size]?=some (.cells #[.string t0a,.string t1a,.slice la L1.length lc,.slice ra rk rc,.slice p4a k4a c4a,.slice p5a k5a c5a,.int .i64 i6a,.int .i64 i7a,.int .i64 i8a,.int .i64 i9a,.int .i64 i10a,.slice p11a k11a c11a] 30 (0,0)):=by rw [hW3];exact Joins.block_setCell (i:=3) (Joins.block_setCell (i:=2) hg_w2 _) _
 have hz_W3:W3.heap[w.heap.size+1+1]?=some (.cells #[.string ⟨#[]⟩,.string ⟨#[]⟩,.slice none 0 0,.slice none 0 0,.slice none 0 0,.slice none 0 0,.int .i64 0,.int .i64 0,.int .i64 0,.int .i64 0,.int .i64 0,.slice none 0 0] 30 (0,0)):=by rw [hW3];exact (Below.heap_setCell _ _ _ _ (by simp only;omega)).trans ((Below.heap_setCell _ _ _ _ (by simp only;omega)).trans hz_w2)
 have hm_W3:W3.heap[w.heap.size+1]?=some (.cells #[.string mn,.int .i64 st,.int .i64 lf,.int .i64 ad,.bool sb] 37 (0,0)):=by rw [hW3];exact (Below.heap_setCell _ _ _ _ (by simp only;omega)).trans ((Below.heap_setCell _ _ _ _ (by simp only;omega)).trans hm_w2)
 have hbw_W3:Below w.heap.size w W3:=by rw [hW3];exact (hbw_w2.setCell (p:=⟨w.heap.size,2,none⟩) (Nat.le_refl _) _).setCell (p:=⟨w.heap.size,3,none⟩) (Nat.le_refl _) _
 have hsh:Sh (fun k=>k=w.heap.size) w2 W3:=by rw [hW3];exact ((Sh.refl _ _).setCell (S:=fun k=>k=w.heap.size) rfl _).setCell (S:=fun k=>k=w.heap.size) rfl _
 have hs_W3:w.heap.size+1+1 < W3.heap.size:=(Array.getElem?_eq_some_iff.1 hz_W3).1
 have HSL3:Hid (Sl W3 (.slice la L1.length lc) L1):=sl_sh1 HSL2.out (NBox.of hg_w2) hsh
 have HRS3:Hid (RSl W3 (.slice ra rk rc) PL):=rsl_sh1 (by have h:=HRS.out;rw [if_pos rfl] at h;exact h) (NBox.of hg_w2) hsh
 have HN3:Hid (IsNd W3 ({ n with ms:=L1,rs:=PL }:Nd) #[.string t0a,.string t1a,.slice la L1.length lc,.slice ra rk rc,.slice p4a k4a c4a,.slice p5a k5a c5a,.int .i64 i6a,.int .i64 i7a,.int .i64 i8a,.int .i64 i9a,.int .i64 i10a,.slice p11a k11a c11a]):=HFI.out W3 la L1.length lc ra rk rc L1 PL hbw_W3 HSL3.out HRS3.out
 obtain ⟨a0,a1,a2,a3,a4,a5,a6,a7,a8,a9,a10,a11⟩:=cells12 hg_W3
 obtain ⟨z0,z1,z2,z3,z4,z5,z6,z7,z8,z9,z10,z11⟩:=cells12 hz_W3
 obtain ⟨zz0,zz1,zz2,zz3,zz4,zz5,zz6,zz7,zz8,zz9,zz10,zz11⟩:=frz12 hz_W3
 obtain ⟨b0,b1,b2,b3,b4⟩:=cells5 hm_W3
 have HW3:Hid (Below w.heap.size w W3∧W3.heap[w.heap.size]?=some (.cells #[.string t0a,.string t1a,.slice la L1.length lc,.slice ra rk rc,.slice p4a k4a c4a,.slice p5a k5a c5a,.int .i64 i6a,.int .i64 i7a,.int .i64 i8a,.int .i64 i9a,.int .i64 i10a,.slice p11a k11a c11a] 30 (0,0))∧W3.heap[w.heap.size+1]?=some (.cells #[.string mn,.int .i64 st,.int .i64 lf,.int .i64 ad,.bool sb] 37 (0,0))∧W3.heap[w.heap.size+1+1]?=some (.cells #[.string ⟨#[]⟩,.string ⟨#[]⟩,.slice none 0 0,.slice none 0 0,.slice none 0 0,.slice none 0 0,.int .i64 0,.int .i64 0,.int .i64 0,.int .i64 0,.int .i64 0,.slice none 0 0] 30 (0,0))):=⟨hbw_W3,hg_W3,hm_W3,hz_W3⟩
 clear hck hckR hY5 hY6 hsh hg_W3 hz_W3 hm_W3 hbw_W3 hg_w2 hz_w2 hm_w2 hbw_w2 HSL2 HRS HN2 HY4 HX3 h20
 have h00:((0:Int) != 0)=false:=rfl
 go_upto_region 10 with fail
 rw [← hW3]
 clear hW3 x2 xz2 x3 xz3
 by_cases hnm:mn=t0a
 rotate_left
 ·have hq:(mn.toList == t0a.toList)=false:=by rw [beq_names,decide_eq_false hnm]
  have HS:=HY5.out hnm
  have HS1:Hid (SE=0):=HS.1
  have HS2:Hid (SN=({ n with ms:=L1,rs:=PL }:Nd)):=HS.2
  clear hnm HS
  obtain ⟨WF,hWF⟩:∃ WF,WF=((((((((((((W3.setCell ⟨w.heap.size+1+1,0,none⟩ (.string t0a)).setCell ⟨w.heap.size+1+1,1,none⟩ (.string t1a)).setCell ⟨w.heap.size+1+1,2,none⟩ (.slice la L1.length lc)).setCell ⟨w.heap.size+1+1,3,none⟩ (.slice ra rk rc)).setCell ⟨w.heap.size+1+1,4,none⟩ (.slice p4a k4a c4a)).setCell ⟨w.heap.size+1+1,5,none⟩ (.slice p5a k5a c5a)).setCell ⟨w.heap.size+1+1,6,none⟩ (.int .i64 i6a)).setCell ⟨w.heap.size+1+1,7,none⟩ (.int .i64 i7a)).setCell ⟨w.heap.size+1+1,8,none⟩ (.int .i64 i8a)).setCell ⟨w.heap.size+1+1,9,none⟩ (.int .i64 i9a)).setCell ⟨w.heap.size+1+1,10,none⟩ (.int .i64 i10a)).setCell ⟨w.heap.size+1+1,11,none⟩ (.slice p11a k11a c11a)):=⟨_,rfl⟩
  have hF:WF=setAll (w.heap.size+1+1) [.string t0a,.string t1a,.slice la L1.length lc,.slice ra rk rc,.slice p4a k4a c4a,.slice p5a k5a c5a,.int .i64 i6a,.int .i64 i7a,.int .i64 i8a,.int .i64 i9a,.int .i64 i10a,.slice p11a k11a c11a] 0 W3:=by rw [hWF];simp only [setAll,Nat.zero_add,Nat.reduceAdd]
  have hzF:WF.heap[w.heap.size+1+1]?=some (.cells #[.string t0a,.string t1a,.slice la L1.length lc,.slice ra rk rc,.slice p4a k4a c4a,.slice p5a k5a c5a,.int .i64 i6a,.int .i64 i7a,.int .i64 i8a,.int .i64 i9a,.int .i64 i10a,.slice p11a k11a c11a] 30 (0,0)):=by rw [hF];exact setAll12 HW3.out.2.2.2 _ _ _ _ _ _ _ _ _ _ _ _
  have HBF:Hid (Below w.heap.size w WF):=by rw [hF];exact setAll_below (by omega) _ _ HW3.out.1
  have HIF:Hid (IsNd WF ({ n with ms:=L1,rs:=PL }:Nd) #[.string t0a,.string t1a,.slice la L1.length lc,.slice ra rk rc,.slice p4a k4a c4a,.slice p5a k5a c5a,.int .i64 i6a,.int .i64 i7a,.int .i64 i8a,.int .i64 i9a,.int .i64 i10a,.slice p11a k11a c11a]):=by rw [hF];exact (HN3.out).setAll (NBox.of HW3.out.2.2.2) _ _
  clear hF
  go_wp2_with fail
  rw [← hWF]
  clear hWF a0 a1 a2 a3 a4 a5 a6 a7 a8 a9 a10 a11 z0 zz0 z1 zz1 z2 zz2 z3 zz3 z4 zz4 z5 zz5 z6 zz6 z7 zz7 z8 zz8 z9 zz9 z10 zz10 z11 zz11
  obtain ⟨z0,z1,z2,z3,z4,z5,z6,z7,z8,z9,z10,z11⟩:=cells12 hzF
  refine bodyPost_ret (v:=.tuple #[.agg #[.string t0a,.string t1a,.slice la L1.length lc,.slice ra rk rc,.slice p4a k4a c4a,.slice p5a k5a c5a,.int .i64 i6a,.int .i64 i7a,.int .i64 i8a,.int .i64 i9a,.int .i64 i10a,.slice p11a k11a c11a],.int .i64 0]) ?_ rfl ?_
  ·simp [results,Tryz.results69,go_sem,z0,z1,z2,z3,z4,z5,z6,z7,z8,z9,z10,z11]
  ·exact ⟨_,({ n with ms:=L1,rs:=PL }:Nd),(by rw [HS1.out]),HIF.out,(fun _=>HS2.out.symm),HBF.out⟩
 have hq:(mn.toList == t0a.toList)=true:=by rw [hnm];simp
 have hq2:mn.toList=t0a.toList:=by rw [hnm]
 obtain ⟨hA1,hA2,hA3⟩:=HY6.out hnm
 have HA1:Hid (RE≠0→SE=RE):=hA1
 have HA2:Hid (RE=0→RR=false→SE=0∧SN=({ n with ms:=L1,rs:=PL }:Nd)):=hA2
 have HA3:Hid (RE=0→RR=true→SE=PE2∧SN={ n with ms:=RL,rs:=PL2 }):=hA3
 clear hA1 hA2 hA3 hnm HY5 HY6
 go_wp2_with fail
 refine (HRF2.out HCK.out W3 _ HSL3.out).mono ?_
 rintro e w4 ⟨v4,rfl,hb4,hv4⟩
 obtain ⟨hbw_W3,hg_W3,hm_W3,hz_W3⟩:=HW3.out
 have hg_w4:w4.heap[w.heap.size]?=some (.cells #[.string t0a,.string t1a,.slice la L1.length lc,.slice ra rk rc,.slice p4a k4a c4a,.slice p5a k5a c5a,.int .i64 i6a,.int .i64 i7a,.int .i64 i8a,.int .i64 i9a,.int .i64 i10a,.slice p11a k11a c11a] 30 (0,0)):=(hb4.block _ (by omega)).trans hg_W3
 have hz_w4:w4.heap[w.heap.size+1+1]?=some (.cells #[.string ⟨#[]⟩,.string ⟨#[]⟩,.slice none 0 0,.slice none 0 0,.slice none 0 0,.slice none 0 0,.int .i64 0,.int .i64 0,.int .i64 0,.int .i64 0,.int .i64 0,.slice none 0 0] 30 (0,0)):=(hb4.block _ (by omega)).trans hz_W3
 have hm_w4:w4.heap[w.heap.size+1]?=some (.cells #[.string mn,.int .i64 st,.int .i64 lf,.int .i64 ad,.bool sb] 37 (0,0)):=(hb4.block _ (by omega)).trans hm_W3
 have hbw_w4:Below w.heap.size w w4:=hbw_W3.trans (hb4.mono hbw_W3.size)
 have hs_w4:w.heap.size+1+1 < w4.heap.size:=by have:=hb4.size;omega
 have HN4:Hid (IsNd w4 ({ n with ms:=L1,rs:=PL }:Nd) #[.string t0a,.string t1a,.slice la L1.length lc,.slice ra rk rc,.slice p4a k4a c4a,.slice p5a k5a c5a,.int .i64 i6a,.int .i64 i7a,.int .i64 i8a,.int .i64 i9a,.int .i64 i10a,.slice p11a k11a c11a]):=HN3.out.below hb4
 have HRS4:Hid (RSl w4 (.slice ra rk rc) PL):=HRS3.out.below hb4
 have HV4:Hid (RE=0→Sl w4 v4 RL):=hv4
 clear a0 a1 a2 a3 a4 a5 a6 a7 a8 a9 a10 a11 z0 zz0 z1 zz1 z2 zz2 z3 zz3 z4 zz4 z5 zz5 z6 zz6 z7 zz7 z8 zz8 z9 zz9 z10 zz10 z11 zz11 b0 b1 b2 b3 b4
 obtain ⟨a0,a1,a2,a3,a4,a5,a6,a7,a8,a9,a10,a11⟩:=cells12 hg_w4
 obtain ⟨z0,z1,z2,z3,z4,z5,z6,z7,z8,z9,z10,z11⟩:=cells12 hz_w4
 obtain ⟨zz0,zz1,zz2,zz3,zz4,zz5,zz6,zz7,zz8,zz9,zz10,zz11⟩:=frz12 hz_w4
 have HW4:Hid (Below w.heap.size w w4∧w4.heap[w.heap.size]?=some (.cells #[.string t0a,.string t1a,.slice la L1.length lc,.slice ra rk rc,.slice p4a k4a c4a,.slice p5a k5a c5a,.int .i64 i6a,.int .i64 i7a,.int .i64 i8a,.int .i64 i9a,.int .i64 i10a,.slice p11a k11a c11a] 30 (0,0))∧w4.heap[w.heap.size+1]?=some (.cells #[.string mn,.int .i64 st,.int .i64 lf,.int .i64 ad,.bool sb] 37 (0,0))∧w4.heap[w.heap.size+1+1]?=some (.cells #[.string ⟨#[]⟩,.string ⟨#[]⟩,.slice none 0 0,.slice none 0 0,.slice none 0 0,.slice none 0 0,.int .i64 0,.int .i64 0,.int .i64 0,.int .i64 0,.int .i64 0,.slice none 0 0] 30 (0,0))):=⟨hbw_w4,hg_w4,hm_w4,hz_w4⟩
 clear hb4 hv4 hbw_W3 hg_W3 hm_W3 hz_W3 hbw_w4 hg_w4 hm_w4 hz_w4 HN3 HRS3 HSL3 HRF2 HW3
 by_cases hre:RE=0
 rotate_left
 ·have HSE:Hid (SE=RE):=HA1.out hre
  have HRE:Hid (RE≠0):=hre
  have hre':(RE != 0)=true:=by simpa using hre
  clear hre
  obtain ⟨WF,hWF⟩:∃ WF,WF=((((((((((((w4.setCell ⟨w.heap.size+1+1,0,none⟩ (.string t0a)).setCell ⟨w.heap.size+1+1,1,none⟩ (.string t1a)).setCell ⟨w.heap.size+1+1,2,none⟩ (.slice la L1.length lc)).setCell ⟨w.heap.size+1+1,3,none⟩ (.slice ra rk rc)).setCell ⟨w.heap.size+1+1,4,none⟩ (.slice p4a k4a c4a)).setCell ⟨w.heap.size+1+1,5,none⟩ (.slice p5a k5a c5a)).setCell ⟨w.heap.size+1+1,6,none⟩ (.int .i64 i6a)).setCell ⟨w.heap.size+1+1,7,none⟩ (.int .i64 i7a)).setCell ⟨w.heap.size+1+1,8,none⟩ (.int .i64 i8a)).setCell ⟨w.heap.size+1+1,9,none⟩ (.int .i64 i9a)).setCell ⟨w.heap.size+1+1,10,none⟩ (.int .i64 i10a)).setCell ⟨w.heap.size+1+1,11,none⟩ (.slice p11a k11a c11a)):=⟨_,rfl⟩
  have hF:WF=setAll (w.heap.size+1+1) [.string t0a,.string t1a,.slice la L1.length lc,.slice ra rk rc,.slice p4a k4a c4a,.slice p5a k5a c5a,.int .i64 i6a,.int .i64 i7a,.int .i64 i8a,.int .i64 i9a,.int .i64 i10a,.slice p11a k11a c11a] 0 w4:=by rw [hWF];simp only [setAll,Nat.zero_add,Nat.reduceAdd]
  have hzF:WF.heap[w.heap.size+1+1]?=some (.cells #[.string t0a,.string t1a,.slice la L1.length lc,.slice ra rk rc,.slice p4a k4a c4a,.slice p5a k5a c5a,.int .i64 i6a,.int .i64 i7a,.int .i64 i8a,.int .i64 i9a,.int .i64 i10a,.slice p11a k11a c11a] 30 (0,0)):=by rw [hF];exact setAll12 HW4.out.2.2.2 _ _ _ _ _ _ _ _ _ _ _ _
  have HBF:Hid (Below w.heap.size w WF):=by rw [hF];exact setAll_below (by omega) _ _ HW4.out.1
  have HIF:Hid (IsNd WF ({ n with ms:=L1,rs:=PL }:Nd) #[.string t0a,.string t1a,.slice la L1.length lc,.slice ra rk rc,.slice p4a k4a c4a,.slice p5a k5a c5a,.int .i64 i6a,.int .i64 i7a,.int .i64 i8a,.int .i64 i9a,.int .i64 i10a,.slice p11a k11a c11a]):=by rw [hF];exact (HN4.out).setAll (NBox.of HW4.out.2.2.2) _ _
  clear hF
  go_wp2_with fail
  rw [← hWF]
  clear hWF a0 a1 a2 a3 a4 a5 a6 a7 a8 a9 a10 a11 z0 zz0 z1 zz1 z2 zz2 z3 zz3 z4 zz4 z5 zz5 z6 zz6 z7 zz7 z8 zz8 z9 zz9 z10 zz10 z11 zz11
  obtain ⟨z0,z1,z2,z3,z4,z5,z6,z7,z8,z9,z10,z11⟩:=cells12 hzF
  refine bodyPost_ret (v:=.tuple #[.agg #[.string t0a,.string t1a,.slice la L1.length lc,.slice ra rk rc,.slice p4a k4a c4a,.slice p5a k5a c5a,.int .i64 i6a,.int .i64 i7a,.int .i64 i8a,.int .i64 i9a,.int .i64 i10a,.slice p11a k11a c11a],.int .i64 RE]) ?_ rfl ?_
  ·simp [results,Tryz.results69,go_sem,z0,z1,z2,z3,z4,z5,z6,z7,z8,z9,z10,z11]
  ·exact ⟨_,({ n with ms:=L1,rs:=PL }:Nd),(by rw [HSE.out]),HIF.out,(fun h=>absurd (HSE.out.symm.trans h) HRE.out),HBF.out⟩
 subst hre
 have hsv:=HV4.out (by first | rfl | trivial)
 obtain ⟨ja,jc,hj,_⟩:=hsv
 subst hj
 have HSR:Hid (Sl w4 (.slice ja RL.length jc) RL):=HV4.out (by first | rfl | trivial)
 clear HV4
 rcases hrr:RR with _ | _
 ·have HS:=HA2.out (by first | rfl | trivial) hrr
  have HS1:Hid (SE=0):=HS.1
  have HS2:Hid (SN=({ n with ms:=L1,rs:=PL }:Nd)):=HS.2
  subst hrr
  clear HS
  obtain ⟨WF,hWF⟩:∃ WF,WF=((((((((((((w4.setCell ⟨w.heap.size+1+1,0,none⟩ (.string t0a)).setCell ⟨w.heap.size+1+1,1,none⟩ (.string t1a)).setCell ⟨w.heap.size+1+1,2,none⟩ (.slice la L1.length lc)).setCell ⟨w.heap.size+1+1,3,none⟩ (.slice ra rk rc)).setCell ⟨w.heap.size+1+1,4,none⟩ (.slice p4a k4a c4a)).setCell ⟨w.heap.size+1+1,5,none⟩ (.slice p5a k5a c5a)).setCell ⟨w.heap.size+1+1,6,none⟩ (.int .i64 i6a)).setCell ⟨w.heap.size+1+1,7,none⟩ (.int .i64 i7a)).setCell ⟨w.heap.size+1+1,8,none⟩ (.int .i64 i8a)).setCell ⟨w.heap.size+1+1,9,none⟩ (.int .i64 i9a)).setCell ⟨w.heap.size+1+1,10,none⟩ (.int .i64 i10a)).setCell ⟨w.heap.size+1+1,11,none⟩ (.slice p11a k11a c11a)):=⟨_,rfl⟩
  have hF:WF=setAll (w.heap.size+1+1) [.string t0a,.string t1a,.slice la L1.length lc,.slice ra rk rc,.slice p4a k4a c4a,.slice p5a k5a c5a,.int .i64 i6a,.int .i64 i7a,.int .i64 i8a,.int .i64 i9a,.int .i64 i10a,.slice p11a k11a c11a] 0 w4:=by rw [hWF];simp only [setAll,Nat.zero_add,Nat.reduceAdd]
  have hzF:WF.heap[w.heap.size+1+1]?=some (.cells #[.string t0a,.string t1a,.slice la L1.length lc,.slice ra rk rc,.slice p4a k4a c4a,.slice p5a k5a c5a,.int .i64 i6a,.int .i64 i7a,.int .i64 i8a,.int .i64 i9a,.int .i64 i10a,.slice p11a k11a c11a] 30 (0,0)):=by rw [hF];exact setAll12 HW4.out.2.2.2 _ _ _ _ _ _ _ _ _ _ _ _
  have HBF:Hid (Below w.heap.size w WF):=by rw [hF];exact setAll_below (by omega) _ _ HW4.out.1
  have HIF:Hid (IsNd WF ({ n with ms:=L1,rs:=PL }:Nd) #[.string t0a,.string t1a,.slice la L1.length lc,.slice ra rk rc,.slice p4a k4a c4a,.slice p5a k5a c5a,.int .i64 i6a,.int .i64 i7a,.int .i64 i8a,.int .i64 i9a,.int .i64 i10a,.slice p11a k11a c11a]):=by rw [hF];exact (HN4.out).setAll (NBox.of HW4.out.2.2.2) _ _
  clear hF
  go_wp2_with fail
  rw [← hWF]
  clear hWF a0 a1 a2 a3 a4 a5 a6 a7 a8 a9 a10 a11 z0 zz0 z1 zz1 z2 zz2 z3 zz3 z4 zz4 z5 zz5 z6 zz6 z7 zz7 z8 zz8 z9 zz9 z10 zz10 z11 zz11
  obtain ⟨z0,z1,z2,z3,z4,z5,z6,z7,z8,z9,z10,z11⟩:=cells12 hzF
  refine bodyPost_ret (v:=.tuple #[.agg #[.string t0a,.string t1a,.slice la L1.length lc,.slice ra rk rc,.slice p4a k4a c4a,.slice p5a k5a c5a,.int .i64 i6a,.int .i64 i7a,.int .i64 i8a,.int .i64 i9a,.int .i64 i10a,.slice p11a k11a c11a],.int .i64 0]) ?_ rfl ?_
  ·simp [results,Tryz.results69,go_sem,z0,z1,z2,z3,z4,z5,z6,z7,z8,z9,z10,z11]
  ·exact ⟨_,({ n with ms:=L1,rs:=PL }:Nd),(by rw [HS1.out]),HIF.out,(fun _=>HS2.out.symm),HBF.out⟩
 subst hrr
 have hS3:=HA3.out (by first | rfl | trivial) (by first | rfl | trivial)
 have HS1:Hid (SE=PE2):=hS3.1
 have HS2:Hid (SN={ n with ms:=RL,rs:=PL2 }):=hS3.2
 have hrn:=HRN.out HCK.out (by first | rfl | trivial)
 clear a0 a1 a2 a3 a4 a5 a6 a7 a8 a9 a10 a11 z0 zz0 z1 zz1 z2 zz2 z3 zz3 z4 zz4 z5 zz5 z6 zz6 z7 zz7 z8 zz8 z9 zz9 z10 zz10 z11 zz11 hS3
 obtain ⟨hbw_w4,hg_w4,hm_w4,hz_w4⟩:=HW4.out
 have hsr:=HSR.out
 obtain ⟨ja2,jc2,hj2,hnz,hrow⟩:=hsr
 rcases hrow with h0 | ⟨g,off,hga,hlt,hr4⟩
 ·exact absurd h0 hrn
 injection hj2 with hj3 hj4 hj5
 rw [hga] at hj3
 subst hj3
 have x2:w4.cell? ⟨w.heap.size,2,none⟩=some (.slice la L1.length lc):=cellsAt hg_w4 2
 have xz2:w4.frozen? ⟨w.heap.size,2,none⟩=false:=frozen_of hg_w4 2
 obtain ⟨W5,hW5⟩:∃ W5,W5=w4.setCell ⟨w.heap.size,2,none⟩ (.slice (some ⟨g,off,none⟩) RL.length jc):=⟨_,rfl⟩
 have hg_W5:W5.heap[w.heap.size]?=some (.cells #[.string t0a,.string t1a,.slice (some ⟨g,off,none⟩) RL.length jc,.slice ra rk rc,.slice p4a k4a c4a,.slice p5a k5a c5a,.int .i64 i6a,.int .i64 i7a,.int .i64 i8a,.int .i64 i9a,.int .i64 i10a,.slice p11a k11a c11a] 30 (0,0)):=by rw [hW5];exact Joins.block_setCell (i:=2) hg_w4 _
 have hz_W5:W5.heap[w.heap.size+1+1]?=some (.cells #[.string ⟨#[]⟩,.string ⟨#[]⟩,.slice none 0 0,.slice none 0 0,.slice none 0 0,.slice none 0 0,.int .i64 0,.int .i64 0,.int .i64 0,.int .i64 0,.int .i64 0,.slice none 0 0] 30 (0,0)):=by rw [hW5];exact (Below.heap_setCell _ _ _ _ (by simp only;omega)).trans hz_w4
 have hbw_W5:Below w.heap.size w W5:=by rw [hW5];exact hbw_w4.setCell (p:=⟨w.heap.size,2,none⟩) (Nat.le_refl _) _
 have hsh:Sh (fun k=>k=w.heap.size) w4 W5:=by rw [hW5];exact (Sh.refl _ _).setCell (S:=fun k=>k=w.heap.size) rfl _
 have hs_W5:w.heap.size+1+1 < W5.heap.size:=(Array.getElem?_eq_some_iff.1 hz_W5).1
 have HSR5:Hid (Sl W5 (.slice (some ⟨g,off,none⟩) RL.length jc) RL):=sl_sh1 HSR.out (NBox.of hg_w4) hsh
 have HRS5:Hid (RSl W5 (.slice ra rk rc) PL):=rsl_sh1 HRS4.out (NBox.of hg_w4) hsh
 have HROW:Hid (Row W5 g off RL):=by
  obtain ⟨_,_,hv,_,hr⟩:=HSR5.out
  rcases hr with h0 | ⟨g2,off2,hga2,_,hr⟩
  ·exact absurd h0 hrn
  ·injection hv with hv1 _ _
   rw [hga2] at hv1
   injection hv1 with hv1
   injection hv1 with hv2 hv3
   subst hv2 hv3
   exact hr
 have HMA2:Hid (Calls Tryz.prog 52 #[.slice (some ⟨g,off,none⟩) RL.length jc,.string t0a] W5.drew fun e w'=>∃ k:Nat,e=.returned (.int .i64 k)∧k < RL.length∧RL.getD k dm=M2∧w'=W5.drew):=HMA.out HCK.out (by first | rfl | trivial) _ _ (HSR5.out.below (Below.refl _ _).drew)
 have HPP2:Hid (Calls Tryz.prog 126 #[.slice ra rk rc,.agg #[.string M2.name,.int .i64 M2.state,.int .i64 M2.life,.int .i64 M2.addr,.bool M2.server]] W5.drew fun e w'=>∃ a k c,e=.returned (.tuple #[.slice a k c,.int .i64 PE2])∧Below W5.drew.heap.size W5.drew w'∧RSl w' (.slice a k c) (if PE2=0 then PL2 else [])):=HP2.out HCK.out HCR.out (by first | rfl | trivial) _ _ (HRS5.out.below (Below.refl _ _).drew)
 have HW5:Hid (Below w.heap.size w W5∧W5.heap[w.heap.size]?=some (.cells #[.string t0a,.string t1a,.slice (some ⟨g,off,none⟩) RL.length jc,.slice ra rk rc,.slice p4a k4a c4a,.slice p5a k5a c5a,.int .i64 i6a,.int .i64 i7a,.int .i64 i8a,.int .i64 i9a,.int .i64 i10a,.slice p11a k11a c11a] 30 (0,0))∧W5.heap[w.heap.size+1+1]?=some (.cells #[.string ⟨#[]⟩,.string ⟨#[]⟩,.slice none 0 0,.slice none 0 0,.slice none 0 0,.slice none 0 0,.int .i64 0,.int .i64 0,.int .i64 0,.int .i64 0,.int .i64 0,.slice none 0 0] 30 (0,0))):=⟨hbw_W5,hg_W5,hz_W5⟩
 have y3:W5.cell? ⟨w.heap.size,3,none⟩=some (.slice ra rk rc):=cellsAt hg_W5 3
 have y0:W5.cell? ⟨w.heap.size,0,none⟩=some (.string t0a):=cellsAt hg_W5 0
 clear hsh hbw_w4 hg_w4 hm_w4 hz_w4 hr4 hlt hnz hga hj4 hj5 hrn HSR HRS4 HMA HP2 HN4 HW4 HA1 HA2 HA3 HCK HCR HRN hbw_W5 hg_W5 hz_W5
 obtain ⟨m0,m1,m2,m3,m4⟩:=M2
 simp only at HPP2
 go_upto_region 16 with fail
 rw [← hW5]
 clear hW5 x2 xz2
 go_region_with (first
  | (go_at_call 52;refine HMA2.out.mono ?_;rintro e w' ⟨k,rfl,hk,hgd,hww⟩;subst hww;have hki:(k:Int) < (RL.length:Int):=by omega
     obtain ⟨c0,c1,c2,c3,c4⟩:=HROW.out k hk;rw [hgd] at c0 c1 c2 c3 c4;simp only at c0 c1 c2 c3 c4;clear hgd)
  | (go_at_call 126;refine HPP2.out.mono ?_;rintro e w6 ⟨qa,qk,qc,rfl,hb6,hq6⟩;have HB56:Hid (Below W5.heap.size W5 w6):=(Below.refl W5.heap.size W5).drew.trans hb6;have HQ6:Hid (RSl w6 (.slice qa qk qc) (if PE2=0 then PL2 else [])):=hq6;have hg6:w6.heap[w.heap.size]?=some (.cells #[.string t0a,.string t1a,.slice (some ⟨g,off,none⟩) RL.length jc,.slice ra rk rc,.slice p4a k4a c4a,.slice p5a k5a c5a,.int .i64 i6a,.int .i64 i7a,.int .i64 i8a,.int .i64 i9a,.int .i64 i10a,.slice p11a k11a c11a] 30 (0,0)):=(HB56.out.block _ (by omega)).trans HW5.out.2.1;have u3:w6.cell? ⟨w.heap.size,3,none⟩=some (.slice ra rk rc):=cellsAt hg6 3;have uf:w6.frozen? ⟨w.heap.size,3,none⟩=false:=frozen_of hg6 3;clear hb6 hq6 hg6))
 all_goals
  obtain ⟨W7,hW7⟩:∃ W7,W7=w6.setCell ⟨w.heap.size,3,none⟩ (.slice qa qk qc):=⟨_,rfl⟩
  rw [← hW7]
  have hg6:w6.heap[w.heap.size]?=some (.cells #[.string t0a,.string t1a,.slice (some ⟨g,off,none⟩) RL.length jc,.slice ra rk rc,.slice p4a k4a c4a,.slice p5a k5a c5a,.int .i64 i6a,.int .i64 i7a,.int .i64 i8a,.int .i64 i9a,.int .i64 i10a,.slice p11a k11a c11a] 30 (0,0)):=(HB56.out.block _ (by omega)).trans HW5.out.2.1
  have hz6:w6.heap[w.heap.size+1+1]?=some (.cells #[.string ⟨#[]⟩,.string ⟨#[]⟩,.slice none 0 0,.slice none 0 0,.slice none 0 0,.slice none 0 0,.int .i64 0,.int .i64 0,.int .i64 0,.int .i64 0,.int .i64 0,.slice none 0 0] 30 (0,0)):=(HB56.out.block _ (by omega)).trans HW5.out.2.2
  have hb6:Below w.heap.size w w6:=HW5.out.1.trans (HB56.out.mono HW5.out.1.size)
  have hg7:W7.heap[w.heap.size]?=some (.cells #[.string t0a,.string t1a,.slice (some ⟨g,off,none⟩) RL.length jc,.slice qa qk qc,.slice p4a k4a c4a,.slice p5a k5a c5a,.int .i64 i6a,.int .i64 i7a,.int .i64 i8a,.int .i64 i9a,.int .i64 i10a,.slice p11a k11a c11a] 30 (0,0)):=by rw [hW7];exact Joins.block_setCell (i:=3) hg6 _
  have hz7:W7.heap[w.heap.size+1+1]?=some (.cells #[.string ⟨#[]⟩,.string ⟨#[]⟩,.slice none 0 0,.slice none 0 0,.slice none 0 0,.slice none 0 0,.int .i64 0,.int .i64 0,.int .i64 0,.int .i64 0,.int .i64 0,.slice none 0 0] 30 (0,0)):=by rw [hW7];exact (Below.heap_setCell _ _ _ _ (by simp only;omega)).trans hz6
  have hb7:Below w.heap.size w W7:=by rw [hW7];exact hb6.setCell (p:=⟨w.heap.size,3,none⟩) (Nat.le_refl _) _
  have hsh:Sh (fun k=>k=w.heap.size) w6 W7:=by rw [hW7];exact (Sh.refl _ _).setCell (S:=fun k=>k=w.heap.size) rfl _
  have HN7:Hid (IsNd W7 ({ n with ms:=RL,rs:=if PE2=0 then PL2 else [] }:Nd) #[.string t0a,.string t1a,.slice (some ⟨g,off,none⟩) RL.length jc,.slice qa qk qc,.slice p4a k4a c4a,.slice p5a k5a c5a,.int .i64 i6a,.int .i64 i7a,.int .i64 i8a,.int .i64 i9a,.int .i64 i10a,.slice p11a k11a c11a]):=HFI.out W7 _ _ _ qa qk qc RL _ hb7 (sl_sh1 (HSR5.out.below HB56.out) (NBox.of hg6) hsh) (rsl_sh1 HQ6.out (NBox.of hg6) hsh)
  obtain ⟨a0,a1,a2,a3,a4,a5,a6,a7,a8,a9,a10,a11⟩:=cells12 hg7
  obtain ⟨z0,z1,z2,z3,z4,z5,z6,z7,z8,z9,z10,z11⟩:=cells12 hz7
  obtain ⟨zz0,zz1,zz2,zz3,zz4,zz5,zz6,zz7,zz8,zz9,zz10,zz11⟩:=frz12 hz7
  have HZ7:Hid (W7.heap[w.heap.size+1+1]?=some (.cells #[.string ⟨#[]⟩,.string ⟨#[]⟩,.slice none 0 0,.slice none 0 0,.slice none 0 0,.slice none 0 0,.int .i64 0,.int .i64 0,.int .i64 0,.int .i64 0,.int .i64 0,.slice none 0 0] 30 (0,0))):=hz7
  have HB7:Hid (Below w.heap.size w W7):=hb7
  clear hW7 hg6 hz6 hb6 hg7 hz7 hb7 hsh y0 y3 u3 uf
  obtain ⟨WF,hWF⟩:∃ WF,WF=((((((((((((W7.setCell ⟨w.heap.size+1+1,0,none⟩ (.string t0a)).setCell ⟨w.heap.size+1+1,1,none⟩ (.string t1a)).setCell ⟨w.heap.size+1+1,2,none⟩ (.slice (some ⟨g,off,none⟩) RL.length jc)).setCell ⟨w.heap.size+1+1,3,none⟩ (.slice qa qk qc)).setCell ⟨w.heap.size+1+1,4,none⟩ (.slice p4a k4a c4a)).setCell ⟨w.heap.size+1+1,5,none⟩ (.slice p5a k5a c5a)).setCell ⟨w.heap.size+1+1,6,none⟩ (.int .i64 i6a)).setCell ⟨w.heap.size+1+1,7,none⟩ (.int .i64 i7a)).setCell ⟨w.heap.size+1+1,8,none⟩ (.int .i64 i8a)).setCell ⟨w.heap.size+1+1,9,none⟩ (.int .i64 i9a)).setCell ⟨w.heap.size+1+1,10,none⟩ (.int .i64 i10a)).setCell ⟨w.heap.size+1+1,11,none⟩ (.slice p11a k11a c11a)):=⟨_,rfl⟩
  have hF:WF=setAll (w.heap.size+1+1) [.string t0a,.string t1a,.slice (some ⟨g,off,none⟩) RL.length jc,.slice qa qk qc,.slice p4a k4a c4a,.slice p5a k5a c5a,.int .i64 i6a,.int .i64 i7a,.int .i64 i8a,.int .i64 i9a,.int .i64 i10a,.slice p11a k11a c11a] 0 W7:=by rw [hWF];simp only [setAll,Nat.zero_add,Nat.reduceAdd]
  have hzF:WF.heap[w.heap.size+1+1]?=some (.cells #[.string t0a,.string t1a,.slice (some ⟨g,off,none⟩) RL.length jc,.slice qa qk qc,.slice p4a k4a c4a,.slice p5a k5a c5a,.int .i64 i6a,.int .i64 i7a,.int .i64 i8a,.int .i64 i9a,.int .i64 i10a,.slice p11a k11a c11a] 30 (0,0)):=by rw [hF];exact setAll12 HZ7.out _ _ _ _ _ _ _ _ _ _ _ _
  have HBF:Hid (Below w.heap.size w WF):=by rw [hF];exact setAll_below (by omega) _ _ HB7.out
  have HIF:Hid (IsNd WF ({ n with ms:=RL,rs:=if PE2=0 then PL2 else [] }:Nd) #[.string t0a,.string t1a,.slice (some ⟨g,off,none⟩) RL.length jc,.slice qa qk qc,.slice p4a k4a c4a,.slice p5a k5a c5a,.int .i64 i6a,.int .i64 i7a,.int .i64 i8a,.int .i64 i9a,.int .i64 i10a,.slice p11a k11a c11a]):=by rw [hF];exact (HN7.out).setAll (NBox.of HZ7.out) _ _
  clear hF
  go_wp2_with fail
  rw [← hWF]
  clear hWF a0 a1 a2 a3 a4 a5 a6 a7 a8 a9 a10 a11 z0 zz0 z1 zz1 z2 zz2 z3 zz3 z4 zz4 z5 zz5 z6 zz6 z7 zz7 z8 zz8 z9 zz9 z10 zz10 z11 zz11
  obtain ⟨z0,z1,z2,z3,z4,z5,z6,z7,z8,z9,z10,z11⟩:=cells12 hzF
  refine bodyPost_ret (v:=.tuple #[.agg #[.string t0a,.string t1a,.slice (some ⟨g,off,none⟩) RL.length jc,.slice qa qk qc,.slice p4a k4a c4a,.slice p5a k5a c5a,.int .i64 i6a,.int .i64 i7a,.int .i64 i8a,.int .i64 i9a,.int .i64 i10a,.slice p11a k11a c11a],.int .i64 PE2]) ?_ rfl ?_
  ·simp [results,Tryz.results69,go_sem,z0,z1,z2,z3,z4,z5,z6,z7,z8,z9,z10,z11]
  ·exact ⟨_,({ n with ms:=RL,rs:=if PE2=0 then PL2 else [] }:Nd),(by rw [HS1.out]),HIF.out,(fun h=>by rw [if_pos (HS1.out.symm.trans h),HS2.out]),HBF.out⟩
theorem newM_lt (a b:Mem):newM a b=true↔b.life < a.life∨(b.life=a.life∧(b.state < a.state∨(b.state=a.state∧(b.addr < a.addr∨(b.addr=a.addr∧(b.server=false∧a.server=true)))))):=by
 unfold newM newB
 by_cases h1:a.life=b.life
 ·rw [if_pos h1]
  by_cases h2:a.state=b.state
  ·rw [if_pos h2]
   by_cases h3:a.addr=b.addr
   ·rw [if_pos h3]
    cases ha:a.server<;>cases hb:b.server<;>simp<;>omega
   ·rw [if_neg h3,decide_eq_true_eq]
    constructor
    ·intro h;exact .inr ⟨h1.symm,.inr ⟨h2.symm,.inl h⟩⟩
    ·rintro (h | ⟨_,h | ⟨_,h | ⟨h,_⟩⟩⟩)<;>omega
  ·rw [if_neg h2,decide_eq_true_eq]
   constructor
   ·intro h;exact .inr ⟨h1.symm,.inl h⟩
   ·rintro (h | ⟨_,h | ⟨h,_⟩⟩)<;>omega
 ·rw [if_neg h1,decide_eq_true_eq]
  constructor
  ·intro h;exact .inl h
  ·rintro (h | ⟨h,_⟩)<;>omega
theorem newM_asymm {a b:Mem} (h:newM a b=true):newM b a=false:=by
 rw [newM_lt] at h
 rcases hb:newM b a with _ | _
 ·rfl
 ·rw [newM_lt] at hb
  rcases h with h | ⟨h1,h | ⟨h2,h | ⟨h3,h4,h5⟩⟩⟩<;>rcases hb with g | ⟨g1,g | ⟨g2,g | ⟨g3,g4,g5⟩⟩⟩<;>first | omega | (rw [h4] at g5;cases g5)
theorem newM_le {a b c:Mem} (h1:newM a b=false) (h2:newM b c=false):newM a c=false:=by
 rcases h3:newM a c with _ | _
 ·rfl
 ·exfalso
  have g1:¬ newM a b=true:=by rw [h1];simp
  have g2:¬ newM b c=true:=by rw [h2];simp
  rw [newM_lt] at h3 g1 g2
  by_cases l1:b.life < a.life
  ·exact g1 (.inl l1)
  by_cases l2:c.life < b.life
  ·exact g2 (.inl l2)
  rcases h3 with h | ⟨e1,h⟩
  ·omega
  have e2:b.life=a.life:=by omega
  have e3:c.life=b.life:=by omega
  by_cases s1:b.state < a.state
  ·exact g1 (.inr ⟨e2,.inl s1⟩)
  by_cases s2:c.state < b.state
  ·exact g2 (.inr ⟨e3,.inl s2⟩)
  rcases h with h | ⟨f1,h⟩
  ·omega
  have f2:b.state=a.state:=by omega
  have f3:c.state=b.state:=by omega
  by_cases a1:b.addr < a.addr
  ·exact g1 (.inr ⟨e2,.inr ⟨f2,.inl a1⟩⟩)
  by_cases a2:c.addr < b.addr
  ·exact g2 (.inr ⟨e3,.inr ⟨f3,.inl a2⟩⟩)
  rcases h with h | ⟨k1,k4,k5⟩
  ·omega
  have k2:b.addr=a.addr:=by omega
  have k3:c.addr=b.addr:=by omega
  rcases hb:b.server with _ | _
  ·exact g1 (.inr ⟨e2,.inr ⟨f2,.inr ⟨k2,hb,k5⟩⟩⟩)
  ·exact g2 (.inr ⟨e3,.inr ⟨f3,.inr ⟨k3,k4,hb⟩⟩⟩)
def Le (ms ms':List Mem):Prop:=∀ t k,fstM ms t=some k→∃ k',fstM ms' t=some k'∧newM k k'=false
theorem Le.refl (ms:List Mem):Le ms ms:=fun _ k h=>⟨k,h,newM_self k⟩
theorem Le.trans {a b c:List Mem} (h:Le a b) (k:Le b c):Le a c:=fun t x hx=>by
 obtain ⟨y,hy,h1⟩:=h t x hx
 obtain ⟨z,hz,h2⟩:=k t y hy
 exact ⟨z,hz,newM_le h1 h2⟩
theorem le_hear {ms:List Mem} (hr:Rise ms) (m:Mem):Le ms (hearL ms m):=fun t k hk=>by
 by_cases ht:m.name=t
 ·subst ht
  by_cases hh:hearL ms m=ms
  ·rw [hh];exact ⟨k,hk,newM_self k⟩
  ·refine ⟨m,fst_hear m ms hh,?_⟩
   have h1:=(chgB_iff hr m).2 hh
   unfold chgB at h1
   rw [hk] at h1
   exact newM_asymm h1
 ·rw [fst_hear_ne m t ht ms];exact ⟨k,hk,newM_self k⟩
theorem fst_set_ne {x:Mem} {t:ByteArray} (hx:x.name≠t):∀ (ms:List Mem) (p:Nat),(ms.getD p dm).name≠t→fstM (ms.set p x) t=fstM ms t
 | [],_,_=>rfl
 | y :: r,0,h=>by
   have h:y.name≠t:=by simpa using h
   show fstM (x :: r) t=fstM (y :: r) t
   rw [fst_cons,fst_cons,if_neg hx,if_neg h]
 | y :: r,p+1,h=>by
   have h:(r.getD p dm).name≠t:=by simpa using h
   show fstM (y :: r.set p x) t=fstM (y :: r) t
   rw [fst_cons,fst_cons,fst_set_ne hx r p h]
theorem newM_again (k:Mem):newM k (liveAgain k)=false:=by
 rcases h:newM k (liveAgain k) with _ | _
 ·rfl
 ·rw [newM_lt] at h
  have e:(liveAgain k).life=k.life+1:=rfl
  rw [e] at h
  rcases h with h | ⟨h,_⟩<;>omega
theorem ahead_le {ms ms':List Mem} {r:Rum} (h:Le ms ms') (ha:aheadB ms r=false):aheadB ms' r=false:=by
 unfold aheadB at ha ⊢
 rcases hf:fstM ms r.m.name with _ | k
 ·rw [hf] at ha;cases ha
 ·rw [hf] at ha
  obtain ⟨k',h1,h2⟩:=h _ _ hf
  rw [h1]
  exact newM_le ha h2
theorem ahead_self {ms:List Mem} {m:Mem} {i:Int} (h:fstM ms m.name=some m):aheadB ms ⟨m,i⟩=false:=by
 unfold aheadB
 show (match fstM ms m.name with | none=>true | some k=>newM m k)=false
 rw [h];exact newM_self m
theorem le_sp1 {n:Nd} (h:chk n.ms=0) (m:Mem):Le n.ms (sp1 n m).ms:=by
 have hl:=le_hear (chk_zero h).2.1 m
 unfold sp1
 split<;>exact hl
theorem le_rf {n:Nd} (h:chk n.ms=0):Le n.ms (rfN n).ms:=by
 unfold rfN
 by_cases hR:refR n.ms (rfP n) (rfF n)=true
 ·rw [if_pos hR]
  obtain ⟨_,hat,hL,hM,_,hn,hp⟩:=rf_facts h hR
  intro t k hk
  show ∃ k',fstM (rfL n) t=some k'∧newM k k'=false
  rw [hL]
  by_cases ht:n.name=t
  ·subst ht
   have h1:=fst_some_of hat
   rw [h1] at hk
   injection hk with hk
   refine ⟨liveAgain k,?_,newM_again k⟩
   rw [fst_some_of (at_set hat (x:=liveAgain (n.ms.getD (rfP n) dm)) hn),← hk]
   simp [List.getD,hp]
  ·rw [fst_set_ne (x:=liveAgain (n.ms.getD (rfP n) dm)) (fun e=>ht (hn.symm.trans e)) n.ms (rfP n) (fun e=>ht (hn.symm.trans e))]
   exact ⟨k,hk,newM_self k⟩
 ·rw [if_neg hR]
  have:rfL n=n.ms:=by unfold rfL refL;rw [if_neg hR]
  show Le n.ms (rfL n)
  rw [this];exact Le.refl _
theorem Nd.Parts.pe {n:Nd} (h:n.Parts):n.pE=0:=by
 unfold Nd.pE
 rw [h.name,h.centre,if_pos (by rfl),if_pos h.ms,if_pos h.rs,if_pos h.sv,if_pos h.gw,if_pos h.p,h.wh]
theorem sp_parts {n n':Nd} (h:n.Parts) (hs:Sp n') (hr:Rest n n'):n'.Parts:=
 ⟨hs.name,by rw [hr.centre];exact h.centre,hs.ms,hs.rs,by rw [hr.sv];exact h.sv,by rw [hr.gw];exact h.gw,by rw [hr.p];exact h.p,by rw [hr.wh];exact h.wh⟩
theorem sp_e0 {n:Nd} {m:Mem} (he:n.e=0) (hm:m.e=0) (h0:spE n m=0):(spN n m).e=0:=by
 have hp:=Nd.parts (Nd.e_zero he).1
 have hsp:Sp n:=⟨hp.ms,hp.rs,hp.name⟩
 obtain ⟨me,hme,s2,s3,hah⟩:=Nd.wE_zero (Nd.e_zero he).2
 have hS:=sp_sp hsp hm h0
 refine Nd.e_of (sp_parts hp hS (rest_sp n m)).pe ?_
 have hr:=(chk_zero hp.ms).2.1
 have h1:sp1E n m=0:=by
  unfold spE at h0
  split at h0
  ·rename_i h;exact h
  ·rename_i h;exact absurd h0 h
 have hms:(sp1 n m).ms=hearL n.ms m:=by unfold sp1;split<;>rfl
 have hle:=le_sp1 hp.ms m
 have hah1:∀ r∈(sp1 n m).rs,aheadB (sp1 n m).ms r=false:=by
  intro r hr1
  rw [hms]
  rw [hms] at hle
  by_cases hc:chgB n.ms m=true
  ·have hrs:(sp1 n m).rs=putL n.rs m:=by unfold sp1;rw [if_pos hc]
   rw [hrs] at hr1
   rcases putL_mem hr1 with h | rfl
   ·exact ahead_le hle (hah r h)
   ·exact ahead_self (fst_hear m n.ms ((chgB_iff hr m).1 hc))
  ·have hrs:(sp1 n m).rs=n.rs:=by unfold sp1;rw [if_neg hc]
   rw [hrs] at hr1
   exact ahead_le hle (hah r hr1)
 by_cases hn:m.name=n.name
 ·have hN:spN n m=rfN (sp1 n m):=by unfold spN;rw [if_pos hn]
  have h2:rfE (sp1 n m)=0:=by
   unfold spE at h0
   rw [if_pos h1,if_pos hn] at h0
   exact h0
  have hok1:=sp1_ok hp.ms hp.rs hm h1
  have hnm:(sp1 n m).name=n.name:=sp1_name n m
  rw [hN]
  obtain ⟨k1,hk1,_⟩:=hle _ _ hme
  rw [← hnm] at hk1
  generalize sp1 n m=n1 at *
  have hl2:=le_rf hok1.1
  have hat:=at_pos (chk_zero hok1.1).2.1 n1.name
  by_cases hR:refR n1.ms (rfP n1) (rfF n1)=true
  ·obtain ⟨_,hat2,hL,hM,_,hn2,hp2⟩:=rf_facts hok1.1 hR
   have hN2:rfN n1={ n1 with ms:=rfL n1,rs:=putL n1.rs (rfM n1) }:=by unfold rfN;rw [if_pos hR]
   rw [hN2] at hl2 ⊢
   have hf:fstM (rfL n1) n1.name=some (rfM n1):=by
    rw [hL,fst_some_of (at_set hat2 (x:=liveAgain (n1.ms.getD (rfP n1) dm)) hn2),hM]
    simp [List.getD,hp2]
   have hmn:(rfM n1).name=n1.name:=by rw [hM];exact hn2
   have hst:(rfM n1).state=1:=by rw [hM];rfl
   refine Nd.wE_of (m:=rfM n1) hf (by rw [hst];decide) (by rw [hst];decide) (fun r hr1=>?_)
   rcases putL_mem hr1 with h | rfl
   ·exact ahead_le hl2 (hah1 r h)
   ·exact ahead_self (by rw [hmn];exact hf)
  ·have hN2:rfN n1={ n1 with ms:=rfL n1 }:=by unfold rfN;rw [if_neg hR]
   have hL:rfL n1=n1.ms:=by unfold rfL refL;rw [if_neg hR]
   rw [hN2,hL]
   have hF:rfF n1=true:=by
    rcases hF:rfF n1 with _ | _
    ·have hF2:isM n1.ms n1.name=false:=hF
     rw [hF2] at hat
     have:=fst_none_of (chk_zero hok1.1).2.1 hat
     rw [hk1] at this;cases this
    ·rfl
   have hF2:isM n1.ms n1.name=true:=hF
   rw [hF2] at hat
   have h5:=fst_some_of hat
   rw [hk1] at h5
   injection h5 with h5
   have hE:refE n1.ms (rfP n1) (rfF n1)=0:=by
    unfold rfE at h2
    split at h2
    ·rename_i h;exact h
    ·rename_i h;exact absurd h2 h
   have hbad:¬ (k1.state=2∨k1.state=3):=by
    intro hb
    have hb2:(decide ((n1.ms.getD (rfP n1) dm).state=2) || decide ((n1.ms.getD (rfP n1) dm).state=3))=true:=by
     have e:n1.ms.getD (rfP n1) dm=k1:=h5.symm
     rw [e]
     rcases hb with hb | hb<;>simp [hb]
    unfold refR at hR
    unfold refE at hE
    rw [hF,hb2] at hR hE
    rcases hl:((n1.ms.getD (rfP n1) dm).life == 1000000) with _ | _
    ·rw [hl] at hR;exact hR rfl
    ·rw [hl] at hE;cases hE
   exact Nd.wE_of (m:=k1) hk1 (fun e=>hbad (.inl e)) (fun e=>hbad (.inr e)) hah1
 ·have hN:spN n m=sp1 n m:=by unfold spN;rw [if_neg hn]
  rw [hN]
  refine Nd.wE_of (m:=me) ?_ s2 s3 hah1
  rw [hms,sp1_name,fst_hear_ne m n.name hn n.ms]
  exact hme
theorem hs_e0:∀ (l:List Mem) (n:Nd),n.e=0→(∀ m∈l,m.e=0)→hsE n l=0→(hsN n l).e=0
 | [],_,h,_,_=>h
 | x :: r,n,h,hl,h0=>by
   rw [hsE] at h0
   split at h0
   ·rename_i h1
    exact hs_e0 r (spN n x) (sp_e0 h (hl x (by simp)) h1) (fun m hm=>hl m (by simp [hm])) h0
   ·rename_i h1;exact absurd h0 h1
structure HBox (w W:World) (P C:Array Value):Prop where
 bel:Below w.heap.size w W
 node:W.heap[w.heap.size]?=some (.cells C 30 (0,0))
 pk:W.heap[w.heap.size+1]?=some (.cells P 44 (0,0))
 res:W.heap[w.heap.size+1+1]?=some (.cells #[.string ⟨#[]⟩,.string ⟨#[]⟩,.slice none 0 0,.slice none 0 0,.slice none 0 0,.slice none 0 0,.int .i64 0,.int .i64 0,.int .i64 0,.int .i64 0,.int .i64 0,.slice none 0 0] 30 (0,0))
theorem HBox.lt {w W:World} {P C:Array Value} (h:HBox w W P C):w.heap.size+1+1 < W.heap.size:=(Array.getElem?_eq_some_iff.1 h.res).1
theorem HBox.below {w W W':World} {P C:Array Value} (h:HBox w W P C) (hb:Below W.heap.size W W'):HBox w W' P C:=by
 have:=h.lt
 exact ⟨h.bel.trans (hb.mono h.bel.size),(hb.block _ (by omega)).trans h.node,(hb.block _ (by omega)).trans h.pk,(hb.block _ (by omega)).trans h.res⟩
theorem HBox.set {w W:World} {P:Array Value} {C:Array Value} (h:HBox w W P C) (j:Nat) (v:Value):HBox w (W.setCell ⟨w.heap.size,j,none⟩ v) P (C.setIfInBounds j v):=
 ⟨h.bel.setCell (p:=⟨w.heap.size,j,none⟩) (Nat.le_refl _) _,Joins.block_setCell (i:=j) h.node v,(Below.heap_setCell _ _ _ _ (by simp only;omega)).trans h.pk,(Below.heap_setCell _ _ _ _ (by simp only;omega)).trans h.res⟩
theorem HBox.all {w W:World} {P:Array Value} {c0 c1 c2 c3 c4 c5 c6 c7 c8 c9 c10 c11:Value} (h:HBox w W P #[c0,c1,c2,c3,c4,c5,c6,c7,c8,c9,c10,c11]) (x0 x1 x2 x3 x4 x5 x6 x7 x8 x9 x10 x11:Value):HBox w (setAll w.heap.size [x0,x1,x2,x3,x4,x5,x6,x7,x8,x9,x10,x11] 0 W) P #[x0,x1,x2,x3,x4,x5,x6,x7,x8,x9,x10,x11]:=
 ⟨setAll_below (Nat.le_refl _) _ _ h.bel,setAll12 h.node _ _ _ _ _ _ _ _ _ _ _ _,(setAll_other (by omega) _ _ _).trans h.pk,(setAll_other (by omega) _ _ _).trans h.res⟩
theorem IsNd.lists {W:World} {N:Nd} {t0 t1:ByteArray} {p2 p3 p4 p5 p11:Option Addr} {k2 c2 k3 c3 k4 c4 k5 c5 k11 c11:Nat} {i6 i7 i8 i9 i10:Int} (h:IsNd W N #[.string t0,.string t1,.slice p2 k2 c2,.slice p3 k3 c3,.slice p4 k4 c4,.slice p5 k5 c5,.int .i64 i6,.int .i64 i7,.int .i64 i8,.int .i64 i9,.int .i64 i10,.slice p11 k11 c11]):Sv.Sl W (.slice p4 k4 c4) N.sv∧Gw.Sl W (.slice p5 k5 c5) N.gw∧Wh.Sl W (.slice p11 k11 c11) N.wh∧k11=N.wh.length:=by
 obtain ⟨vm,vr,vs,vg,vw,hA,hi⟩:=h
 simp only [ndA,Array.mk.injEq,List.cons.injEq,and_true] at hA
 obtain ⟨e0,e1,e2,e3,e4,e5,e6,e7,e8,e9,e10,e11⟩:=hA
 have h1:=hi.wh
 rw [← e11] at h1
 refine ⟨by rw [e4];exact hi.sv,by rw [e5];exact hi.gw,h1,?_⟩
 obtain ⟨_,_,hv,_⟩:=h1
 injection hv
def hkE (n:Nd) (pe:Int) (ms:List Mem) (k:Nat):Int:=if pe=0 then hsE n (ms.take k) else pe
theorem hkE_next {n:Nd} {pe:Int} {ms:List Mem} {k:Nat} (hk:k < ms.length) (h:hkE n pe ms k=0):pe=0∧hkE n pe ms (k+1)=spE (hsN n (ms.take k)) (ms.getD k dm)∧hsN n (ms.take (k+1))=spN (hsN n (ms.take k)) (ms.getD k dm)∧hsE n (ms.take k)=0:=by
 unfold hkE at h
 split at h
 ·rename_i h0
  have ht:ms.take (k+1)=ms.take k++[ms.getD k dm]:=by
   rw [List.take_succ_eq_append_getElem hk];simp [List.getD,List.getElem?_eq_getElem hk]
  obtain ⟨h1,h2⟩:=hs_snoc (ms.take k) n (ms.getD k dm)
  refine ⟨h0,?_,by rw [ht];exact h1,h⟩
  unfold hkE
  rw [if_pos h0,ht]
  exact h2 h
 ·rename_i h0;exact absurd h h0
theorem hkE_bad {n:Nd} {pe:Int} {ms:List Mem} {k:Nat} (h:hkE n pe ms k≠0):(if pe=0 then hsE n ms else pe)=hkE n pe ms k:=by
 unfold hkE at h ⊢
 split
 ·rename_i h0
  rw [if_pos h0] at h
  have:=hs_bad (ms.take k) (ms.drop k) n h
  rw [List.take_append_drop] at this
  exact this
 ·rfl
set_option maxHeartbeats 51200000 in
set_option maxRecDepth 100000 in
theorem hearOf_is (n:Nd) (p:Pk) (A:Array Value) (zm zs zg zw:Value) (w:World) (h:IsNd w n A) (he:n.e=0) (hx:PkIs w p zm zs zg zw) :
 Calls Tryz.prog 25 #[.agg A,.agg #[.string p.frm,.bool p.whole,zm,zs,zg,zw]] w fun e w'=>∃ C,e=.returned (.tuple #[.agg C,.int .i64 (hrE n p)])∧Res w' (hrE n p) (hrN n p) C∧Below w.heap.size w w':=by
 have hp:=Nd.parts (Nd.e_zero he).1
 have hok:=h.ok
 have HN0:Hid (IsNd w n A):=h
 have HCP:Hid (∀ W,Below w.heap.size w W→Calls Tryz.prog 68 #[.agg #[.string p.frm,.bool p.whole,zm,zs,zg,zw]] W fun e w'=>e=.returned (.int .i64 p.e)∧Below W.heap.size W w'):=fun W hW=>refPacket_any p zm zs zg zw W (hx.below hW)
 have HXI:Hid (PkIs w p zm zs zg zw):=hx
 have HPM:Hid (p.e=0→(∀ m∈p.ms,m.e=0)∧p.ms.length≤20∧p.wh.length≤20∧Sv.chk p.sv=0∧Gw.chk p.gw=0):=fun h=>⟨(pk_ms h).1,(pk_ms h).2.1,(Wh.chk_zero (pk_ms h).2.2.1).1,(pk_ms h).2.2.2.1,(pk_ms h).2.2.2.2⟩
 have HE:Hid (hrE n p=if p.e=0 then (if hsE n p.ms=0 then (if Sv.joinE n.sv p.sv=0 then Gw.joinE n.gw p.gw else Sv.joinE n.sv p.sv) else hsE n p.ms) else p.e):=rfl
 have HNN:Hid (hrN n p={ hsN n p.ms with sv:=Sv.joinL n.sv p.sv,gw:=Gw.joinL n.gw p.gw,wh:=lrn n.wh p.wh }):=rfl
 have HNE:Hid (n.e=0):=he
 have HPT:Hid (n.Parts):=hp
 have HWF:Hid (Wh.Fine n.wh):=Wh.fine_chk hp.wh hok.wh
 obtain ⟨t0a,t1a,p2a,k2a,c2a,p3a,k3a,c3a,p4a,k4a,c4a,p5a,k5a,c5a,i6a,i7a,i8a,i9a,i10a,p11a,k11a,c11a,rfl⟩:=h.letters
 simp only [ndV] at HN0 ⊢
 obtain ⟨frm,whole,ms,sv,gw,wh⟩:=p
 obtain ⟨hms,hpsv,hpgw,hpwh,hfr,hroom⟩:=hx
 simp only at hms hpsv hpgw hpwh HE HNN HCP HPM ⊢
 obtain ⟨pm,cm,rfl,hms1,hms2⟩:=hms
 obtain ⟨ps,cs,rfl,_,_⟩:=hpsv
 obtain ⟨pg,cg,rfl,_,_⟩:=hpgw
 obtain ⟨ph,ch,rfl,hwh1,hwh2⟩:=hpwh
 have HROW:Hid (ms=[]∨∃ b off,pm=some ⟨b,off,none⟩∧b < w.heap.size∧Row w b off ms):=hms2
 have HMZ:Hid (∀ j,(ms.getD j dm).name.size≤maxLen):=hms1
 have HRWH:Hid (wh=[]∨∃ b off,ph=some ⟨b,off,none⟩∧b < w.heap.size∧Wh.Row w b off wh):=hwh2
 have HWZ:Hid (∀ j,(wh.getD j Wh.dm).ok):=hwh1
 have HJS:Hid (Pk.e ⟨frm,whole,ms,sv,gw,wh⟩=0→∀ W va,Below w.heap.size w W→Sv.Sl W va n.sv→Calls Tryz.prog 70 #[va,.slice ps sv.length cs] W fun e w'=>∃ a c,e=.returned (.slice a (Sv.joinL n.sv sv).length c)∧Sv.Sl w' (.slice a (Sv.joinL n.sv sv).length c) (Sv.joinL n.sv sv)∧Below W.heap.size W w'):=fun h0 W va hW hva=>by
  have l1:=(Sv.chk_zero hp.sv)
  have l2:=(Sv.chk_zero (HPM.out h0).2.2.2.1).1
  refine (Sv.refJoin_any n.sv sv va _ W hva (HXI.out.sv.below hW) (by omega) (by omega) l1.2.1).mono ?_
  rintro e w' ⟨v',rfl,hs,hb⟩
  have hs2:=hs.out
  obtain ⟨a,c,rfl,_⟩:=hs.out
  exact ⟨a,c,rfl,hs2,hb⟩
 have HJG:Hid (Pk.e ⟨frm,whole,ms,sv,gw,wh⟩=0→∀ W va,Below w.heap.size w W→Gw.Sl W va n.gw→Calls Tryz.prog 71 #[va,.slice pg gw.length cg] W fun e w'=>∃ a c,e=.returned (.slice a (Gw.joinL n.gw gw).length c)∧Gw.Sl w' (.slice a (Gw.joinL n.gw gw).length c) (Gw.joinL n.gw gw)∧Below W.heap.size W w'):=fun h0 W va hW hva=>by
  have l1:=(Gw.chk_zero hp.gw)
  have l2:=(Gw.chk_zero (HPM.out h0).2.2.2.2).1
  refine (Gw.refJoin_any n.gw gw va _ W hva (HXI.out.gw.below hW) (by omega) (by omega) l1.2.1).mono ?_
  rintro e w' ⟨v',rfl,hs,hb⟩
  have hs2:=hs.out
  obtain ⟨a,c,rfl,_⟩:=hs.out
  exact ⟨a,c,rfl,hs2,hb⟩
 have HEJ:Hid (Pk.e ⟨frm,whole,ms,sv,gw,wh⟩=0→hsE n ms=0→hrE n ⟨frm,whole,ms,sv,gw,wh⟩=if 40 < (Sv.joinL n.sv sv).length∨6 < (Gw.joinL n.gw gw).length then 2 else 0):=fun h0 h1=>by
  rw [HE.out,if_pos h0,if_pos h1,Sv.joinE_good hp.sv (HPM.out h0).2.2.2.1,Gw.joinE_good hp.gw (HPM.out h0).2.2.2.2]
  by_cases l1:40 < (Sv.joinL n.sv sv).length
  ·rw [if_pos l1,if_neg (by decide),if_pos (.inl l1)]
  ·rw [if_neg l1,if_pos rfl]
   by_cases l2:6 < (Gw.joinL n.gw gw).length
   ·rw [if_pos l2,if_pos (.inr l2)]
   ·rw [if_neg l2,if_neg (by omega)]
 have HRST:Hid (∀ l,Rest n (hsN n l)):=fun l=>rest_hs l n
 have HEB:Hid (hkE n (Pk.e ⟨frm,whole,ms,sv,gw,wh⟩) ms ms.length=0→Pk.e ⟨frm,whole,ms,sv,gw,wh⟩=0∧hsE n ms=0):=fun h=>by
  unfold hkE at h
  split at h
  ·rename_i h0;rw [List.take_length] at h;exact ⟨h0,h⟩
  ·rename_i h0;exact absurd h h0
 have HEX:Hid (∀ k,hkE n (Pk.e ⟨frm,whole,ms,sv,gw,wh⟩) ms k≠0→hrE n ⟨frm,whole,ms,sv,gw,wh⟩=hkE n (Pk.e ⟨frm,whole,ms,sv,gw,wh⟩) ms k):=fun k hk=>by
  have h1:=hkE_bad hk
  rw [← h1,HE.out]
  by_cases h0:Pk.e ⟨frm,whole,ms,sv,gw,wh⟩=0
  ·rw [if_pos h0,if_pos h0,if_neg]
   intro h2
   rw [if_pos h0,h2] at h1
   exact hk h1.symm
  ·rw [if_neg h0,if_neg h0]
 have HKN:Hid (∀ k,k < ms.length→hkE n (Pk.e ⟨frm,whole,ms,sv,gw,wh⟩) ms k=0→hkE n (Pk.e ⟨frm,whole,ms,sv,gw,wh⟩) ms (k+1)=spE (hsN n (ms.take k)) (ms.getD k dm)∧hsN n (ms.take (k+1))=spN (hsN n (ms.take k)) (ms.getD k dm)∧(hsN n (ms.take k)).e=0∧(ms.getD k dm).e=0∧ms.length≤20):=fun k hk h=>by
  obtain ⟨h0,h1,h2,h3⟩:=hkE_next hk h
  have hm:=HPM.out h0
  exact ⟨h1,h2,hs_e0 (ms.take k) n HNE.out (fun m hx=>hm.1 m (List.mem_of_mem_take hx)) h3,hm.1 _ (by rw [show ms.getD k dm=ms[k] by simp [List.getD,List.getElem?_eq_getElem hk]];exact List.getElem_mem _),hm.2.1⟩
 have HK0:Hid (hkE n (Pk.e ⟨frm,whole,ms,sv,gw,wh⟩) ms 0=Pk.e ⟨frm,whole,ms,sv,gw,wh⟩):=by
  show hkE _ _ _ _=_
  unfold hkE
  split
  ·rename_i h0;rw [h0];rfl
  ·rfl
 have HPW:Hid (Pk.e ⟨frm,whole,ms,sv,gw,wh⟩=0→wh.length≤20):=fun h=>(HPM.out h).2.2.1
 clear HE HPM hms1 hms2 hwh1 hwh2 hfr hroom h he hp hok
 generalize hrE n ⟨frm,whole,ms,sv,gw,wh⟩=SE at *
 generalize hrN n ⟨frm,whole,ms,sv,gw,wh⟩=SN at *
 generalize Pk.e ⟨frm,whole,ms,sv,gw,wh⟩=pe at *
 generalize hnm:ms.length=nm at *
 have HNM:Hid (ms.length=nm):=hnm
 generalize hns:sv.length=ns at *
 generalize hng:gw.length=ng at *
 generalize hnh:wh.length=nh at *
 have HNH:Hid (wh.length=nh):=hnh
 clear hnm hns hng hnh
 generalize Sv.joinL n.sv sv=SJ at *
 generalize Gw.joinL n.gw gw=GJ at *
 generalize hjl:SJ.length=jl at *
 generalize hgl:GJ.length=gl at *
 clear hjl hgl
 obtain ⟨W0,hW0⟩:∃ W0,W0=((w.alloc (.cells #[.string t0a,.string t1a,.slice p2a k2a c2a,.slice p3a k3a c3a,.slice p4a k4a c4a,.slice p5a k5a c5a,.int .i64 i6a,.int .i64 i7a,.int .i64 i8a,.int .i64 i9a,.int .i64 i10a,.slice p11a k11a c11a] 30)).alloc (.cells #[.string frm,.bool whole,.slice pm nm cm,.slice ps ns cs,.slice pg ng cg,.slice ph nh ch] 44)).alloc (.cells #[.string ⟨#[]⟩,.string ⟨#[]⟩,.slice none 0 0,.slice none 0 0,.slice none 0 0,.slice none 0 0,.int .i64 0,.int .i64 0,.int .i64 0,.int .i64 0,.int .i64 0,.slice none 0 0] 30):=⟨_,rfl⟩
 have HB0:Hid (HBox w W0 #[.string frm,.bool whole,.slice pm nm cm,.slice ps ns cs,.slice pg ng cg,.slice ph nh ch] (#[.string t0a,.string t1a,.slice p2a k2a c2a,.slice p3a k3a c3a,.slice p4a k4a c4a,.slice p5a k5a c5a,.int .i64 i6a,.int .i64 i7a,.int .i64 i8a,.int .i64 i9a,.int .i64 i10a,.slice p11a k11a c11a])):=by
  refine ⟨?_,?_,?_,?_⟩
  ·rw [hW0];exact (((Below.refl _ _).alloc (Nat.le_refl _) _).alloc (by simp) _).alloc (by simp<;>omega) _
  ·rw [hW0,Below.heap_alloc _ _ _ (by simp<;>omega),Below.heap_alloc _ _ _ (by simp)];exact heap_alloc_new w _
  ·have h:=heap_alloc_new (w.alloc (.cells #[.string t0a,.string t1a,.slice p2a k2a c2a,.slice p3a k3a c3a,.slice p4a k4a c4a,.slice p5a k5a c5a,.int .i64 i6a,.int .i64 i7a,.int .i64 i8a,.int .i64 i9a,.int .i64 i10a,.slice p11a k11a c11a] 30)) (.cells #[.string frm,.bool whole,.slice pm nm cm,.slice ps ns cs,.slice pg ng cg,.slice ph nh ch] 44)
   rw [hW0,Below.heap_alloc _ _ _ (by simp)];simpa using h
  ·have h:=heap_alloc_new ((w.alloc (.cells #[.string t0a,.string t1a,.slice p2a k2a c2a,.slice p3a k3a c3a,.slice p4a k4a c4a,.slice p5a k5a c5a,.int .i64 i6a,.int .i64 i7a,.int .i64 i8a,.int .i64 i9a,.int .i64 i10a,.slice p11a k11a c11a] 30)).alloc (.cells #[.string frm,.bool whole,.slice pm nm cm,.slice ps ns cs,.slice pg ng cg,.slice ph nh ch] 44)) (.cells #[.string ⟨#[]⟩,.string ⟨#[]⟩,.slice none 0 0,.slice none 0 0,.slice none 0 0,.slice none 0 0,.int .i64 0,.int .i64 0,.int .i64 0,.int .i64 0,.int .i64 0,.slice none 0 0] 30)
   rw [hW0];simpa using h
 have hpk:=HB0.out.pk
 obtain ⟨p0,p1,p2,p3,p4,p5⟩:=cells6 hpk
 clear hpk
 go_enter Tryz.func25,Tryz.ntmps25
 go_upto_region 1 with fail
 rw [← hW0]
 clear hW0
 go_wp2_with fail
 refine (HCP.out W0 HB0.out.bel).mono ?_
 rintro e w1 ⟨rfl,hb1⟩
 have HB1:Hid (HBox w w1 #[.string frm,.bool whole,.slice pm nm cm,.slice ps ns cs,.slice pg ng cg,.slice ph nh ch] (#[.string t0a,.string t1a,.slice p2a k2a c2a,.slice p3a k3a c3a,.slice p4a k4a c4a,.slice p5a k5a c5a,.int .i64 i6a,.int .i64 i7a,.int .i64 i8a,.int .i64 i9a,.int .i64 i10a,.slice p11a k11a c11a])):=HB0.out.below hb1
 have HN1:Hid (IsNd w1 n #[.string t0a,.string t1a,.slice p2a k2a c2a,.slice p3a k3a c3a,.slice p4a k4a c4a,.slice p5a k5a c5a,.int .i64 i6a,.int .i64 i7a,.int .i64 i8a,.int .i64 i9a,.int .i64 i10a,.slice p11a k11a c11a]):=HN0.out.below HB1.out.bel
 clear hb1 p0 p1 p2 p3 p4 p5 HB0 HCP
 go_wp2_with fail
 go_loopw [6,7] (fun er i w'=>∃ (k:Nat) (E:Int) (C:Array Value) (N:Nd),k≤nm∧er=.int .i64 E∧i=.int .i64 k∧Hid (HBox w w' #[.string frm,.bool whole,.slice pm nm cm,.slice ps ns cs,.slice pg ng cg,.slice ph nh ch] C)∧Hid (IsNd w' N C)∧Hid (E=hkE n pe ms k)∧Hid (E=0→N=hsN n (ms.take k))) (fun _ i _=>nm - (intOf i).toNat)
 case atStart=>exact ⟨0,pe,_,n,Nat.zero_le _,rfl,rfl,HB1,HN1,HK0.out.symm,fun _=>rfl⟩
 case round=>
  obtain ⟨k,E,C,N,hk,rfl,rfl,HB,HN,HEE,HNK⟩:=hrel
  clear HB1 HN1
  obtain ⟨t0a,t1a,p2a,k2a,c2a,p3a,k3a,c3a,p4a,k4a,c4a,p5a,k5a,c5a,i6a,i7a,i8a,i9a,i10a,p11a,k11a,c11a,rfl⟩:=HN.out.letters
  simp only [ndV] at HB HN
  have hg:=HB.out.node
  have hpk:=HB.out.pk
  obtain ⟨a0,a1,a2,a3,a4,a5,a6,a7,a8,a9,a10,a11⟩:=cells12 hg
  obtain ⟨az0,az1,az2,az3,az4,az5,az6,az7,az8,az9,az10,az11⟩:=frz12 hg
  obtain ⟨p0,p1,p2,p3,p4,p5⟩:=cells6 hpk
  clear hg hpk
  by_cases hE:E=0
  ·subst hE
   have hNK:=HNK.out rfl
   by_cases hlt:k < nm
   ·obtain ⟨hk1,hk2,hk3,hk4,hk5⟩:=HKN.out k hlt HEE.out.symm
    rw [← hNK] at hk1 hk2 hk3
    have HK1:Hid (hkE n pe ms (k+1)=spE N (ms.getD k dm)):=hk1
    have HK2:Hid (hsN n (ms.take (k+1))=spN N (ms.getD k dm)):=hk2
    obtain ⟨b1,o1,hp1,hl1,hr1⟩:∃ b off,pm=some ⟨b,off,none⟩∧b < w.heap.size∧Row w b off ms:=by
     rcases HROW.out with h | h
     ·have:=HNM.out;rw [h] at this;simp at this;omega
     ·exact h
    subst hp1
    obtain ⟨c0,c1,c2,c3,c4⟩:=hr1 k (by rw [HNM.out];exact hlt)
    have HSO:Hid (∀ W,Below wr.heap.size wr W→Calls Tryz.prog 69 #[.agg #[.string t0a,.string t1a,.slice p2a k2a c2a,.slice p3a k3a c3a,.slice p4a k4a c4a,.slice p5a k5a c5a,.int .i64 i6a,.int .i64 i7a,.int .i64 i8a,.int .i64 i9a,.int .i64 i10a,.slice p11a k11a c11a],.agg #[.string (ms.getD k dm).name,.int .i64 (ms.getD k dm).state,.int .i64 (ms.getD k dm).life,.int .i64 (ms.getD k dm).addr,.bool (ms.getD k dm).server]] W fun e w'=>∃ C n1,e=.returned (.tuple #[.agg C,.int .i64 (spE N (ms.getD k dm))])∧IsNd w' n1 C∧(spE N (ms.getD k dm)=0→n1=spN N (ms.getD k dm))∧Below W.heap.size W w'):=fun W hW=>spreadOf_is N (ms.getD k dm) _ W (HN.out.below hW) hk3 hk4 (HMZ.out k)
    have hbl:∀ o,wr.cell? ⟨b1,o,none⟩=w.cell? ⟨b1,o,none⟩:=fun o=>HB.out.bel.cell (p:=⟨b1,o,none⟩) hl1
    have hnm20:nm≤20:=by have:=HNM.out;omega
    clear hr1 hk1 hk2 hk3 hk4 hk5 hNK HNK HEE
    generalize spE N (ms.getD k dm)=XE at *
    generalize spN N (ms.getD k dm)=XN at *
    generalize ms.getD k dm=M at *
    obtain ⟨m0,m1,m2,m3,m4⟩:=M
    simp only at c0 c1 c2 c3 c4 HSO
    have d0:=(hbl _).trans c0
    have d1:=(hbl _).trans c1
    have d2:=(hbl _).trans c2
    have d3:=(hbl _).trans c3
    have d4:=(hbl _).trans c4
    clear hbl c0 c1 c2 c3 c4
    have hki:(k:Int) < (nm:Int):=by omega
    go_upto_region 5 with fail
    go_region_with (first | (go_at_call 69;refine (HSO.out _ (Below.refl _ _).drew).mono ?_;rintro e w5 ⟨C5,n5,rfl,hN5,hwy,hb5⟩;obtain ⟨t0c,t1c,p2c,k2c,c2c,p3c,k3c,c3c,p4c,k4c,c4c,p5c,k5c,c5c,i6c,i7c,i8c,i9c,i10c,p11c,k11c,c11c,hC5⟩:=hN5.letters;subst hC5;simp only [ndV] at hN5 ⊢;have HB5:Hid (HBox w w5 _ #[.string t0a,.string t1a,.slice p2a k2a c2a,.slice p3a k3a c3a,.slice p4a k4a c4a,.slice p5a k5a c5a,.int .i64 i6a,.int .i64 i7a,.int .i64 i8a,.int .i64 i9a,.int .i64 i10a,.slice p11a k11a c11a]):=HB.out.below ((Below.refl wr.heap.size wr).drew.trans hb5);have HN5:Hid (IsNd w5 n5 #[.string t0c,.string t1c,.slice p2c k2c c2c,.slice p3c k3c c3c,.slice p4c k4c c4c,.slice p5c k5c c5c,.int .i64 i6c,.int .i64 i7c,.int .i64 i8c,.int .i64 i9c,.int .i64 i10c,.slice p11c k11c c11c]):=hN5;have HWY:Hid (XE=0→n5=XN):=hwy;have hg5:=HB5.out.node;have y0:w5.cell? ⟨w.heap.size,0,none⟩=some (.string t0a):=cellsAt hg5 0;have yz0:w5.frozen? ⟨w.heap.size,0,none⟩=false:=frozen_of hg5 0;have y1:w5.cell? ⟨w.heap.size,1,none⟩=some (.string t1a):=cellsAt hg5 1;have yz1:w5.frozen? ⟨w.heap.size,1,none⟩=false:=frozen_of hg5 1;have y2:w5.cell? ⟨w.heap.size,2,none⟩=some (.slice p2a k2a c2a):=cellsAt hg5 2;have yz2:w5.frozen? ⟨w.heap.size,2,none⟩=false:=frozen_of hg5 2;have y3:w5.cell? ⟨w.heap.size,3,none⟩=some (.slice p3a k3a c3a):=cellsAt hg5 3;have yz3:w5.frozen? ⟨w.heap.size,3,none⟩=false:=frozen_of hg5 3;have y4:w5.cell? ⟨w.heap.size,4,none⟩=some (.slice p4a k4a c4a):=cellsAt hg5 4;have yz4:w5.frozen? ⟨w.heap.size,4,none⟩=false:=frozen_of hg5 4;have y5:w5.cell? ⟨w.heap.size,5,none⟩=some (.slice p5a k5a c5a):=cellsAt hg5 5;have yz5:w5.frozen? ⟨w.heap.size,5,none⟩=false:=frozen_of hg5 5;have y6:w5.cell? ⟨w.heap.size,6,none⟩=some (.int .i64 i6a):=cellsAt hg5 6;have yz6:w5.frozen? ⟨w.heap.size,6,none⟩=false:=frozen_of hg5 6;have y7:w5.cell? ⟨w.heap.size,7,none⟩=some (.int .i64 i7a):=cellsAt hg5 7;have yz7:w5.frozen? ⟨w.heap.size,7,none⟩=false:=frozen_of hg5 7;have y8:w5.cell? ⟨w.heap.size,8,none⟩=some (.int .i64 i8a):=cellsAt hg5 8;have yz8:w5.frozen? ⟨w.heap.size,8,none⟩=false:=frozen_of hg5 8;have y9:w5.cell? ⟨w.heap.size,9,none⟩=some (.int .i64 i9a):=cellsAt hg5 9;have yz9:w5.frozen? ⟨w.heap.size,9,none⟩=false:=frozen_of hg5 9;have y10:w5.cell? ⟨w.heap.size,10,none⟩=some (.int .i64 i10a):=cellsAt hg5 10;have yz10:w5.frozen? ⟨w.heap.size,10,none⟩=false:=frozen_of hg5 10;have y11:w5.cell? ⟨w.heap.size,11,none⟩=some (.slice p11a k11a c11a):=cellsAt hg5 11;have yz11:w5.frozen? ⟨w.heap.size,11,none⟩=false:=frozen_of hg5 11;clear hN5 hwy hb5 hg5))
    all_goals
     obtain ⟨W6,hW6⟩:∃ W6,W6=((((((((((((w5.setCell ⟨w.heap.size,0,none⟩ (.string t0c)).setCell ⟨w.heap.size,1,none⟩ (.string t1c)).setCell ⟨w.heap.size,2,none⟩ (.slice p2c k2c c2c)).setCell ⟨w.heap.size,3,none⟩ (.slice p3c k3c c3c)).setCell ⟨w.heap.size,4,none⟩ (.slice p4c k4c c4c)).setCell ⟨w.heap.size,5,none⟩ (.slice p5c k5c c5c)).setCell ⟨w.heap.size,6,none⟩ (.int .i64 i6c)).setCell ⟨w.heap.size,7,none⟩ (.int .i64 i7c)).setCell ⟨w.heap.size,8,none⟩ (.int .i64 i8c)).setCell ⟨w.heap.size,9,none⟩ (.int .i64 i9c)).setCell ⟨w.heap.size,10,none⟩ (.int .i64 i10c)).setCell ⟨w.heap.size,11,none⟩ (.slice p11c k11c c11c)):=⟨_,rfl⟩
     have hF:W6=setAll (w.heap.size) [.string t0c,.string t1c,.slice p2c k2c c2c,.slice p3c k3c c3c,.slice p4c k4c c4c,.slice p5c k5c c5c,.int .i64 i6c,.int .i64 i7c,.int .i64 i8c,.int .i64 i9c,.int .i64 i10c,.slice p11c k11c c11c] 0 w5:=by rw [hW6];simp only [setAll,Nat.zero_add,Nat.reduceAdd]
     have HB6:Hid (HBox w W6 #[.string frm,.bool whole,.slice (some ⟨b1,o1,none⟩) nm cm,.slice ps ns cs,.slice pg ng cg,.slice ph nh ch] #[.string t0c,.string t1c,.slice p2c k2c c2c,.slice p3c k3c c3c,.slice p4c k4c c4c,.slice p5c k5c c5c,.int .i64 i6c,.int .i64 i7c,.int .i64 i8c,.int .i64 i9c,.int .i64 i10c,.slice p11c k11c c11c]):=by rw [hF];exact HB5.out.all _ _ _ _ _ _ _ _ _ _ _ _
     have HN6:Hid (IsNd W6 n5 #[.string t0c,.string t1c,.slice p2c k2c c2c,.slice p3c k3c c3c,.slice p4c k4c c4c,.slice p5c k5c c5c,.int .i64 i6c,.int .i64 i7c,.int .i64 i8c,.int .i64 i9c,.int .i64 i10c,.slice p11c k11c c11c]):=by rw [hF];exact HN5.out.setAll (NBox.of HB5.out.node) _ _
     rw [← hW6]
     clear hW6 hF y0 yz0 y1 yz1 y2 yz2 y3 yz3 y4 yz4 y5 yz5 y6 yz6 y7 yz7 y8 yz8 y9 yz9 y10 yz10 y11 yz11 a0 az0 a1 az1 a2 az2 a3 az3 a4 az4 a5 az5 a6 az6 a7 az7 a8 az8 a9 az9 a10 az10 a11 az11 p0 p1 p2 p3 p4 p5 d0 d1 d2 d3 d4
     go_wp2_with fail
     go_roundw
     case rel=>exact ⟨k+1,XE,_,n5,by omega,rfl,by go_num,HB6,HN6,HK1.out.symm,fun h=>by rw [HK2.out];exact HWY.out h⟩
     case measure=>simp [intOf];omega
   ·have hkn:k=nm:=by omega
    have hz:=HEE.out.symm
    rw [hkn] at hz
    obtain ⟨h0,h1⟩:=HEB.out hz
    have hms:ms.take k=ms:=List.take_of_length_le (by rw [HNM.out];omega)
    rw [hms] at hNK
    have HNQ:Hid (N=hsN n ms):=hNK
    have HRS:Hid (Rest n N):=by rw [HNQ.out];exact HRST.out ms
    have HSE0:Hid (SE=if 40 < jl∨6 < gl then 2 else 0):=HEJ.out h0 h1
    have HJS2:=HJS.out h0
    have HJG2:=HJG.out h0
    have hnh20:nh≤20:=HPW.out h0
    have HJS3:Hid _:=HJS2
    have HJG3:Hid _:=HJG2
    clear HJS2 HJG2 HJS HJG HEJ HEB HEX HKN HK0 HPW h0 h1 hz hms hNK HNK HEE HROW HMZ
    have hlti:¬ (k:Int) < (nm:Int):=by omega
    go_upto_region 8 with fail
    go_wp2_with fail
    refine (HJS3.out wr _ HB.out.bel (by have h:=HN.out.lists.1;rw [HRS.out.sv] at h;exact h)).mono ?_
    rintro e w8 ⟨ja,jc,rfl,hs8,hb8⟩
    have HB8:Hid (HBox w w8 #[.string frm,.bool whole,.slice pm nm cm,.slice ps ns cs,.slice pg ng cg,.slice ph nh ch] #[.string t0a,.string t1a,.slice p2a k2a c2a,.slice p3a k3a c3a,.slice p4a k4a c4a,.slice p5a k5a c5a,.int .i64 i6a,.int .i64 i7a,.int .i64 i8a,.int .i64 i9a,.int .i64 i10a,.slice p11a k11a c11a]):=HB.out.below hb8
    have HN8:Hid (IsNd w8 N #[.string t0a,.string t1a,.slice p2a k2a c2a,.slice p3a k3a c3a,.slice p4a k4a c4a,.slice p5a k5a c5a,.int .i64 i6a,.int .i64 i7a,.int .i64 i8a,.int .i64 i9a,.int .i64 i10a,.slice p11a k11a c11a]):=HN.out.below hb8
    have HS8:Hid (Sv.Sl w8 (.slice ja jl jc) SJ):=hs8
    clear HB HN hs8 hb8 a0 az0 a1 az1 a2 az2 a3 az3 a4 az4 a5 az5 a6 az6 a7 az7 a8 az8 a9 az9 a10 az10 a11 az11 p0 p1 p2 p3 p4 p5 HJS3
    obtain ⟨W9,hW9⟩:∃ W9,W9=w8.setCell ⟨w.heap.size,4,none⟩ (.slice ja jl jc):=⟨_,rfl⟩
    have HB9:Hid (HBox w W9 #[.string frm,.bool whole,.slice pm nm cm,.slice ps ns cs,.slice pg ng cg,.slice ph nh ch] #[.string t0a,.string t1a,.slice p2a k2a c2a,.slice p3a k3a c3a,.slice ja jl jc,.slice p5a k5a c5a,.int .i64 i6a,.int .i64 i7a,.int .i64 i8a,.int .i64 i9a,.int .i64 i10a,.slice p11a k11a c11a]):=by rw [hW9];exact HB8.out.set 4 _
    have HN9:Hid (IsNd W9 { N with sv:=SJ } #[.string t0a,.string t1a,.slice p2a k2a c2a,.slice p3a k3a c3a,.slice ja jl jc,.slice p5a k5a c5a,.int .i64 i6a,.int .i64 i7a,.int .i64 i8a,.int .i64 i9a,.int .i64 i10a,.slice p11a k11a c11a]):=by rw [hW9];exact HN8.out.set_sv HB8.out.node HS8.out
    have hg:=HB8.out.node
    have hpk:=HB8.out.pk
    obtain ⟨a0,a1,a2,a3,a4,a5,a6,a7,a8,a9,a10,a11⟩:=cells12 hg
    obtain ⟨az0,az1,az2,az3,az4,az5,az6,az7,az8,az9,az10,az11⟩:=frz12 hg
    obtain ⟨p0,p1,p2,p3,p4,p5⟩:=cells6 hpk
    clear hg hpk
    go_upto_region 9 with fail
    rw [← hW9]
    clear hW9 HB8 HN8 HS8 a0 az0 a1 az1 a2 az2 a3 az3 a4 az4 a5 az5 a6 az6 a7 az7 a8 az8 a9 az9 a10 az10 a11 az11 p0 p1 p2 p3 p4 p5
    have hg:=HB9.out.node
    have hpk:=HB9.out.pk
    obtain ⟨a0,a1,a2,a3,a4,a5,a6,a7,a8,a9,a10,a11⟩:=cells12 hg
    obtain ⟨az0,az1,az2,az3,az4,az5,az6,az7,az8,az9,az10,az11⟩:=frz12 hg
    obtain ⟨p0,p1,p2,p3,p4,p5⟩:=cells6 hpk
    clear hg hpk
    go_wp2_with fail
    refine (HJG3.out W9 _ HB9.out.bel (by have h:=HN9.out.lists.2.1;rw [show ({ N with sv:=SJ }:Nd).gw=n.gw from HRS.out.gw] at h;exact h)).mono ?_
    rintro e w10 ⟨ga,gc,rfl,hs8,hb8⟩
    have HB10:Hid (HBox w w10 #[.string frm,.bool whole,.slice pm nm cm,.slice ps ns cs,.slice pg ng cg,.slice ph nh ch] #[.string t0a,.string t1a,.slice p2a k2a c2a,.slice p3a k3a c3a,.slice ja jl jc,.slice p5a k5a c5a,.int .i64 i6a,.int .i64 i7a,.int .i64 i8a,.int .i64 i9a,.int .i64 i10a,.slice p11a k11a c11a]):=HB9.out.below hb8
    have HN10:Hid (IsNd w10 { N with sv:=SJ } #[.string t0a,.string t1a,.slice p2a k2a c2a,.slice p3a k3a c3a,.slice ja jl jc,.slice p5a k5a c5a,.int .i64 i6a,.int .i64 i7a,.int .i64 i8a,.int .i64 i9a,.int .i64 i10a,.slice p11a k11a c11a]):=HN9.out.below hb8
    have HS10:Hid (Gw.Sl w10 (.slice ga gl gc) GJ):=hs8
    clear HB9 HN9 hs8 hb8 a0 az0 a1 az1 a2 az2 a3 az3 a4 az4 a5 az5 a6 az6 a7 az7 a8 az8 a9 az9 a10 az10 a11 az11 p0 p1 p2 p3 p4 p5 HJG3
    obtain ⟨W11,hW11⟩:∃ W11,W11=w10.setCell ⟨w.heap.size,5,none⟩ (.slice ga gl gc):=⟨_,rfl⟩
    have HB11:Hid (HBox w W11 #[.string frm,.bool whole,.slice pm nm cm,.slice ps ns cs,.slice pg ng cg,.slice ph nh ch] #[.string t0a,.string t1a,.slice p2a k2a c2a,.slice p3a k3a c3a,.slice ja jl jc,.slice ga gl gc,.int .i64 i6a,.int .i64 i7a,.int .i64 i8a,.int .i64 i9a,.int .i64 i10a,.slice p11a k11a c11a]):=by rw [hW11];exact HB10.out.set 5 _
    have HN11:Hid (IsNd W11 { N with sv:=SJ,gw:=GJ } #[.string t0a,.string t1a,.slice p2a k2a c2a,.slice p3a k3a c3a,.slice ja jl jc,.slice ga gl gc,.int .i64 i6a,.int .i64 i7a,.int .i64 i8a,.int .i64 i9a,.int .i64 i10a,.slice p11a k11a c11a]):=by rw [hW11];exact HN10.out.set_gw HB10.out.node HS10.out
    have hg:=HB10.out.node
    have hpk:=HB10.out.pk
    obtain ⟨a0,a1,a2,a3,a4,a5,a6,a7,a8,a9,a10,a11⟩:=cells12 hg
    obtain ⟨az0,az1,az2,az3,az4,az5,az6,az7,az8,az9,az10,az11⟩:=frz12 hg
    obtain ⟨p0,p1,p2,p3,p4,p5⟩:=cells6 hpk
    clear hg hpk
    go_upto_region 10 with fail
    rw [← hW11]
    clear hW11 HB10 HN10 HS10 a0 az0 a1 az1 a2 az2 a3 az3 a4 az4 a5 az5 a6 az6 a7 az7 a8 az8 a9 az9 a10 az10 a11 az11 p0 p1 p2 p3 p4 p5
    have hg:=HB11.out.node
    have hpk:=HB11.out.pk
    obtain ⟨a0,a1,a2,a3,a4,a5,a6,a7,a8,a9,a10,a11⟩:=cells12 hg
    obtain ⟨az0,az1,az2,az3,az4,az5,az6,az7,az8,az9,az10,az11⟩:=frz12 hg
    obtain ⟨p0,p1,p2,p3,p4,p5⟩:=cells6 hpk
    clear hg hpk
    by_cases hbig:40 < jl∨6 < gl
    ·have HSE:Hid (SE=2):=HSE0.out.trans (if_pos hbig)
     clear HSE0
     by_cases l1:40 < jl
     ·have l1i:(40:Int) < (jl:Int):=by omega
      clear hbig l1
      have hzz:=HB11.out.res
      obtain ⟨z0,z1,z2,z3,z4,z5,z6,z7,z8,z9,z10,z11⟩:=cells12 hzz
      obtain ⟨zz0,zz1,zz2,zz3,zz4,zz5,zz6,zz7,zz8,zz9,zz10,zz11⟩:=frz12 hzz
      obtain ⟨WF,hWF⟩:∃ WF,WF=((((((((((((W11.setCell ⟨w.heap.size+1+1,0,none⟩ (.string ⟨#[]⟩)).setCell ⟨w.heap.size+1+1,1,none⟩ (.string ⟨#[]⟩)).setCell ⟨w.heap.size+1+1,2,none⟩ (.slice none 0 0)).setCell ⟨w.heap.size+1+1,3,none⟩ (.slice none 0 0)).setCell ⟨w.heap.size+1+1,4,none⟩ (.slice none 0 0)).setCell ⟨w.heap.size+1+1,5,none⟩ (.slice none 0 0)).setCell ⟨w.heap.size+1+1,6,none⟩ (.int .i64 0)).setCell ⟨w.heap.size+1+1,7,none⟩ (.int .i64 0)).setCell ⟨w.heap.size+1+1,8,none⟩ (.int .i64 0)).setCell ⟨w.heap.size+1+1,9,none⟩ (.int .i64 0)).setCell ⟨w.heap.size+1+1,10,none⟩ (.int .i64 0)).setCell ⟨w.heap.size+1+1,11,none⟩ (.slice none 0 0)):=⟨_,rfl⟩
      have hF:WF=setAll (w.heap.size+1+1) [.string ⟨#[]⟩,.string ⟨#[]⟩,.slice none 0 0,.slice none 0 0,.slice none 0 0,.slice none 0 0,.int .i64 0,.int .i64 0,.int .i64 0,.int .i64 0,.int .i64 0,.slice none 0 0] 0 W11:=by rw [hWF];simp only [setAll,Nat.zero_add,Nat.reduceAdd]
      have hzF:WF.heap[w.heap.size+1+1]?=some (.cells #[.string ⟨#[]⟩,.string ⟨#[]⟩,.slice none 0 0,.slice none 0 0,.slice none 0 0,.slice none 0 0,.int .i64 0,.int .i64 0,.int .i64 0,.int .i64 0,.int .i64 0,.slice none 0 0] 30 (0,0)):=by rw [hF];exact setAll12 hzz _ _ _ _ _ _ _ _ _ _ _ _
      have HBF:Hid (Below w.heap.size w WF):=by rw [hF];exact setAll_below (by omega) _ _ HB11.out.bel
      clear hF hzz
      go_wp2_with fail
      rw [← hWF]
      clear hWF z0 zz0 z1 zz1 z2 zz2 z3 zz3 z4 zz4 z5 zz5 z6 zz6 z7 zz7 z8 zz8 z9 zz9 z10 zz10 z11 zz11
      obtain ⟨z0,z1,z2,z3,z4,z5,z6,z7,z8,z9,z10,z11⟩:=cells12 hzF
      refine bodyPost_ret (v:=.tuple #[.agg #[.string ⟨#[]⟩,.string ⟨#[]⟩,.slice none 0 0,.slice none 0 0,.slice none 0 0,.slice none 0 0,.int .i64 0,.int .i64 0,.int .i64 0,.int .i64 0,.int .i64 0,.slice none 0 0],.int .i64 2]) ?_ rfl ?_
      ·simp [results,Tryz.results25,go_sem,z0,z1,z2,z3,z4,z5,z6,z7,z8,z9,z10,z11]
      ·exact ⟨_,(by rw [HSE.out];rfl),.inl ⟨(by rw [HSE.out];decide),rfl⟩,HBF.out⟩
     ·have l1i:¬ (40:Int) < (jl:Int):=by omega
      have l2i:(6:Int) < (gl:Int):=by omega
      clear hbig l1
      have hzz:=HB11.out.res
      obtain ⟨z0,z1,z2,z3,z4,z5,z6,z7,z8,z9,z10,z11⟩:=cells12 hzz
      obtain ⟨zz0,zz1,zz2,zz3,zz4,zz5,zz6,zz7,zz8,zz9,zz10,zz11⟩:=frz12 hzz
      obtain ⟨WF,hWF⟩:∃ WF,WF=((((((((((((W11.setCell ⟨w.heap.size+1+1,0,none⟩ (.string ⟨#[]⟩)).setCell ⟨w.heap.size+1+1,1,none⟩ (.string ⟨#[]⟩)).setCell ⟨w.heap.size+1+1,2,none⟩ (.slice none 0 0)).setCell ⟨w.heap.size+1+1,3,none⟩ (.slice none 0 0)).setCell ⟨w.heap.size+1+1,4,none⟩ (.slice none 0 0)).setCell ⟨w.heap.size+1+1,5,none⟩ (.slice none 0 0)).setCell ⟨w.heap.size+1+1,6,none⟩ (.int .i64 0)).setCell ⟨w.heap.size+1+1,7,none⟩ (.int .i64 0)).setCell ⟨w.heap.size+1+1,8,none⟩ (.int .i64 0)).setCell ⟨w.heap.size+1+1,9,none⟩ (.int .i64 0)).setCell ⟨w.heap.size+1+1,10,none⟩ (.int .i64 0)).setCell ⟨w.heap.size+1+1,11,none⟩ (.slice none 0 0)):=⟨_,rfl⟩
      have hF:WF=setAll (w.heap.size+1+1) [.string ⟨#[]⟩,.string ⟨#[]⟩,.slice none 0 0,.slice none 0 0,.slice none 0 0,.slice none 0 0,.int .i64 0,.int .i64 0,.int .i64 0,.int .i64 0,.int .i64 0,.slice none 0 0] 0 W11:=by rw [hWF];simp only [setAll,Nat.zero_add,Nat.reduceAdd]
      have hzF:WF.heap[w.heap.size+1+1]?=some (.cells #[.string ⟨#[]⟩,.string ⟨#[]⟩,.slice none 0 0,.slice none 0 0,.slice none 0 0,.slice none 0 0,.int .i64 0,.int .i64 0,.int .i64 0,.int .i64 0,.int .i64 0,.slice none 0 0] 30 (0,0)):=by rw [hF];exact setAll12 hzz _ _ _ _ _ _ _ _ _ _ _ _
      have HBF:Hid (Below w.heap.size w WF):=by rw [hF];exact setAll_below (by omega) _ _ HB11.out.bel
      clear hF hzz
      go_wp2_with fail
      rw [← hWF]
      clear hWF z0 zz0 z1 zz1 z2 zz2 z3 zz3 z4 zz4 z5 zz5 z6 zz6 z7 zz7 z8 zz8 z9 zz9 z10 zz10 z11 zz11
      obtain ⟨z0,z1,z2,z3,z4,z5,z6,z7,z8,z9,z10,z11⟩:=cells12 hzF
      refine bodyPost_ret (v:=.tuple #[.agg #[.string ⟨#[]⟩,.string ⟨#[]⟩,.slice none 0 0,.slice none 0 0,.slice none 0 0,.slice none 0 0,.int .i64 0,.int .i64 0,.int .i64 0,.int .i64 0,.int .i64 0,.slice none 0 0],.int .i64 2]) ?_ rfl ?_
      ·simp [results,Tryz.results25,go_sem,z0,z1,z2,z3,z4,z5,z6,z7,z8,z9,z10,z11]
      ·exact ⟨_,(by rw [HSE.out];rfl),.inl ⟨(by rw [HSE.out];decide),rfl⟩,HBF.out⟩
    have HSE:Hid (SE=0):=HSE0.out.trans (if_neg hbig)
    have l1i:¬ (40:Int) < (jl:Int):=by omega
    have l2i:¬ (6:Int) < (gl:Int):=by omega
    clear hbig HSE0
    have HN12:Hid (IsNd W11 { N with sv:=SJ,gw:=GJ,wh:=lrn n.wh (wh.take 0) } #[.string t0a,.string t1a,.slice p2a k2a c2a,.slice p3a k3a c3a,.slice ja jl jc,.slice ga gl gc,.int .i64 i6a,.int .i64 i7a,.int .i64 i8a,.int .i64 i9a,.int .i64 i10a,.slice p11a k11a c11a]):=by
     have e:({ N with sv:=SJ,gw:=GJ,wh:=lrn n.wh (wh.take 0) }:Nd)={ N with sv:=SJ,gw:=GJ }:=by
      have e2:lrn n.wh (wh.take 0)=N.wh:=HRS.out.wh.symm
      rw [e2]
     rw [e];exact HN11.out
    clear HN11
    have HNX:Hid (SN={ N with sv:=SJ,gw:=GJ,wh:=lrn n.wh wh }):=HNN.out.trans (by rw [HNQ.out])
    clear HNN HNQ
    go_upto_region 12 with fail
    go_wp2_with fail
    clear a0 az0 a1 az1 a2 az2 a3 az3 a4 az4 a5 az5 a6 az6 a7 az7 a8 az8 a9 az9 a10 az10 a11 az11 p0 p1 p2 p3 p4 p5
    go_loopw [8] (fun i w'=>∃ (k:Nat) (C:Array Value),k≤nh∧i=.int .i64 k∧Hid (HBox w w' #[.string frm,.bool whole,.slice pm nm cm,.slice ps ns cs,.slice pg ng cg,.slice ph nh ch] C)∧Hid (IsNd w' { N with sv:=SJ,gw:=GJ,wh:=lrn n.wh (wh.take k) } C)) (fun i _=>nh - (intOf i).toNat)
    case atStart=>exact ⟨0,_,Nat.zero_le _,rfl,HB11,HN12⟩
    case round=>
     clear HB11 HN12 hlti hlt hkn
     obtain ⟨q,C,hk,rfl,HB,HN⟩:=hrel
     obtain ⟨t0a,t1a,p2a,k2a,c2a,p3a,k3a,c3a,p4a,k4a,c4a,p5a,k5a,c5a,i6a,i7a,i8a,i9a,i10a,p11a,k11a,c11a,rfl⟩:=HN.out.letters
     simp only [ndV] at HB HN
     have hg:=HB.out.node
     have hpk:=HB.out.pk
     obtain ⟨a0,a1,a2,a3,a4,a5,a6,a7,a8,a9,a10,a11⟩:=cells12 hg
     obtain ⟨az0,az1,az2,az3,az4,az5,az6,az7,az8,az9,az10,az11⟩:=frz12 hg
     obtain ⟨p0,p1,p2,p3,p4,p5⟩:=cells6 hpk
     clear hg hpk
     by_cases hlt:q < nh
     ·obtain ⟨b1,o1,hp1,hl1,hr1⟩:∃ b off,ph=some ⟨b,off,none⟩∧b < w.heap.size∧Wh.Row w b off wh:=by
       rcases HRWH.out with h | h
       ·have:=HNH.out;rw [h] at this;simp at this;omega
       ·exact h
      subst hp1
      obtain ⟨c0,c1,c2,c3,c4,c5⟩:=hr1 q (by rw [HNH.out];exact hlt)
      have hbl:∀ o,wr.cell? ⟨b1,o,none⟩=w.cell? ⟨b1,o,none⟩:=fun o=>HB.out.bel.cell (p:=⟨b1,o,none⟩) hl1
      have HFK:Hid (Wh.Fine (lrn n.wh (wh.take q))):=fine_lrn HWF.out (fun m hm=>Wh.ns_mem HWZ.out m (List.mem_of_mem_take hm))
      have HST:Hid (lrn n.wh (wh.take (q+1))=lrn1 (lrn n.wh (wh.take q)) (wh.getD q Wh.dm)):=lrn_take n.wh wh q (by rw [HNH.out];exact hlt)
      have hxo:=HWZ.out q
      generalize wh.getD q Wh.dm=x at *
      generalize lrn n.wh (wh.take q)=known at *
      have HSW:Hid (Wh.Sl wr (.slice p11a k11a c11a) known):=HN.out.lists.2.2.1
      have HKE:Hid (k11a=known.length):=HN.out.lists.2.2.2
      have hk20:k11a≤20:=by rw [HKE.out];exact HFK.out.len
      have HWA:Hid (∀ W,Below wr.heap.size wr W→Calls Tryz.prog 72 #[.slice p11a k11a c11a,.string x.node] W fun e w'=>e=.returned (.int .i64 (whI known x.node))∧w'=W):=fun W hW=>whereAt_any known _ x.node W (HSW.out.below hW) (by have:=HFK.out.len;omega)
      have HWC:=whI_any known x.node
      have HPWH:Hid (∀ W,Below wr.heap.size wr W→Calls Tryz.prog 73 #[.slice p11a k11a c11a,.agg #[.string x.node,.int .i64 x.x,.int .i64 x.y,.int .i64 x.z,.int .i64 x.h,.int .i64 x.s]] W fun e w'=>∃ a c,e=.returned (.slice a (Wh.hearL known x).length c)∧Wh.Own (W.heap.size+1) w' (.slice a (Wh.hearL known x).length c) (Wh.hearL known x)∧Below W.heap.size W w'):=fun W hW=>putWhere_is known _ x W (HSW.out.below hW) HFK.out.len HFK.out.rise
      have HL1:Hid (lrn1 known x=if (known.any fun y=>decide (y.node=x.node))=true∨20≤k11a then known else Wh.hearL known x):=by rw [HKE.out];rfl
      have HOKN:Hid (∀ j,((Wh.hearL known x).getD j Wh.dm).ok):=Wh.ns_get (Wh.ns_hear HFK.out.ok hxo)
      have HOS:Hid (∀ W B a c,Wh.Own B W (.slice a (Wh.hearL known x).length c) (Wh.hearL known x)→Wh.Sl W (.slice a (Wh.hearL known x).length c) (Wh.hearL known x)):=fun W B a c h=>Wh.Own.sl h HOKN.out
      generalize whI known x.node=ri at *
      generalize (known.any fun y=>decide (y.node=x.node))=an at *
      generalize lrn1 known x=L1 at *
      generalize Wh.hearL known x=HL at *
      generalize HL.length=hl at *
      obtain ⟨x0,x1,x2,x3,x4,x5⟩:=x
      simp only at c0 c1 c2 c3 c4 c5 HWA HPWH
      have d0:=(hbl _).trans c0
      have d1:=(hbl _).trans c1
      have d2:=(hbl _).trans c2
      have d3:=(hbl _).trans c3
      have d4:=(hbl _).trans c4
      have d5:=(hbl _).trans c5
      clear hbl c0 c1 c2 c3 c4 c5 hr1 hxo HFK
      have hqi:(q:Int) < (nh:Int):=by omega
      have hFI:∀ d os,Calls Tryz.prog 72 #[.slice p11a k11a c11a,.string x0] (Go.Sort.grow (redrawn wr d) os) fun e w''=>e=.returned (.int .i64 ri)∧∃ q:Regrown,w''=Go.Sort.grow (redrawn wr q.d) q.os:=fun d os=>Calls.regrown_of ((HWA.out _ (below_regrown wr d os)).mono (by
       rintro e w' ⟨rfl,rfl⟩
       exact ⟨rfl,Below.refl _ _⟩))
      have F0:∀ d os,(Go.Sort.grow (redrawn wr d) os).cell? ⟨w.heap.size,11,none⟩=some (.slice p11a k11a c11a):=cell_regrown a11
      have F1:∀ d os,(Go.Sort.grow (redrawn wr d) os).cell? ⟨w.heap.size+1,5,none⟩=some (.slice (some ⟨b1,o1,none⟩) nh ch):=cell_regrown p5
      have F2:∀ d os,(Go.Sort.grow (redrawn wr d) os).cell? ⟨b1,o1+q * 6,none⟩=some (.string x0):=cell_regrown d0
      by_cases hput:an=true∨20≤k11a
      ·have HLE:Hid (L1=known):=HL1.out.trans (if_pos hput)
       obtain ⟨hd⟩:Nonempty ((decide (ri < 0)=false)∨(ri = -1∧decide ((k11a:Int) < 20)=false)):=⟨by
        rcases HWC with ⟨h1,h2⟩ | ⟨h1,h2⟩
        ·rcases hput with h3 | h3
         ·rw [h1] at h3;cases h3
         ·exact .inr ⟨h2,decide_eq_false (by omega)⟩
        ·exact .inl h2⟩
       clear hput HWC HPWH HOKN HL1
       go_upto_region 15 with fail
       rcases hd with hd | ⟨hri,hd⟩
       rotate_left
       ·subst hri
        have hd1:decide ((-1:Int) < 0)=true:=by decide
        refine wp_region_quiet_below (by kernel_rfl) (by kernel_rfl) ?_
        repeat (quiet_step (exact hFI _ _))
        refine wpQuiet_nil ?_
        intro _ hw'
        obtain ⟨⟨dq,osq⟩,hw''⟩:=hw'
        subst hw''
        have HBQ:Hid (Below wr.heap.size wr (Go.Sort.grow (redrawn wr dq) osq)):=below_regrown wr dq osq
        clear hFI F0 F1 F2
        generalize Go.Sort.grow (redrawn wr dq) osq=W2 at *
        have HB2:Hid (HBox w W2 #[.string frm,.bool whole,.slice pm nm cm,.slice ps ns cs,.slice pg ng cg,.slice (some ⟨b1,o1,none⟩) nh ch] #[.string t0a,.string t1a,.slice p2a k2a c2a,.slice p3a k3a c3a,.slice p4a k4a c4a,.slice p5a k5a c5a,.int .i64 i6a,.int .i64 i7a,.int .i64 i8a,.int .i64 i9a,.int .i64 i10a,.slice p11a k11a c11a]):=HB.out.below HBQ.out
        have HN2:Hid (IsNd W2 { N with sv:=SJ,gw:=GJ,wh:=known } #[.string t0a,.string t1a,.slice p2a k2a c2a,.slice p3a k3a c3a,.slice p4a k4a c4a,.slice p5a k5a c5a,.int .i64 i6a,.int .i64 i7a,.int .i64 i8a,.int .i64 i9a,.int .i64 i10a,.slice p11a k11a c11a]):=HN.out.below HBQ.out
        clear a0 az0 a1 az1 a2 az2 a3 az3 a4 az4 a5 az5 a6 az6 a7 az7 a8 az8 a9 az9 a10 az10 a11 az11 p0 p1 p2 p3 p4 p5 d0 d1 d2 d3 d4 d5
        go_wp2_with fail
        go_roundw
        case rel=>exact ⟨q+1,_,by omega,by go_num,HB2,by rw [HST.out,HLE.out];exact HN2⟩
        case measure=>simp [intOf];omega
       ·refine wp_region_quiet_below (by kernel_rfl) (by kernel_rfl) ?_
        repeat (quiet_step (exact hFI _ _))
        refine wpQuiet_nil ?_
        intro _ hw'
        obtain ⟨⟨dq,osq⟩,hw''⟩:=hw'
        subst hw''
        have HBQ:Hid (Below wr.heap.size wr (Go.Sort.grow (redrawn wr dq) osq)):=below_regrown wr dq osq
        clear hFI F0 F1 F2
        generalize Go.Sort.grow (redrawn wr dq) osq=W2 at *
        have HB2:Hid (HBox w W2 #[.string frm,.bool whole,.slice pm nm cm,.slice ps ns cs,.slice pg ng cg,.slice (some ⟨b1,o1,none⟩) nh ch] #[.string t0a,.string t1a,.slice p2a k2a c2a,.slice p3a k3a c3a,.slice p4a k4a c4a,.slice p5a k5a c5a,.int .i64 i6a,.int .i64 i7a,.int .i64 i8a,.int .i64 i9a,.int .i64 i10a,.slice p11a k11a c11a]):=HB.out.below HBQ.out
        have HN2:Hid (IsNd W2 { N with sv:=SJ,gw:=GJ,wh:=known } #[.string t0a,.string t1a,.slice p2a k2a c2a,.slice p3a k3a c3a,.slice p4a k4a c4a,.slice p5a k5a c5a,.int .i64 i6a,.int .i64 i7a,.int .i64 i8a,.int .i64 i9a,.int .i64 i10a,.slice p11a k11a c11a]):=HN.out.below HBQ.out
        clear a0 az0 a1 az1 a2 az2 a3 az3 a4 az4 a5 az5 a6 az6 a7 az7 a8 az8 a9 az9 a10 az10 a11 az11 p0 p1 p2 p3 p4 p5 d0 d1 d2 d3 d4 d5
        go_wp2_with fail
        go_roundw
        case rel=>exact ⟨q+1,_,by omega,by go_num,HB2,by rw [HST.out,HLE.out];exact HN2⟩
        case measure=>simp [intOf];omega
      ·have HLE:Hid (L1=HL):=HL1.out.trans (if_neg hput)
       have hri:ri = -1:=by
        rcases HWC with ⟨h1,h2⟩ | ⟨h1,h2⟩
        ·exact h2
        ·exact absurd (.inl h1) hput
       have hd:decide ((k11a:Int) < 20)=true:=decide_eq_true (by omega)
       clear hput HWC HL1
       go_upto_region 15 with fail
       subst hri
       have hd1:decide ((-1:Int) < 0)=true:=by decide
       refine wp_region_quiet_below (by kernel_rfl) (by kernel_rfl) ?_
       repeat (quiet_step (exact hFI _ _))
       refine wpQuiet_nil ?_
       intro _ hw'
       obtain ⟨⟨dq,osq⟩,hw''⟩:=hw'
       subst hw''
       have HBQ:Hid (Below wr.heap.size wr (Go.Sort.grow (redrawn wr dq) osq)):=below_regrown wr dq osq
       clear hFI F0 F1 F2
       generalize Go.Sort.grow (redrawn wr dq) osq=W2 at *
       have HB2:Hid (HBox w W2 #[.string frm,.bool whole,.slice pm nm cm,.slice ps ns cs,.slice pg ng cg,.slice (some ⟨b1,o1,none⟩) nh ch] #[.string t0a,.string t1a,.slice p2a k2a c2a,.slice p3a k3a c3a,.slice p4a k4a c4a,.slice p5a k5a c5a,.int .i64 i6a,.int .i64 i7a,.int .i64 i8a,.int .i64 i9a,.int .i64 i10a,.slice p11a k11a c11a]):=HB.out.below HBQ.out
       have HN2:Hid (IsNd W2 { N with sv:=SJ,gw:=GJ,wh:=known } #[.string t0a,.string t1a,.slice p2a k2a c2a,.slice p3a k3a c3a,.slice p4a k4a c4a,.slice p5a k5a c5a,.int .i64 i6a,.int .i64 i7a,.int .i64 i8a,.int .i64 i9a,.int .i64 i10a,.slice p11a k11a c11a]):=HN.out.below HBQ.out
       have e0:=(HBQ.out.cell (p:=⟨b1,o1+q * 6,none⟩) (Nat.lt_of_lt_of_le hl1 HB.out.bel.size)).trans d0
       have e1:=(HBQ.out.cell (p:=⟨b1,o1+q * 6+1,none⟩) (Nat.lt_of_lt_of_le hl1 HB.out.bel.size)).trans d1
       have e2:=(HBQ.out.cell (p:=⟨b1,o1+q * 6+2,none⟩) (Nat.lt_of_lt_of_le hl1 HB.out.bel.size)).trans d2
       have e3:=(HBQ.out.cell (p:=⟨b1,o1+q * 6+3,none⟩) (Nat.lt_of_lt_of_le hl1 HB.out.bel.size)).trans d3
       have e4:=(HBQ.out.cell (p:=⟨b1,o1+q * 6+4,none⟩) (Nat.lt_of_lt_of_le hl1 HB.out.bel.size)).trans d4
       have e5:=(HBQ.out.cell (p:=⟨b1,o1+q * 6+5,none⟩) (Nat.lt_of_lt_of_le hl1 HB.out.bel.size)).trans d5
       clear a0 az0 a1 az1 a2 az2 a3 az3 a4 az4 a5 az5 a6 az6 a7 az7 a8 az8 a9 az9 a10 az10 a11 az11 p0 p1 p2 p3 p4 p5 d0 d1 d2 d3 d4 d5
       have hg:=HB2.out.node
       have hpk:=HB2.out.pk
       obtain ⟨a0,a1,a2,a3,a4,a5,a6,a7,a8,a9,a10,a11⟩:=cells12 hg
       obtain ⟨az0,az1,az2,az3,az4,az5,az6,az7,az8,az9,az10,az11⟩:=frz12 hg
       obtain ⟨p0,p1,p2,p3,p4,p5⟩:=cells6 hpk
       clear hg hpk
       go_upto_region 16 with fail
       go_region_with (first | (go_at_call 73;refine (HPWH.out _ HBQ.out.drew).mono ?_;rintro e w5 ⟨va,vc,rfl,ho5,hb5⟩;have HB5:Hid (HBox w w5 #[.string frm,.bool whole,.slice pm nm cm,.slice ps ns cs,.slice pg ng cg,.slice (some ⟨b1,o1,none⟩) nh ch] #[.string t0a,.string t1a,.slice p2a k2a c2a,.slice p3a k3a c3a,.slice p4a k4a c4a,.slice p5a k5a c5a,.int .i64 i6a,.int .i64 i7a,.int .i64 i8a,.int .i64 i9a,.int .i64 i10a,.slice p11a k11a c11a]):=HB2.out.below ((Below.refl W2.heap.size W2).drew.trans hb5);have HN5:Hid (IsNd w5 { N with sv:=SJ,gw:=GJ,wh:=known } #[.string t0a,.string t1a,.slice p2a k2a c2a,.slice p3a k3a c3a,.slice p4a k4a c4a,.slice p5a k5a c5a,.int .i64 i6a,.int .i64 i7a,.int .i64 i8a,.int .i64 i9a,.int .i64 i10a,.slice p11a k11a c11a]):=HN2.out.below ((Below.refl W2.heap.size W2).drew.trans hb5);have HS5:Hid (Wh.Sl w5 (.slice va hl vc) HL):=HOS.out _ _ _ _ ho5;have hg5:=HB5.out.node;have y11:w5.cell? ⟨w.heap.size,11,none⟩=some (.slice p11a k11a c11a):=cellsAt hg5 11;have yz11:w5.frozen? ⟨w.heap.size,11,none⟩=false:=frozen_of hg5 11;clear ho5 hb5 hg5))
       all_goals
        obtain ⟨W6,hW6⟩:∃ W6,W6=w5.setCell ⟨w.heap.size,11,none⟩ (.slice va hl vc):=⟨_,rfl⟩
        have HB6:Hid (HBox w W6 #[.string frm,.bool whole,.slice pm nm cm,.slice ps ns cs,.slice pg ng cg,.slice (some ⟨b1,o1,none⟩) nh ch] #[.string t0a,.string t1a,.slice p2a k2a c2a,.slice p3a k3a c3a,.slice p4a k4a c4a,.slice p5a k5a c5a,.int .i64 i6a,.int .i64 i7a,.int .i64 i8a,.int .i64 i9a,.int .i64 i10a,.slice va hl vc]):=by rw [hW6];exact HB5.out.set 11 _
        have HN6:Hid (IsNd W6 { N with sv:=SJ,gw:=GJ,wh:=HL } #[.string t0a,.string t1a,.slice p2a k2a c2a,.slice p3a k3a c3a,.slice p4a k4a c4a,.slice p5a k5a c5a,.int .i64 i6a,.int .i64 i7a,.int .i64 i8a,.int .i64 i9a,.int .i64 i10a,.slice va hl vc]):=by rw [hW6];exact HN5.out.set_wh HB5.out.node HS5.out
        rw [← hW6]
        clear hW6 y11 yz11 a0 az0 a1 az1 a2 az2 a3 az3 a4 az4 a5 az5 a6 az6 a7 az7 a8 az8 a9 az9 a10 az10 a11 az11 p0 p1 p2 p3 p4 p5 e0 e1 e2 e3 e4 e5
        go_wp2_with fail
        go_roundw
        case rel=>exact ⟨q+1,_,by omega,by go_num,HB6,by rw [HST.out,HLE.out];exact HN6⟩
        case measure=>simp [intOf];omega
     ·have hkn:q=nh:=by omega
      have hwh:wh.take q=wh:=List.take_of_length_le (by rw [HNH.out];omega)
      rw [hwh,← HNX.out] at HN
      have hqi:¬ (q:Int) < (nh:Int):=by omega
      clear hkn hwh hlt
      have hzz:=HB.out.res
      obtain ⟨z0,z1,z2,z3,z4,z5,z6,z7,z8,z9,z10,z11⟩:=cells12 hzz
      obtain ⟨zz0,zz1,zz2,zz3,zz4,zz5,zz6,zz7,zz8,zz9,zz10,zz11⟩:=frz12 hzz
      obtain ⟨W7,hW7⟩:∃ W7,W7=((((((((((((wr.setCell ⟨w.heap.size+1+1,0,none⟩ (.string t0a)).setCell ⟨w.heap.size+1+1,1,none⟩ (.string t1a)).setCell ⟨w.heap.size+1+1,2,none⟩ (.slice p2a k2a c2a)).setCell ⟨w.heap.size+1+1,3,none⟩ (.slice p3a k3a c3a)).setCell ⟨w.heap.size+1+1,4,none⟩ (.slice p4a k4a c4a)).setCell ⟨w.heap.size+1+1,5,none⟩ (.slice p5a k5a c5a)).setCell ⟨w.heap.size+1+1,6,none⟩ (.int .i64 i6a)).setCell ⟨w.heap.size+1+1,7,none⟩ (.int .i64 i7a)).setCell ⟨w.heap.size+1+1,8,none⟩ (.int .i64 i8a)).setCell ⟨w.heap.size+1+1,9,none⟩ (.int .i64 i9a)).setCell ⟨w.heap.size+1+1,10,none⟩ (.int .i64 i10a)).setCell ⟨w.heap.size+1+1,11,none⟩ (.slice p11a k11a c11a)):=⟨_,rfl⟩
      have hF7:W7=setAll (w.heap.size+1+1) [.string t0a,.string t1a,.slice p2a k2a c2a,.slice p3a k3a c3a,.slice p4a k4a c4a,.slice p5a k5a c5a,.int .i64 i6a,.int .i64 i7a,.int .i64 i8a,.int .i64 i9a,.int .i64 i10a,.slice p11a k11a c11a] 0 wr:=by rw [hW7];simp only [setAll,Nat.zero_add,Nat.reduceAdd]
      have hz7:W7.heap[w.heap.size+1+1]?=some (.cells #[.string t0a,.string t1a,.slice p2a k2a c2a,.slice p3a k3a c3a,.slice p4a k4a c4a,.slice p5a k5a c5a,.int .i64 i6a,.int .i64 i7a,.int .i64 i8a,.int .i64 i9a,.int .i64 i10a,.slice p11a k11a c11a] 30 (0,0)):=by rw [hF7];exact setAll12 hzz _ _ _ _ _ _ _ _ _ _ _ _
      have HB7:Hid (Below w.heap.size w W7):=by rw [hF7];exact setAll_below (by omega) _ _ HB.out.bel
      have HN7:Hid (IsNd W7 SN #[.string t0a,.string t1a,.slice p2a k2a c2a,.slice p3a k3a c3a,.slice p4a k4a c4a,.slice p5a k5a c5a,.int .i64 i6a,.int .i64 i7a,.int .i64 i8a,.int .i64 i9a,.int .i64 i10a,.slice p11a k11a c11a]):=by rw [hF7];exact HN.out.setAll (NBox.of hzz) _ _
      clear hF7 hzz
      go_wp2_with fail
      rw [← hW7]
      clear hW7 z0 zz0 z1 zz1 z2 zz2 z3 zz3 z4 zz4 z5 zz5 z6 zz6 z7 zz7 z8 zz8 z9 zz9 z10 zz10 z11 zz11 a0 az0 a1 az1 a2 az2 a3 az3 a4 az4 a5 az5 a6 az6 a7 az7 a8 az8 a9 az9 a10 az10 a11 az11 p0 p1 p2 p3 p4 p5
      obtain ⟨z0,z1,z2,z3,z4,z5,z6,z7,z8,z9,z10,z11⟩:=cells12 hz7
      refine bodyPost_ret (v:=.tuple #[.agg #[.string t0a,.string t1a,.slice p2a k2a c2a,.slice p3a k3a c3a,.slice p4a k4a c4a,.slice p5a k5a c5a,.int .i64 i6a,.int .i64 i7a,.int .i64 i8a,.int .i64 i9a,.int .i64 i10a,.slice p11a k11a c11a],.int .i64 0]) ?_ rfl ?_
      ·simp [results,Tryz.results25,go_sem,z0,z1,z2,z3,z4,z5,z6,z7,z8,z9,z10,z11]
      ·exact ⟨_,(by rw [HSE.out]),.inr ⟨HSE.out,HN7.out⟩,HB7.out⟩
  ·have hkz:hkE n pe ms k≠0:=fun e=>hE (HEE.out.trans e)
   have HSE:Hid (SE=E):=(HEX.out k hkz).trans HEE.out.symm
   have HEN:Hid (E≠0):=hE
   have hE1:(E == 0)=false:=by simpa using hE
   have hE2:(E != 0)=true:=by simpa using hE
   clear hkz hE HEX HEE HNK HJS HJG HEJ HEB HKN HK0 HPW
   by_cases hlt:k < nm
   ·have hki:(k:Int) < (nm:Int):=by omega
    clear hlt
    have hzz:=HB.out.res
    obtain ⟨z0,z1,z2,z3,z4,z5,z6,z7,z8,z9,z10,z11⟩:=cells12 hzz
    obtain ⟨zz0,zz1,zz2,zz3,zz4,zz5,zz6,zz7,zz8,zz9,zz10,zz11⟩:=frz12 hzz
    obtain ⟨WF,hWF⟩:∃ WF,WF=((((((((((((wr.setCell ⟨w.heap.size+1+1,0,none⟩ (.string ⟨#[]⟩)).setCell ⟨w.heap.size+1+1,1,none⟩ (.string ⟨#[]⟩)).setCell ⟨w.heap.size+1+1,2,none⟩ (.slice none 0 0)).setCell ⟨w.heap.size+1+1,3,none⟩ (.slice none 0 0)).setCell ⟨w.heap.size+1+1,4,none⟩ (.slice none 0 0)).setCell ⟨w.heap.size+1+1,5,none⟩ (.slice none 0 0)).setCell ⟨w.heap.size+1+1,6,none⟩ (.int .i64 0)).setCell ⟨w.heap.size+1+1,7,none⟩ (.int .i64 0)).setCell ⟨w.heap.size+1+1,8,none⟩ (.int .i64 0)).setCell ⟨w.heap.size+1+1,9,none⟩ (.int .i64 0)).setCell ⟨w.heap.size+1+1,10,none⟩ (.int .i64 0)).setCell ⟨w.heap.size+1+1,11,none⟩ (.slice none 0 0)):=⟨_,rfl⟩
    have hF:WF=setAll (w.heap.size+1+1) [.string ⟨#[]⟩,.string ⟨#[]⟩,.slice none 0 0,.slice none 0 0,.slice none 0 0,.slice none 0 0,.int .i64 0,.int .i64 0,.int .i64 0,.int .i64 0,.int .i64 0,.slice none 0 0] 0 wr:=by rw [hWF];simp only [setAll,Nat.zero_add,Nat.reduceAdd]
    have hzF:WF.heap[w.heap.size+1+1]?=some (.cells #[.string ⟨#[]⟩,.string ⟨#[]⟩,.slice none 0 0,.slice none 0 0,.slice none 0 0,.slice none 0 0,.int .i64 0,.int .i64 0,.int .i64 0,.int .i64 0,.int .i64 0,.slice none 0 0] 30 (0,0)):=by rw [hF];exact setAll12 hzz _ _ _ _ _ _ _ _ _ _ _ _
    have HBF:Hid (Below w.heap.size w WF):=by rw [hF];exact setAll_below (by omega) _ _ HB.out.bel
    clear hF hzz
    go_wp2_with fail
    rw [← hWF]
    clear hWF z0 zz0 z1 zz1 z2 zz2 z3 zz3 z4 zz4 z5 zz5 z6 zz6 z7 zz7 z8 zz8 z9 zz9 z10 zz10 z11 zz11
    obtain ⟨z0,z1,z2,z3,z4,z5,z6,z7,z8,z9,z10,z11⟩:=cells12 hzF
    refine bodyPost_ret (v:=.tuple #[.agg #[.string ⟨#[]⟩,.string ⟨#[]⟩,.slice none 0 0,.slice none 0 0,.slice none 0 0,.slice none 0 0,.int .i64 0,.int .i64 0,.int .i64 0,.int .i64 0,.int .i64 0,.slice none 0 0],.int .i64 E]) ?_ rfl ?_
    ·simp [results,Tryz.results25,go_sem,z0,z1,z2,z3,z4,z5,z6,z7,z8,z9,z10,z11]
    ·exact ⟨_,(by rw [HSE.out];rfl),.inl ⟨(by rw [HSE.out];exact HEN.out),rfl⟩,HBF.out⟩
   ·have hki:¬ (k:Int) < (nm:Int):=by omega
    clear hlt
    have hzz:=HB.out.res
    obtain ⟨z0,z1,z2,z3,z4,z5,z6,z7,z8,z9,z10,z11⟩:=cells12 hzz
    obtain ⟨zz0,zz1,zz2,zz3,zz4,zz5,zz6,zz7,zz8,zz9,zz10,zz11⟩:=frz12 hzz
    obtain ⟨WF,hWF⟩:∃ WF,WF=((((((((((((wr.setCell ⟨w.heap.size+1+1,0,none⟩ (.string ⟨#[]⟩)).setCell ⟨w.heap.size+1+1,1,none⟩ (.string ⟨#[]⟩)).setCell ⟨w.heap.size+1+1,2,none⟩ (.slice none 0 0)).setCell ⟨w.heap.size+1+1,3,none⟩ (.slice none 0 0)).setCell ⟨w.heap.size+1+1,4,none⟩ (.slice none 0 0)).setCell ⟨w.heap.size+1+1,5,none⟩ (.slice none 0 0)).setCell ⟨w.heap.size+1+1,6,none⟩ (.int .i64 0)).setCell ⟨w.heap.size+1+1,7,none⟩ (.int .i64 0)).setCell ⟨w.heap.size+1+1,8,none⟩ (.int .i64 0)).setCell ⟨w.heap.size+1+1,9,none⟩ (.int .i64 0)).setCell ⟨w.heap.size+1+1,10,none⟩ (.int .i64 0)).setCell ⟨w.heap.size+1+1,11,none⟩ (.slice none 0 0)):=⟨_,rfl⟩
    have hF:WF=setAll (w.heap.size+1+1) [.string ⟨#[]⟩,.string ⟨#[]⟩,.slice none 0 0,.slice none 0 0,.slice none 0 0,.slice none 0 0,.int .i64 0,.int .i64 0,.int .i64 0,.int .i64 0,.int .i64 0,.slice none 0 0] 0 wr:=by rw [hWF];simp only [setAll,Nat.zero_add,Nat.reduceAdd]
    have hzF:WF.heap[w.heap.size+1+1]?=some (.cells #[.string ⟨#[]⟩,.string ⟨#[]⟩,.slice none 0 0,.slice none 0 0,.slice none 0 0,.slice none 0 0,.int .i64 0,.int .i64 0,.int .i64 0,.int .i64 0,.int .i64 0,.slice none 0 0] 30 (0,0)):=by rw [hF];exact setAll12 hzz _ _ _ _ _ _ _ _ _ _ _ _
    have HBF:Hid (Below w.heap.size w WF):=by rw [hF];exact setAll_below (by omega) _ _ HB.out.bel
    clear hF hzz
    go_wp2_with fail
    rw [← hWF]
    clear hWF z0 zz0 z1 zz1 z2 zz2 z3 zz3 z4 zz4 z5 zz5 z6 zz6 z7 zz7 z8 zz8 z9 zz9 z10 zz10 z11 zz11
    obtain ⟨z0,z1,z2,z3,z4,z5,z6,z7,z8,z9,z10,z11⟩:=cells12 hzF
    refine bodyPost_ret (v:=.tuple #[.agg #[.string ⟨#[]⟩,.string ⟨#[]⟩,.slice none 0 0,.slice none 0 0,.slice none 0 0,.slice none 0 0,.int .i64 0,.int .i64 0,.int .i64 0,.int .i64 0,.int .i64 0,.slice none 0 0],.int .i64 E]) ?_ rfl ?_
    ·simp [results,Tryz.results25,go_sem,z0,z1,z2,z3,z4,z5,z6,z7,z8,z9,z10,z11]
    ·exact ⟨_,(by rw [HSE.out];rfl),.inl ⟨(by rw [HSE.out];exact HEN.out),rfl⟩,HBF.out⟩
end Go.Proofs.YtikgjgmgbfjcgaaGreat
