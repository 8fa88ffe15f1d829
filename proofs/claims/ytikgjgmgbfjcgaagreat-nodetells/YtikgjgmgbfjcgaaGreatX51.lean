import Derived.Test.YtikgjgmgbfjcgaaGreatX41
import Derived.Test.YtikgjgmgbfjcgaaGreatX29
import Derived.Test.YtikgjgmgbfjcgaaGreatX40
import Derived.Test.YtikgjgmgbfjcgaaGreatX38
import Derived.Test.YtikgjgmgbfjcgaaGreatX26
import Derived.Test.YtikgjgmgbfjcgaaGreatX44
import Derived.Deep.RegionHeld3
namespace Go.Proofs.YtikgjgmgbfjcgaaGreat
open Go.RowKit
theorem hearL_perm:∀ (ms:List Mem) (m:Mem),(∀ x∈ms,x.name≠m.name)→(hearL ms m).Perm (m :: ms)
 | [],m,_=>by simp [hearL]
 | x :: r,m,h=>by
   have hx:x.name≠m.name:=h x (by simp)
   rw [hearL]
   split
   ·exact ((hearL_perm r m fun y hy=>h y (by simp [hy])).cons x).trans (List.Perm.swap m x r)
   ·rw [if_neg (fun e=>hx ((cmpI_eq _ _).1 e))]
theorem joinL_perm:∀ (b a:List Mem),(a++b).Pairwise (fun x y=>x.name≠y.name)→(joinL a b).Perm (a++b)
 | [],a,_=>by simp [joinL]
 | m :: r,a,h=>by
   have h1:∀ x∈a,x.name≠m.name:=fun x hx=>(List.pairwise_append.1 h).2.2 x hx m (by simp)
   have h3:(hearL a m++r).Perm (a++m :: r):=((hearL_perm a m h1).append_right r).trans (by simpa using (List.perm_middle (l₁:=a) (a:=m) (l₂:=r)).symm)
   exact (joinL_perm r (hearL a m) ((h3.pairwise_iff (fun h=>h.symm)).2 h)).trans h3
theorem rise_perm:∀ {a b:List Mem},Rise a→Rise b→a.Perm b→a=b
 | [],b,_,_,h=>h.nil_eq
 | x :: r,[],_,_,h=>absurd h.length_eq (by simp)
 | x :: r,y :: s,ha,hb,h=>by
   have hx:=List.pairwise_cons.1 ha
   have hy:=List.pairwise_cons.1 hb
   have e:x=y:=by
    rcases List.mem_cons.1 (h.mem_iff.1 (List.mem_cons_self ..):x∈y :: s) with h1 | h1
    ·exact h1
    ·rcases List.mem_cons.1 (h.mem_iff.2 (List.mem_cons_self ..):y∈x :: r) with h2 | h2
     ·exact h2.symm
     ·have:=less_trans (hx.1 y h2) (hy.1 x h1)
      rw [less_irrefl] at this;cases this
   subst e
   rw [rise_perm hx.2 hy.2 (List.perm_cons _ |>.1 h)]
theorem sort_rise {l:List Mem} (h:SortM l) (hd:l.Pairwise fun x y=>x.name≠y.name):Rise l:=by
 have hget:∀ j (h:j < l.length),l.getD j dm=l[j]:=fun j h=>by simp [List.getD,List.getElem?_eq_getElem h]
 rw [Rise,List.pairwise_iff_getElem]
 intro i j hi hj hij
 have h1:=h i j hij hj
 rw [hget i hi,hget j hj] at h1
 have h2:(l[j]).name≠(l[i]).name:=(List.pairwise_iff_getElem.1 hd i j hi hj hij).symm
 refine (cmpI_gt _ _).1 ?_
 have h3:cmpI (l[j]).name (l[i]).name≠0:=fun e=>h2 ((cmpI_eq _ _).1 e)
 omega
theorem told_apart {rs:List Rum} {ord:List Nat} (ho:IsOrd rs ord) (hd:Distinct rs) (k:Nat):(toldL rs ord k).Pairwise fun x y=>x.name≠y.name:=by
 unfold toldL
 rw [List.pairwise_map]
 have h1:(ord.take k).Nodup:=ho.nodup.sublist (List.take_sublist _ _)
 refine List.Pairwise.imp_of_mem ?_ h1
 intro a b ha hb hne
 have h2:=ho.bd a (List.mem_of_mem_take ha)
 have h3:=ho.bd b (List.mem_of_mem_take hb)
 rcases Nat.lt_or_gt_of_ne hne with h | h
 ·exact hd a b h h3
 ·exact (hd b a h h2).symm
theorem takeIs_apart {rs:List Rum} {times:Int} {told:List Mem} {rest:List Rum} (h:TakeIs rs times told rest) (hd:Distinct rs):told.Pairwise fun x y=>x.name≠y.name:=by
 rcases h with ⟨_,rfl,_⟩ | ⟨_,ord,ho,rfl,_⟩
 ·exact .nil
 ·exact told_apart ho hd _
theorem tellIs_join {n:Nd} {l:List Mem} {rest:List Rum} (h:TellIs n l rest) (h0:chkR n.rs=0):∃ told,TakeIs n.rs (tmN n) told rest∧l=joinL [] told:=by
 obtain ⟨told,ht,hp,hs⟩:=h
 have hd:=takeIs_apart ht (chkR_zero h0).2.2.2
 refine ⟨told,ht,rise_perm (sort_rise hs ((hp.pairwise_iff (fun h=>h.symm)).2 hd)) (joinL_rise _ _ (by simp)) (hp.trans ?_)⟩
 exact (joinL_perm told [] hd).symm
theorem hearMember_own (B:Nat) (ms:List Mem) (v:Value) (m:Mem) (w:World) (ho:Own B w v ms) (hB:B≤w.heap.size) (hs:∀ x∈ms,x.name.size≤maxLen) (hn:ms.length≤1000) (hr:Rise ms) :
 Calls Tryz.prog 121 #[v,.agg #[.string m.name,.int .i64 m.state,.int .i64 m.life,.int .i64 m.addr,.bool m.server]] w fun e w'=>∃ (v':Value) (r:Bool),e=.returned (.tuple #[v',.bool r])∧Own B w' v' (hearL ms m)∧Below w.heap.size w w':=by
 have hv:=ho.sl (ns_get hs)
 obtain ⟨p,f,hat⟩:=at_any ms hr m.name
 cases f
 ·refine (hearMember_none ms v m.name m.state m.life m.addr m.server w hv hn hr p hat).mono ?_
  rintro e w' ⟨v',rfl,h1,h2⟩
  have e:=hearL_out (f:=false) hat (fun h=>by cases h)
  refine ⟨v',true,rfl,?_,h2⟩
  rw [e];exact Own.mono h1 (by omega)
 ·cases hnew:newM m (ms.getD p dm)
  ·refine (hearMember_old ms v m.name m.state m.life m.addr m.server w hv hn hr p hat hnew).mono ?_
   rintro e w' ⟨rfl,h2⟩
   have e:=hearL_old hat hnew
   refine ⟨v,false,rfl,?_,h2⟩
   rw [e];exact ho.below h2
  ·refine (hearMember_newer ms v m.name m.state m.life m.addr m.server w hv hn hr p hat hnew).mono ?_
   rintro e w' ⟨v',rfl,h1,h2⟩
   have e:=hearL_out hat (fun _=>hnew)
   refine ⟨v',true,rfl,?_,h2⟩
   rw [e];exact Own.mono h1 (by omega)
set_option maxHeartbeats 1000000 in
theorem joinMembers_own (B:Nat) (b:List Mem) (vb:Value) (w:World) (hb:Sl w vb b) (hlb:b.length≤100) (hB:B≤w.heap.size) :
 Calls Tryz.prog 61 #[.slice none 0 0,vb] w fun e w'=>∃ v',e=.returned v'∧Hid (Own B w' v' (joinL [] b))∧Below w.heap.size w w':=by
 obtain ⟨pv,cb,rfl,nsb,hb⟩:=hb
 have HA:Hid (Own B w (.slice none 0 0) []):=by exact ⟨rfl,.inl ⟨rfl,rfl⟩⟩
 have HB:Hid (b=[]∨∃ b_1 off,pv=some ⟨b_1,off,none⟩∧b_1 < w.heap.size∧Row w b_1 off b):=hb
 have NB:Hid (∀ m∈b,m.name.size≤maxLen):=ns_mem nsb
 clear hb nsb
 generalize hnb:b.length=nb at *
 have HNB:Hid (b.length=nb):=hnb
 clear hnb
 go_enter Tryz.func61,Tryz.ntmps61
 go_wp2_with fail
 go_loopw [0,5] (fun kn i w'=>∃ k:Nat,k≤nb∧i=.int .i64 k∧Below w.heap.size w w'∧Hid (Own B w' kn (joinL [] (b.take k)))) (fun _ i _=>nb - (intOf i).toNat)
 case atStart=>exact ⟨0,Nat.zero_le _,rfl,Below.refl _ _,HA⟩
 case round=>
  obtain ⟨k,hk,rfl,hbl,HO⟩:=hrel
  obtain ⟨hbc,hbf⟩:=bcell hbl
  have hsz:=hbl.size
  by_cases hlt:k < nb
  ·obtain ⟨b2,o2,hp2,hl2,hr2⟩:∃ b_1 off,pv=some ⟨b_1,off,none⟩∧b_1 < w.heap.size∧Row w b_1 off b:=by
    rcases HB.out with h | h
    ·have:=HNB.out;rw [h] at this;simp at this;omega
    ·exact h
   subst hp2
   obtain ⟨c0,c1,c2,c3,c4⟩:=hr2 k (by rw [HNB.out];exact hlt)
   clear hr2
   have HJ:Hid (joinL [] (b.take (k+1))=hearL (joinL [] (b.take k)) (b.getD k dm)):=joinL_take [] b k (by rw [HNB.out];exact hlt)
   have HR:Hid (Rise (joinL [] (b.take k))):=joinL_rise _ _ (by simp)
   have HL:Hid ((joinL [] (b.take k)).length≤1000):=by
    have h1:=joinL_len (b.take k) []
    have h2:(b.take k).length≤k:=List.length_take_le _ _
    show (joinL [] (b.take k)).length≤1000
    simp at h1
    omega
   have HM:Hid (∀ x∈joinL [] (b.take k),x.name.size≤maxLen):=ns_join _ _ (by simp) (fun m hm=>NB.out m (List.mem_of_mem_take hm))
   have HBS:Hid (B≤wr.heap.size):=by show B≤wr.heap.size;omega
   generalize b.getD k dm=m at *
   generalize joinL [] (b.take k)=known at *
   go_wp2_with (go_at_call 121;refine (hearMember_own B known _ m _ HO.out HBS.out HM.out HL.out HR.out).mono ?_;rintro e w2 ⟨v',r,rfl,g1,g2⟩)
   have hfin:∃ k_1:Nat,k_1≤nb∧Value.int .i64 ((k:Int)+1)=.int .i64 k_1∧Below w.heap.size w w2∧Hid (Own B w2 v' (joinL [] (b.take k_1))):=⟨k+1,by omega,by go_num,hbl.trans (g2.mono hsz),by rw [HJ.out];exact g1⟩
   exact ⟨hfin,by simp [intOf];omega⟩
  ·have HF:Hid (Own B wr u0 (joinL [] b)):=by
    have h:=HO.out
    rw [List.take_of_length_le (by rw [HNB.out];omega)] at h
    exact h
   go_wp2_with fail
   go_ret
   exact ⟨u0,rfl,HF,hbl⟩
theorem takeRumors_is (rs:List Rum) (v:Value) (times:Int) (told:List Mem) (rest:List Rum) (w:World) (hv:RSl w v rs) (h0:chkR rs=0) (hk:TakeIs rs times told rest) :
 Calls Tryz.prog 60 #[v,.int .i64 5,.int .i64 times] w fun e w'=>∃ a k c a2 k2 c2,e=.returned (.tuple #[.slice a k c,.slice a2 k2 c2])∧Own w.heap.size w' (.slice a k c) told∧ROwn w.heap.size w' (.slice a2 k2 c2) rest∧Below w.heap.size w w':=by
 rcases hk with ⟨rfl,rfl,rfl⟩ | ⟨hp,ord,ho,rfl,rfl⟩
 ·refine (takeRumors_none v 5 times w hv (by omega)).mono ?_
  rintro e w' ⟨v1,v2,rfl,h1,h2,hb⟩
  obtain ⟨a,c,rfl,_⟩:=own_slice h1
  obtain ⟨a2,c2,rfl,_⟩:=own_slice h2
  exact ⟨a,_,c,a2,_,c2,rfl,h1,h2,hb⟩
 ·have hz:=chkR_zero h0
  refine (takeRumors_some rs v 5 times w hv hp hz.1 (by omega) (by omega) hz.2.2.1 ord ho).mono ?_
  rintro e w' ⟨v1,v2,rfl,h1,h2,hb⟩
  obtain ⟨a,c,rfl,_⟩:=own_slice h1
  obtain ⟨a2,c2,rfl,_⟩:=own_slice h2
  exact ⟨a,_,c,a2,_,c2,rfl,h1,h2,hb⟩
structure TS (w:World) (v1:Value) (told:List Mem) (v2:Value) (rest:List Rum) (W:World):Prop where
 bel:Below w.heap.size w W
 siz:w.heap.size+3≤W.heap.size
 o1:Own (w.heap.size+3) W v1 told
 o2:ROwn (w.heap.size+3) W v2 rest
 b1:∃ cs:Array Value,W.heap[w.heap.size+1]?=some (.cells cs 30 (0,0))∧cs.size=12
 b2:∃ cs:Array Value,W.heap[w.heap.size+1+1]?=some (.cells cs 44 (0,0))∧cs.size=6
theorem TS.drew {w:World} {v1:Value} {told:List Mem} {v2:Value} {rest:List Rum} {W:World} (h:TS w v1 told v2 rest W):TS w v1 told v2 rest W.drew:=⟨drew_below h.bel,h.siz,drew_owns h.o1,drew_owns h.o2,h.b1,h.b2⟩
theorem TS.below {w:World} {v1:Value} {told:List Mem} {v2:Value} {rest:List Rum} {W W':World} (h:TS w v1 told v2 rest W) (hb:Below W.heap.size W W'):TS w v1 told v2 rest W':=by
 obtain ⟨cs,h1,h2⟩:=h.b1
 obtain ⟨ds,h3,h4⟩:=h.b2
 have:=h.siz
 have:=hb.size
 exact ⟨h.bel.trans (hb.mono h.bel.size),by omega,owns_below h.o1 hb,owns_below h.o2 hb,⟨cs,(hb.block _ (by omega)).trans h1,h2⟩,⟨ds,(hb.block _ (by omega)).trans h3,h4⟩⟩
theorem TS.set {w:World} {v1:Value} {told:List Mem} {v2:Value} {rest:List Rum} {W:World} (h:TS w v1 told v2 rest W) (b j:Nat) (x:Value) (hb:b=w.heap.size+1∨b=w.heap.size+1+1):TS w v1 told v2 rest (W.setCell ⟨b,j,none⟩ x):=by
 obtain ⟨cs,h1,h2⟩:=h.b1
 obtain ⟨ds,h3,h4⟩:=h.b2
 have hs:=h.siz
 refine ⟨h.bel.setCell (p:=⟨b,j,none⟩) (by simp only;omega) _,by simpa [World.setCell] using hs,ownsRow_setCell_below h.o1 (by simp only;omega) _,ownsRow_setCell_below h.o2 (by simp only;omega) _,?_,?_⟩
 ·rcases hb with rfl | rfl
  ·exact ⟨_,Joins.block_setCell (i:=j) h1 x,by simpa using h2⟩
  ·exact ⟨cs,(Below.heap_setCell _ _ _ _ (by simp only;omega)).trans h1,h2⟩
 ·rcases hb with rfl | rfl
  ·exact ⟨ds,(Below.heap_setCell _ _ _ _ (by simp only;omega)).trans h3,h4⟩
  ·exact ⟨_,Joins.block_setCell (i:=j) h3 x,by simpa using h4⟩
theorem arr12 {cs:Array Value} (h:cs.size=12):∃ c0 c1 c2 c3 c4 c5 c6 c7 c8 c9 c10 c11,cs=#[c0,c1,c2,c3,c4,c5,c6,c7,c8,c9,c10,c11]:=by
 obtain ⟨l⟩:=cs
 match l,h with
 | [c0,c1,c2,c3,c4,c5,c6,c7,c8,c9,c10,c11],_=>exact ⟨c0,c1,c2,c3,c4,c5,c6,c7,c8,c9,c10,c11,rfl⟩
theorem arr6 {cs:Array Value} (h:cs.size=6):∃ c0 c1 c2 c3 c4 c5,cs=#[c0,c1,c2,c3,c4,c5]:=by
 obtain ⟨l⟩:=cs
 match l,h with
 | [c0,c1,c2,c3,c4,c5],_=>exact ⟨c0,c1,c2,c3,c4,c5,rfl⟩
set_option maxHeartbeats 25600000 in
set_option maxRecDepth 100000 in
theorem tellOf_is (n:Nd) (A:Array Value) (w0 w:World) (h:IsNd w0 n A) (hB:Below w0.heap.size w0 w) (he:n.e=0) (l:List Mem) (rest:List Rum) (ht:TellIs n l rest) :
 Calls Tryz.prog 21 #[.agg A] w fun e w'=>∃ C P,e=.returned (.tuple #[.agg C,.agg P])∧(∀ W,Sh (fun k=>w0.heap.size≤k∧k < w.heap.size) w' W→IsNd W { n with rs:=rest } C∧IsPk W ⟨n.name,false,l,[],[],[]⟩ P)∧Below w.heap.size w w':=by
 have hp:=Nd.parts (Nd.e_zero he).1
 obtain ⟨told,hk,hl⟩:=tellIs_join ht hp.rs
 obtain ⟨vm,vr,vs,vg,vw,rfl,hi0⟩:=h
 have HI0:Hid (NdIs w0 n vm vr vs vg vw):=hi0
 have HBW:Hid (Below w0.heap.size w0 w):=hB
 have hi:NdIs w n vm vr vs vg vw:=hi0.below hB
 clear hi0 hB
 have hok:=hi.ok
 have htk:=takeIs_ok hk hok.rs
 have HTN:Hid ((∀ m∈told,m.name.size≤maxLen)∧∀ r∈rest,r.m.name.size≤maxLen):=htk
 have hl5:=takeIs_len hk
 have HLN:Hid (∀ m∈l,m.name.size≤maxLen):=by rw [hl];exact ns_join told [] (by simp) htk.1
 have HLV:Hid (∀ W,Below w.heap.size w W→Calls Tryz.prog 59 #[vm] W fun e w'=>∃ a c,e=.returned (.slice a (liveL n.ms).length c)∧Below W.heap.size W w'):=fun W hW=>by
  have hz:=chk_zero hp.ms
  refine (liveOf_any n.ms vm W (hi.ms.below hW) (by omega) (fun j hj=>?_)).mono ?_
  ·have h1:=(mem_e0 _).1 (chk_e0 hp.ms (n.ms.getD j dm) (by simp [List.getD,List.getElem?_eq_getElem hj]))
   have h2:=h1.2.1
   simp [within] at h2
   exact h2.1
  ·rintro e w' ⟨v',rfl,ho,hb⟩
   obtain ⟨a,c,rfl,_⟩:=own_slice ho.out
   exact ⟨a,c,rfl,hb⟩
 have hlv:(liveL n.ms).length≤20:=live_len (chk_zero hp.ms).1
 have HTM:Hid (∀ W,Calls Tryz.prog 58 #[.int .i64 ((liveL n.ms).length:Int)] W fun e w'=>e=.returned (.int .i64 (3 * (Lib.bitLen (liveL n.ms).length:Nat)))∧w'=W):=fun W=>by
  have:=timesOf_any ((liveL n.ms).length:Int) W (by omega) (by omega)
  simpa using this
 have HTK:Hid (∀ W,Below w.heap.size w W→Calls Tryz.prog 60 #[vr,.int .i64 5,.int .i64 (tmN n)] W fun e w'=>∃ a k c a2 k2 c2,e=.returned (.tuple #[.slice a k c,.slice a2 k2 c2])∧Own W.heap.size w' (.slice a k c) told∧ROwn W.heap.size w' (.slice a2 k2 c2) rest∧Below W.heap.size W w'):=fun W hW=>takeRumors_is n.rs vr (tmN n) told rest W (hi.rs.below hW) hp.rs hk
 have HTD:Hid (tmN n=if ((3:Int) * (Lib.bitLen (liveL n.ms).length:Nat)) < 1 then (1:Int) else ((3:Int) * (Lib.bitLen (liveL n.ms).length:Nat))):=by
  show tmN n=_
  unfold tmN
  split<;>omega
 have HJM:Hid (∀ W v2 k2 a2 c2,TS w (.slice a2 k2 c2) told v2 rest W→Calls Tryz.prog 61 #[.slice none 0 0,.slice a2 k2 c2] W fun e w'=>∃ a k c,e=.returned (.slice a k c)∧Hid (Own (w.heap.size+3) w' (.slice a k c) l)∧Below W.heap.size W w'):=fun W v2 k2 a2 c2 hT=>by
  refine (joinMembers_own (w.heap.size+3) told _ W (hT.o1.sl (ns_get htk.1)) (by omega) hT.siz).mono ?_
  rintro e w' ⟨v',rfl,ho,hb⟩
  rw [← hl] at ho
  obtain ⟨a,c,rfl,_⟩:=own_slice ho.out
  exact ⟨a,_,c,rfl,ho,hb⟩
 clear hk ht hl htk hl5 hp he hok
 generalize tmN n=tm at *
 generalize (liveL n.ms).length=lv at *
 generalize ((3:Int) * (Lib.bitLen lv:Nat))=t3 at *
 obtain ⟨N,hN⟩:∃ N,N=n:=⟨_,rfl⟩
 have HNN:Hid (N=n):=hN
 have HIN:Hid (NdIs w0 N vm vr vs vg vw):=by rw [hN];exact HI0
 have HNE:Hid (∀ (W:World) (X:Array Value),(∃ P,IsNd W { N with rs:=rest } X∧IsPk W ⟨N.name,false,l,[],[],[]⟩ P)→∃ P,IsNd W { n with rs:=rest } X∧IsPk W ⟨n.name,false,l,[],[],[]⟩ P):=by rw [hN];exact fun _ _ h=>h
 rw [← hN]
 clear HNE HI0
 obtain ⟨nm,ct,ms,rs,sv,gw,⟨px,py,pz,ph,pq⟩,wh⟩:=n
 obtain ⟨⟨em,cm,rfl,_,_⟩,⟨er_,cr,rfl,_,_⟩,⟨es,cs_,rfl,_,_⟩,⟨eg_,cg,rfl,_,_⟩,⟨eh,ch,rfl,_,_⟩,_,_⟩:=hi
 have hA:ndA N (.slice em ms.length cm) (.slice er_ rs.length cr) (.slice es sv.length cs_) (.slice eg_ gw.length cg) (.slice eh wh.length ch)=#[.string nm,.string ct,.slice em ms.length cm,.slice er_ rs.length cr,.slice es sv.length cs_,.slice eg_ gw.length cg,.int .i64 px,.int .i64 py,.int .i64 pz,.int .i64 ph,.int .i64 pq,.slice eh wh.length ch]:=by rw [hN]
 have HAR:Hid (∀ u:Value,ndA { N with rs:=rest } (.slice em ms.length cm) u (.slice es sv.length cs_) (.slice eg_ gw.length cg) (.slice eh wh.length ch)=#[.string nm,.string ct,.slice em ms.length cm,u,.slice es sv.length cs_,.slice eg_ gw.length cg,.int .i64 px,.int .i64 py,.int .i64 pz,.int .i64 ph,.int .i64 pq,.slice eh wh.length ch]∧N.name=nm):=fun u=>by rw [hN];exact ⟨rfl,rfl⟩
 rw [hA]
 clear hA hN HNN
 simp only at HLV HTK
 generalize ms.length=km at *
 generalize rs.length=kr at *
 generalize sv.length=ks at *
 generalize gw.length=kg at *
 generalize wh.length=kh at *
 obtain ⟨W0,hW0⟩:∃ W0,W0=(((w.alloc (.cells #[.string nm,.string ct,.slice em km cm,.slice er_ kr cr,.slice es ks cs_,.slice eg_ kg cg,.int .i64 px,.int .i64 py,.int .i64 pz,.int .i64 ph,.int .i64 pq,.slice eh kh ch] 30)).alloc (.cells #[.string ⟨#[]⟩,.string ⟨#[]⟩,.slice none 0 0,.slice none 0 0,.slice none 0 0,.slice none 0 0,.int .i64 0,.int .i64 0,.int .i64 0,.int .i64 0,.int .i64 0,.slice none 0 0] 30)).alloc (.cells #[.string ⟨#[]⟩,.bool false,.slice none 0 0,.slice none 0 0,.slice none 0 0,.slice none 0 0] 44)):=⟨_,rfl⟩
 have hb0:Below w.heap.size w W0:=by rw [hW0];exact (((Below.refl _ _).alloc (Nat.le_refl _) _).alloc (by simp<;>omega) _).alloc (by simp<;>omega) _
 have hs0:W0.heap.size=w.heap.size+3:=by rw [hW0];simp
 have hg0:W0.heap[w.heap.size]?=some (.cells #[.string nm,.string ct,.slice em km cm,.slice er_ kr cr,.slice es ks cs_,.slice eg_ kg cg,.int .i64 px,.int .i64 py,.int .i64 pz,.int .i64 ph,.int .i64 pq,.slice eh kh ch] 30 (0,0)):=by
  rw [hW0,Below.heap_alloc _ _ _ (by simp<;>omega),Below.heap_alloc _ _ _ (by simp<;>omega)];exact heap_alloc_new w _
 have hz0:W0.heap[w.heap.size+1]?=some (.cells #[.string ⟨#[]⟩,.string ⟨#[]⟩,.slice none 0 0,.slice none 0 0,.slice none 0 0,.slice none 0 0,.int .i64 0,.int .i64 0,.int .i64 0,.int .i64 0,.int .i64 0,.slice none 0 0] 30 (0,0)):=by
  have h:=heap_alloc_new (w.alloc (.cells #[.string nm,.string ct,.slice em km cm,.slice er_ kr cr,.slice es ks cs_,.slice eg_ kg cg,.int .i64 px,.int .i64 py,.int .i64 pz,.int .i64 ph,.int .i64 pq,.slice eh kh ch] 30)) (.cells #[.string ⟨#[]⟩,.string ⟨#[]⟩,.slice none 0 0,.slice none 0 0,.slice none 0 0,.slice none 0 0,.int .i64 0,.int .i64 0,.int .i64 0,.int .i64 0,.int .i64 0,.slice none 0 0] 30)
  rw [hW0,Below.heap_alloc _ _ _ (by simp<;>omega)];simpa using h
 have hy0:W0.heap[w.heap.size+1+1]?=some (.cells #[.string ⟨#[]⟩,.bool false,.slice none 0 0,.slice none 0 0,.slice none 0 0,.slice none 0 0] 44 (0,0)):=by
  have h:=heap_alloc_new ((w.alloc (.cells #[.string nm,.string ct,.slice em km cm,.slice er_ kr cr,.slice es ks cs_,.slice eg_ kg cg,.int .i64 px,.int .i64 py,.int .i64 pz,.int .i64 ph,.int .i64 pq,.slice eh kh ch] 30)).alloc (.cells #[.string ⟨#[]⟩,.string ⟨#[]⟩,.slice none 0 0,.slice none 0 0,.slice none 0 0,.slice none 0 0,.int .i64 0,.int .i64 0,.int .i64 0,.int .i64 0,.int .i64 0,.slice none 0 0] 30)) (.cells #[.string ⟨#[]⟩,.bool false,.slice none 0 0,.slice none 0 0,.slice none 0 0,.slice none 0 0] 44)
  rw [hW0];simpa using h
 have HBX:Hid (∀ W,Below W0.heap.size W0 W→Below w.heap.size w W∧W.heap[w.heap.size]?=some (.cells #[.string nm,.string ct,.slice em km cm,.slice er_ kr cr,.slice es ks cs_,.slice eg_ kg cg,.int .i64 px,.int .i64 py,.int .i64 pz,.int .i64 ph,.int .i64 pq,.slice eh kh ch] 30 (0,0))∧W.heap[w.heap.size+1]?=some (.cells #[.string ⟨#[]⟩,.string ⟨#[]⟩,.slice none 0 0,.slice none 0 0,.slice none 0 0,.slice none 0 0,.int .i64 0,.int .i64 0,.int .i64 0,.int .i64 0,.int .i64 0,.slice none 0 0] 30 (0,0))∧W.heap[w.heap.size+1+1]?=some (.cells #[.string ⟨#[]⟩,.bool false,.slice none 0 0,.slice none 0 0,.slice none 0 0,.slice none 0 0] 44 (0,0))∧w.heap.size+3≤W.heap.size):=fun W hW=>
  ⟨hb0.trans (hW.mono (by omega)),(hW.block _ (by omega)).trans hg0,(hW.block _ (by omega)).trans hz0,(hW.block _ (by omega)).trans hy0,by have:=hW.size;omega⟩
 have x2:W0.cell? ⟨w.heap.size,2,none⟩=some (.slice em km cm):=cellsAt hg0 2
 have HB0:Hid (Below w.heap.size w W0):=hb0
 have HS0:Hid (W0.heap.size=w.heap.size+3):=hs0
 clear hb0 hg0 hz0 hy0 hs0
 go_enter Tryz.func21,Tryz.ntmps21
 go_upto_region 1 with fail
 rw [← hW0]
 clear hW0
 go_wp2_with fail
 refine (HLV.out W0 HB0.out).mono ?_
 rintro e w1 ⟨la,lc,rfl,hb1⟩
 obtain ⟨_,hg1,_,_,_⟩:=HBX.out w1 hb1
 have y3:w1.cell? ⟨w.heap.size,3,none⟩=some (.slice er_ kr cr):=cellsAt hg1 3
 have HB1:Hid (Below W0.heap.size W0 w1):=hb1
 clear hb1 hg1 x2 HLV
 by_cases hlt:t3 < 1
 ·have htm:tm=1:=HTD.out.trans (if_pos hlt)
  subst htm
  clear HTD
  go_wp2_with (first | (go_at_call 58;refine (HTM.out _).mono ?_;rintro e w' ⟨rfl,hww⟩;have hwq:=hww.symm;subst hwq) | fail)
  refine (HTK.out w1 (HBX.out w1 HB1.out).1).mono ?_
  rintro e w3 ⟨ta,tk,tc,ra,rk,rc,rfl,ho1,ho2,hb3⟩
  have hbW3:Below W0.heap.size W0 w3:=HB1.out.trans (hb3.mono HB1.out.size)
  obtain ⟨hbw3,hg3,hz3,hy3,hs3⟩:=HBX.out w3 hbW3
  have hbs:w.heap.size+3≤w1.heap.size:=by have:=HB1.out.size;have:=HS0.out;omega
  have z3:w3.cell? ⟨w.heap.size,3,none⟩=some (.slice er_ kr cr):=cellsAt hg3 3
  have zz3:w3.frozen? ⟨w.heap.size,3,none⟩=false:=frozen_of hg3 3
  obtain ⟨W4,hW4⟩:∃ W4,W4=w3.setCell ⟨w.heap.size,3,none⟩ (.slice ra rk rc):=⟨_,rfl⟩
  have hg4:W4.heap[w.heap.size]?=some (.cells #[.string nm,.string ct,.slice em km cm,.slice ra rk rc,.slice es ks cs_,.slice eg_ kg cg,.int .i64 px,.int .i64 py,.int .i64 pz,.int .i64 ph,.int .i64 pq,.slice eh kh ch] 30 (0,0)):=by rw [hW4];exact Joins.block_setCell (i:=3) hg3 _
  have hz4:W4.heap[w.heap.size+1]?=some (.cells #[.string ⟨#[]⟩,.string ⟨#[]⟩,.slice none 0 0,.slice none 0 0,.slice none 0 0,.slice none 0 0,.int .i64 0,.int .i64 0,.int .i64 0,.int .i64 0,.int .i64 0,.slice none 0 0] 30 (0,0)):=by rw [hW4];exact (Below.heap_setCell _ _ _ _ (by simp only;omega)).trans hz3
  have hy4:W4.heap[w.heap.size+1+1]?=some (.cells #[.string ⟨#[]⟩,.bool false,.slice none 0 0,.slice none 0 0,.slice none 0 0,.slice none 0 0] 44 (0,0)):=by rw [hW4];exact (Below.heap_setCell _ _ _ _ (by simp only;omega)).trans hy3
  have hT4:TS w (.slice ta tk tc) told (.slice ra rk rc) rest W4:=by
   refine ⟨?_,?_,?_,?_,⟨_,hz4,rfl⟩,⟨_,hy4,rfl⟩⟩
   ·rw [hW4];exact hbw3.setCell (p:=⟨w.heap.size,3,none⟩) (Nat.le_refl _) _
   ·rw [hW4];simpa [World.setCell] using hs3
   ·rw [hW4];exact ownsRow_setCell_below (Own.mono ho1 hbs) (by simp only;omega) _
   ·rw [hW4];exact ownsRow_setCell_below (ROwn.base ho2 hbs) (by simp only;omega) _
  have p0:W4.cell? ⟨w.heap.size,0,none⟩=some (.string nm):=cellsAt hg4 0
  have p1:W4.cell? ⟨w.heap.size,1,none⟩=some (.string ct):=cellsAt hg4 1
  have p2:W4.cell? ⟨w.heap.size,2,none⟩=some (.slice em km cm):=cellsAt hg4 2
  have p3:W4.cell? ⟨w.heap.size,3,none⟩=some (.slice ra rk rc):=cellsAt hg4 3
  have p4:W4.cell? ⟨w.heap.size,4,none⟩=some (.slice es ks cs_):=cellsAt hg4 4
  have p5:W4.cell? ⟨w.heap.size,5,none⟩=some (.slice eg_ kg cg):=cellsAt hg4 5
  have p6:W4.cell? ⟨w.heap.size,6,none⟩=some (.int .i64 px):=cellsAt hg4 6
  have p7:W4.cell? ⟨w.heap.size,7,none⟩=some (.int .i64 py):=cellsAt hg4 7
  have p8:W4.cell? ⟨w.heap.size,8,none⟩=some (.int .i64 pz):=cellsAt hg4 8
  have p9:W4.cell? ⟨w.heap.size,9,none⟩=some (.int .i64 ph):=cellsAt hg4 9
  have p10:W4.cell? ⟨w.heap.size,10,none⟩=some (.int .i64 pq):=cellsAt hg4 10
  have p11:W4.cell? ⟨w.heap.size,11,none⟩=some (.slice eh kh ch):=cellsAt hg4 11
  have q0:W4.cell? ⟨w.heap.size+1,0,none⟩=some (.string ⟨#[]⟩):=cellsAt hz4 0
  have qz0:W4.frozen? ⟨w.heap.size+1,0,none⟩=false:=frozen_of hz4 0
  have q1:W4.cell? ⟨w.heap.size+1,1,none⟩=some (.string ⟨#[]⟩):=cellsAt hz4 1
  have qz1:W4.frozen? ⟨w.heap.size+1,1,none⟩=false:=frozen_of hz4 1
  have q2:W4.cell? ⟨w.heap.size+1,2,none⟩=some (.slice none 0 0):=cellsAt hz4 2
  have qz2:W4.frozen? ⟨w.heap.size+1,2,none⟩=false:=frozen_of hz4 2
  have q3:W4.cell? ⟨w.heap.size+1,3,none⟩=some (.slice none 0 0):=cellsAt hz4 3
  have qz3:W4.frozen? ⟨w.heap.size+1,3,none⟩=false:=frozen_of hz4 3
  have q4:W4.cell? ⟨w.heap.size+1,4,none⟩=some (.slice none 0 0):=cellsAt hz4 4
  have qz4:W4.frozen? ⟨w.heap.size+1,4,none⟩=false:=frozen_of hz4 4
  have q5:W4.cell? ⟨w.heap.size+1,5,none⟩=some (.slice none 0 0):=cellsAt hz4 5
  have qz5:W4.frozen? ⟨w.heap.size+1,5,none⟩=false:=frozen_of hz4 5
  have q6:W4.cell? ⟨w.heap.size+1,6,none⟩=some (.int .i64 0):=cellsAt hz4 6
  have qz6:W4.frozen? ⟨w.heap.size+1,6,none⟩=false:=frozen_of hz4 6
  have q7:W4.cell? ⟨w.heap.size+1,7,none⟩=some (.int .i64 0):=cellsAt hz4 7
  have qz7:W4.frozen? ⟨w.heap.size+1,7,none⟩=false:=frozen_of hz4 7
  have q8:W4.cell? ⟨w.heap.size+1,8,none⟩=some (.int .i64 0):=cellsAt hz4 8
  have qz8:W4.frozen? ⟨w.heap.size+1,8,none⟩=false:=frozen_of hz4 8
  have q9:W4.cell? ⟨w.heap.size+1,9,none⟩=some (.int .i64 0):=cellsAt hz4 9
  have qz9:W4.frozen? ⟨w.heap.size+1,9,none⟩=false:=frozen_of hz4 9
  have q10:W4.cell? ⟨w.heap.size+1,10,none⟩=some (.int .i64 0):=cellsAt hz4 10
  have qz10:W4.frozen? ⟨w.heap.size+1,10,none⟩=false:=frozen_of hz4 10
  have q11:W4.cell? ⟨w.heap.size+1,11,none⟩=some (.slice none 0 0):=cellsAt hz4 11
  have qz11:W4.frozen? ⟨w.heap.size+1,11,none⟩=false:=frozen_of hz4 11
  have r0:W4.cell? ⟨w.heap.size+1+1,0,none⟩=some (.string ⟨#[]⟩):=cellsAt hy4 0
  have rz0:W4.frozen? ⟨w.heap.size+1+1,0,none⟩=false:=frozen_of hy4 0
  have r1:W4.cell? ⟨w.heap.size+1+1,1,none⟩=some (.bool false):=cellsAt hy4 1
  have rz1:W4.frozen? ⟨w.heap.size+1+1,1,none⟩=false:=frozen_of hy4 1
  have r2:W4.cell? ⟨w.heap.size+1+1,2,none⟩=some (.slice none 0 0):=cellsAt hy4 2
  have rz2:W4.frozen? ⟨w.heap.size+1+1,2,none⟩=false:=frozen_of hy4 2
  have r3:W4.cell? ⟨w.heap.size+1+1,3,none⟩=some (.slice none 0 0):=cellsAt hy4 3
  have rz3:W4.frozen? ⟨w.heap.size+1+1,3,none⟩=false:=frozen_of hy4 3
  have r4:W4.cell? ⟨w.heap.size+1+1,4,none⟩=some (.slice none 0 0):=cellsAt hy4 4
  have rz4:W4.frozen? ⟨w.heap.size+1+1,4,none⟩=false:=frozen_of hy4 4
  have r5:W4.cell? ⟨w.heap.size+1+1,5,none⟩=some (.slice none 0 0):=cellsAt hy4 5
  have rz5:W4.frozen? ⟨w.heap.size+1+1,5,none⟩=false:=frozen_of hy4 5
  have HK0:Hid (W4.drew.cell? ⟨w.heap.size,0,none⟩=some (.string nm)∧W4.drew.cell? ⟨w.heap.size,1,none⟩=some (.string ct)∧W4.drew.cell? ⟨w.heap.size,2,none⟩=some (.slice em km cm)∧W4.drew.cell? ⟨w.heap.size,3,none⟩=some (.slice ra rk rc)∧W4.drew.cell? ⟨w.heap.size,4,none⟩=some (.slice es ks cs_)∧W4.drew.cell? ⟨w.heap.size,5,none⟩=some (.slice eg_ kg cg)∧W4.drew.cell? ⟨w.heap.size,6,none⟩=some (.int .i64 px)∧W4.drew.cell? ⟨w.heap.size,7,none⟩=some (.int .i64 py)∧W4.drew.cell? ⟨w.heap.size,8,none⟩=some (.int .i64 pz)∧W4.drew.cell? ⟨w.heap.size,9,none⟩=some (.int .i64 ph)∧W4.drew.cell? ⟨w.heap.size,10,none⟩=some (.int .i64 pq)∧W4.drew.cell? ⟨w.heap.size,11,none⟩=some (.slice eh kh ch)∧TS w (.slice ta tk tc) told (.slice ra rk rc) rest W4.drew):=⟨p0,p1,p2,p3,p4,p5,p6,p7,p8,p9,p10,p11,hT4.drew⟩
  have HKD:Hid (∀ W,(W.cell? ⟨w.heap.size,0,none⟩=some (.string nm)∧W.cell? ⟨w.heap.size,1,none⟩=some (.string ct)∧W.cell? ⟨w.heap.size,2,none⟩=some (.slice em km cm)∧W.cell? ⟨w.heap.size,3,none⟩=some (.slice ra rk rc)∧W.cell? ⟨w.heap.size,4,none⟩=some (.slice es ks cs_)∧W.cell? ⟨w.heap.size,5,none⟩=some (.slice eg_ kg cg)∧W.cell? ⟨w.heap.size,6,none⟩=some (.int .i64 px)∧W.cell? ⟨w.heap.size,7,none⟩=some (.int .i64 py)∧W.cell? ⟨w.heap.size,8,none⟩=some (.int .i64 pz)∧W.cell? ⟨w.heap.size,9,none⟩=some (.int .i64 ph)∧W.cell? ⟨w.heap.size,10,none⟩=some (.int .i64 pq)∧W.cell? ⟨w.heap.size,11,none⟩=some (.slice eh kh ch)∧TS w (.slice ta tk tc) told (.slice ra rk rc) rest W)→W.drew.cell? ⟨w.heap.size,0,none⟩=some (.string nm)∧W.drew.cell? ⟨w.heap.size,1,none⟩=some (.string ct)∧W.drew.cell? ⟨w.heap.size,2,none⟩=some (.slice em km cm)∧W.drew.cell? ⟨w.heap.size,3,none⟩=some (.slice ra rk rc)∧W.drew.cell? ⟨w.heap.size,4,none⟩=some (.slice es ks cs_)∧W.drew.cell? ⟨w.heap.size,5,none⟩=some (.slice eg_ kg cg)∧W.drew.cell? ⟨w.heap.size,6,none⟩=some (.int .i64 px)∧W.drew.cell? ⟨w.heap.size,7,none⟩=some (.int .i64 py)∧W.drew.cell? ⟨w.heap.size,8,none⟩=some (.int .i64 pz)∧W.drew.cell? ⟨w.heap.size,9,none⟩=some (.int .i64 ph)∧W.drew.cell? ⟨w.heap.size,10,none⟩=some (.int .i64 pq)∧W.drew.cell? ⟨w.heap.size,11,none⟩=some (.slice eh kh ch)∧TS w (.slice ta tk tc) told (.slice ra rk rc) rest W.drew):=fun W h=>⟨h.1,h.2.1,h.2.2.1,h.2.2.2.1,h.2.2.2.2.1,h.2.2.2.2.2.1,h.2.2.2.2.2.2.1,h.2.2.2.2.2.2.2.1,h.2.2.2.2.2.2.2.2.1,h.2.2.2.2.2.2.2.2.2.1,h.2.2.2.2.2.2.2.2.2.2.1,h.2.2.2.2.2.2.2.2.2.2.2.1,(h.2.2.2.2.2.2.2.2.2.2.2.2).drew⟩
  have HKS:Hid (∀ W b j x,(b=w.heap.size+1∨b=w.heap.size+1+1)→(W.cell? ⟨w.heap.size,0,none⟩=some (.string nm)∧W.cell? ⟨w.heap.size,1,none⟩=some (.string ct)∧W.cell? ⟨w.heap.size,2,none⟩=some (.slice em km cm)∧W.cell? ⟨w.heap.size,3,none⟩=some (.slice ra rk rc)∧W.cell? ⟨w.heap.size,4,none⟩=some (.slice es ks cs_)∧W.cell? ⟨w.heap.size,5,none⟩=some (.slice eg_ kg cg)∧W.cell? ⟨w.heap.size,6,none⟩=some (.int .i64 px)∧W.cell? ⟨w.heap.size,7,none⟩=some (.int .i64 py)∧W.cell? ⟨w.heap.size,8,none⟩=some (.int .i64 pz)∧W.cell? ⟨w.heap.size,9,none⟩=some (.int .i64 ph)∧W.cell? ⟨w.heap.size,10,none⟩=some (.int .i64 pq)∧W.cell? ⟨w.heap.size,11,none⟩=some (.slice eh kh ch)∧TS w (.slice ta tk tc) told (.slice ra rk rc) rest W)→(W.setCell ⟨b,j,none⟩ x).cell? ⟨w.heap.size,0,none⟩=some (.string nm)∧(W.setCell ⟨b,j,none⟩ x).cell? ⟨w.heap.size,1,none⟩=some (.string ct)∧(W.setCell ⟨b,j,none⟩ x).cell? ⟨w.heap.size,2,none⟩=some (.slice em km cm)∧(W.setCell ⟨b,j,none⟩ x).cell? ⟨w.heap.size,3,none⟩=some (.slice ra rk rc)∧(W.setCell ⟨b,j,none⟩ x).cell? ⟨w.heap.size,4,none⟩=some (.slice es ks cs_)∧(W.setCell ⟨b,j,none⟩ x).cell? ⟨w.heap.size,5,none⟩=some (.slice eg_ kg cg)∧(W.setCell ⟨b,j,none⟩ x).cell? ⟨w.heap.size,6,none⟩=some (.int .i64 px)∧(W.setCell ⟨b,j,none⟩ x).cell? ⟨w.heap.size,7,none⟩=some (.int .i64 py)∧(W.setCell ⟨b,j,none⟩ x).cell? ⟨w.heap.size,8,none⟩=some (.int .i64 pz)∧(W.setCell ⟨b,j,none⟩ x).cell? ⟨w.heap.size,9,none⟩=some (.int .i64 ph)∧(W.setCell ⟨b,j,none⟩ x).cell? ⟨w.heap.size,10,none⟩=some (.int .i64 pq)∧(W.setCell ⟨b,j,none⟩ x).cell? ⟨w.heap.size,11,none⟩=some (.slice eh kh ch)∧TS w (.slice ta tk tc) told (.slice ra rk rc) rest (W.setCell ⟨b,j,none⟩ x)):=fun W b j x hb h=>by
   have hne:b≠w.heap.size:=by omega
   exact ⟨(World.cell?_setCell_far W ⟨b,j,none⟩ _ x hne).trans h.1,(World.cell?_setCell_far W ⟨b,j,none⟩ _ x hne).trans h.2.1,(World.cell?_setCell_far W ⟨b,j,none⟩ _ x hne).trans h.2.2.1,(World.cell?_setCell_far W ⟨b,j,none⟩ _ x hne).trans h.2.2.2.1,(World.cell?_setCell_far W ⟨b,j,none⟩ _ x hne).trans h.2.2.2.2.1,(World.cell?_setCell_far W ⟨b,j,none⟩ _ x hne).trans h.2.2.2.2.2.1,(World.cell?_setCell_far W ⟨b,j,none⟩ _ x hne).trans h.2.2.2.2.2.2.1,(World.cell?_setCell_far W ⟨b,j,none⟩ _ x hne).trans h.2.2.2.2.2.2.2.1,(World.cell?_setCell_far W ⟨b,j,none⟩ _ x hne).trans h.2.2.2.2.2.2.2.2.1,(World.cell?_setCell_far W ⟨b,j,none⟩ _ x hne).trans h.2.2.2.2.2.2.2.2.2.1,(World.cell?_setCell_far W ⟨b,j,none⟩ _ x hne).trans h.2.2.2.2.2.2.2.2.2.2.1,(World.cell?_setCell_far W ⟨b,j,none⟩ _ x hne).trans h.2.2.2.2.2.2.2.2.2.2.2.1,(h.2.2.2.2.2.2.2.2.2.2.2.2).set b j x hb⟩
  have HKB:Hid (∀ W W',(W.cell? ⟨w.heap.size,0,none⟩=some (.string nm)∧W.cell? ⟨w.heap.size,1,none⟩=some (.string ct)∧W.cell? ⟨w.heap.size,2,none⟩=some (.slice em km cm)∧W.cell? ⟨w.heap.size,3,none⟩=some (.slice ra rk rc)∧W.cell? ⟨w.heap.size,4,none⟩=some (.slice es ks cs_)∧W.cell? ⟨w.heap.size,5,none⟩=some (.slice eg_ kg cg)∧W.cell? ⟨w.heap.size,6,none⟩=some (.int .i64 px)∧W.cell? ⟨w.heap.size,7,none⟩=some (.int .i64 py)∧W.cell? ⟨w.heap.size,8,none⟩=some (.int .i64 pz)∧W.cell? ⟨w.heap.size,9,none⟩=some (.int .i64 ph)∧W.cell? ⟨w.heap.size,10,none⟩=some (.int .i64 pq)∧W.cell? ⟨w.heap.size,11,none⟩=some (.slice eh kh ch)∧TS w (.slice ta tk tc) told (.slice ra rk rc) rest W)→Below W.heap.size W W'→W'.cell? ⟨w.heap.size,0,none⟩=some (.string nm)∧W'.cell? ⟨w.heap.size,1,none⟩=some (.string ct)∧W'.cell? ⟨w.heap.size,2,none⟩=some (.slice em km cm)∧W'.cell? ⟨w.heap.size,3,none⟩=some (.slice ra rk rc)∧W'.cell? ⟨w.heap.size,4,none⟩=some (.slice es ks cs_)∧W'.cell? ⟨w.heap.size,5,none⟩=some (.slice eg_ kg cg)∧W'.cell? ⟨w.heap.size,6,none⟩=some (.int .i64 px)∧W'.cell? ⟨w.heap.size,7,none⟩=some (.int .i64 py)∧W'.cell? ⟨w.heap.size,8,none⟩=some (.int .i64 pz)∧W'.cell? ⟨w.heap.size,9,none⟩=some (.int .i64 ph)∧W'.cell? ⟨w.heap.size,10,none⟩=some (.int .i64 pq)∧W'.cell? ⟨w.heap.size,11,none⟩=some (.slice eh kh ch)∧TS w (.slice ta tk tc) told (.slice ra rk rc) rest W'):=fun W W' h hb=>by
   have hlt:w.heap.size < W.heap.size:=by have:=(h.2.2.2.2.2.2.2.2.2.2.2.2).siz;omega
   exact ⟨(hb.cell (p:=⟨w.heap.size,0,none⟩) hlt).trans h.1,(hb.cell (p:=⟨w.heap.size,1,none⟩) hlt).trans h.2.1,(hb.cell (p:=⟨w.heap.size,2,none⟩) hlt).trans h.2.2.1,(hb.cell (p:=⟨w.heap.size,3,none⟩) hlt).trans h.2.2.2.1,(hb.cell (p:=⟨w.heap.size,4,none⟩) hlt).trans h.2.2.2.2.1,(hb.cell (p:=⟨w.heap.size,5,none⟩) hlt).trans h.2.2.2.2.2.1,(hb.cell (p:=⟨w.heap.size,6,none⟩) hlt).trans h.2.2.2.2.2.2.1,(hb.cell (p:=⟨w.heap.size,7,none⟩) hlt).trans h.2.2.2.2.2.2.2.1,(hb.cell (p:=⟨w.heap.size,8,none⟩) hlt).trans h.2.2.2.2.2.2.2.2.1,(hb.cell (p:=⟨w.heap.size,9,none⟩) hlt).trans h.2.2.2.2.2.2.2.2.2.1,(hb.cell (p:=⟨w.heap.size,10,none⟩) hlt).trans h.2.2.2.2.2.2.2.2.2.2.1,(hb.cell (p:=⟨w.heap.size,11,none⟩) hlt).trans h.2.2.2.2.2.2.2.2.2.2.2.1,(h.2.2.2.2.2.2.2.2.2.2.2.2).below hb⟩
  have HZB:Hid (∀ w5,Below (World.drew ((((((((((((W4.setCell ⟨w.heap.size+1,0,none⟩ (.string nm)).setCell ⟨w.heap.size+1,1,none⟩ (.string ct)).setCell ⟨w.heap.size+1,2,none⟩ (.slice em km cm)).setCell ⟨w.heap.size+1,3,none⟩ (.slice ra rk rc)).setCell ⟨w.heap.size+1,4,none⟩ (.slice es ks cs_)).setCell ⟨w.heap.size+1,5,none⟩ (.slice eg_ kg cg)).setCell ⟨w.heap.size+1,6,none⟩ (.int .i64 px)).setCell ⟨w.heap.size+1,7,none⟩ (.int .i64 py)).setCell ⟨w.heap.size+1,8,none⟩ (.int .i64 pz)).setCell ⟨w.heap.size+1,9,none⟩ (.int .i64 ph)).setCell ⟨w.heap.size+1,10,none⟩ (.int .i64 pq)).setCell ⟨w.heap.size+1,11,none⟩ (.slice eh kh ch))).heap.size (World.drew ((((((((((((W4.setCell ⟨w.heap.size+1,0,none⟩ (.string nm)).setCell ⟨w.heap.size+1,1,none⟩ (.string ct)).setCell ⟨w.heap.size+1,2,none⟩ (.slice em km cm)).setCell ⟨w.heap.size+1,3,none⟩ (.slice ra rk rc)).setCell ⟨w.heap.size+1,4,none⟩ (.slice es ks cs_)).setCell ⟨w.heap.size+1,5,none⟩ (.slice eg_ kg cg)).setCell ⟨w.heap.size+1,6,none⟩ (.int .i64 px)).setCell ⟨w.heap.size+1,7,none⟩ (.int .i64 py)).setCell ⟨w.heap.size+1,8,none⟩ (.int .i64 pz)).setCell ⟨w.heap.size+1,9,none⟩ (.int .i64 ph)).setCell ⟨w.heap.size+1,10,none⟩ (.int .i64 pq)).setCell ⟨w.heap.size+1,11,none⟩ (.slice eh kh ch))) w5→w5.heap[w.heap.size+1]?=some (.cells #[.string nm,.string ct,.slice em km cm,.slice ra rk rc,.slice es ks cs_,.slice eg_ kg cg,.int .i64 px,.int .i64 py,.int .i64 pz,.int .i64 ph,.int .i64 pq,.slice eh kh ch] 30 (0,0))):=fun w5 hb=>by
   have hS:((((((((((((W4.setCell ⟨w.heap.size+1,0,none⟩ (.string nm)).setCell ⟨w.heap.size+1,1,none⟩ (.string ct)).setCell ⟨w.heap.size+1,2,none⟩ (.slice em km cm)).setCell ⟨w.heap.size+1,3,none⟩ (.slice ra rk rc)).setCell ⟨w.heap.size+1,4,none⟩ (.slice es ks cs_)).setCell ⟨w.heap.size+1,5,none⟩ (.slice eg_ kg cg)).setCell ⟨w.heap.size+1,6,none⟩ (.int .i64 px)).setCell ⟨w.heap.size+1,7,none⟩ (.int .i64 py)).setCell ⟨w.heap.size+1,8,none⟩ (.int .i64 pz)).setCell ⟨w.heap.size+1,9,none⟩ (.int .i64 ph)).setCell ⟨w.heap.size+1,10,none⟩ (.int .i64 pq)).setCell ⟨w.heap.size+1,11,none⟩ (.slice eh kh ch))=setAll (w.heap.size+1) [.string nm,.string ct,.slice em km cm,.slice ra rk rc,.slice es ks cs_,.slice eg_ kg cg,.int .i64 px,.int .i64 py,.int .i64 pz,.int .i64 ph,.int .i64 pq,.slice eh kh ch] 0 W4:=by simp only [setAll,Nat.zero_add,Nat.reduceAdd]
   rw [hS] at hb
   have h1:=hT4.siz
   refine (hb.block _ ?_).trans ?_
   ·rw [drew_heap,setAll_size];omega
   ·rw [drew_heap];exact setAll12 hz4 _ _ _ _ _ _ _ _ _ _ _ _
  clear hg4 hz4 hy4 hT4 ho1 ho2 hb3 hbW3 hbw3 hg3 hz3 hy3
  go_upto_region 6 with fail
  rw [← hW4]
  clear hW4 z3 zz3
  go_region_held3 (fun w'=>w'.cell? ⟨w.heap.size,0,none⟩=some (.string nm)∧w'.cell? ⟨w.heap.size,1,none⟩=some (.string ct)∧w'.cell? ⟨w.heap.size,2,none⟩=some (.slice em km cm)∧w'.cell? ⟨w.heap.size,3,none⟩=some (.slice ra rk rc)∧w'.cell? ⟨w.heap.size,4,none⟩=some (.slice es ks cs_)∧w'.cell? ⟨w.heap.size,5,none⟩=some (.slice eg_ kg cg)∧w'.cell? ⟨w.heap.size,6,none⟩=some (.int .i64 px)∧w'.cell? ⟨w.heap.size,7,none⟩=some (.int .i64 py)∧w'.cell? ⟨w.heap.size,8,none⟩=some (.int .i64 pz)∧w'.cell? ⟨w.heap.size,9,none⟩=some (.int .i64 ph)∧w'.cell? ⟨w.heap.size,10,none⟩=some (.int .i64 pq)∧w'.cell? ⟨w.heap.size,11,none⟩=some (.slice eh kh ch)∧TS w (.slice ta tk tc) told (.slice ra rk rc) rest w') (repeat (first | (with_reducible assumption) | (with_reducible exact HK0.out) | (with_reducible refine HKS.out _ _ _ _ (by simp) ?_) | (with_reducible refine HKD.out _ ?_))) (first | (go_at_call 61;have hS:=‹_∧_›;refine (HJM.out _ _ _ _ _ (hS.2.2.2.2.2.2.2.2.2.2.2.2)).mono ?_;rintro e w5 ⟨ja,jk,jc,rfl,HOJ5,hb5⟩;have hT5:=(hS.2.2.2.2.2.2.2.2.2.2.2.2).below hb5;have hC5:w5.cell? ⟨w.heap.size,0,none⟩=some (.string nm)∧w5.cell? ⟨w.heap.size,1,none⟩=some (.string ct)∧w5.cell? ⟨w.heap.size,2,none⟩=some (.slice em km cm)∧w5.cell? ⟨w.heap.size,3,none⟩=some (.slice ra rk rc)∧w5.cell? ⟨w.heap.size,4,none⟩=some (.slice es ks cs_)∧w5.cell? ⟨w.heap.size,5,none⟩=some (.slice eg_ kg cg)∧w5.cell? ⟨w.heap.size,6,none⟩=some (.int .i64 px)∧w5.cell? ⟨w.heap.size,7,none⟩=some (.int .i64 py)∧w5.cell? ⟨w.heap.size,8,none⟩=some (.int .i64 pz)∧w5.cell? ⟨w.heap.size,9,none⟩=some (.int .i64 ph)∧w5.cell? ⟨w.heap.size,10,none⟩=some (.int .i64 pq)∧w5.cell? ⟨w.heap.size,11,none⟩=some (.slice eh kh ch)∧TS w (.slice ta tk tc) told (.slice ra rk rc) rest w5:=HKB.out _ _ hS hb5;clear hS;obtain ⟨cs5,hz5,hn5⟩:=hT5.b1;obtain ⟨d0,d1,d2,d3,d4,d5,d6,d7,d8,d9,d10,d11,rfl⟩:=arr12 hn5;obtain ⟨es5,hy5,hm5⟩:=hT5.b2;obtain ⟨e0,e1,e2,e3,e4,e5,rfl⟩:=arr6 hm5;have q50:w5.cell? ⟨w.heap.size+1,0,none⟩=some d0:=cellsAt hz5 0;have q5z0:w5.frozen? ⟨w.heap.size+1,0,none⟩=false:=frozen_of hz5 0;have q51:w5.cell? ⟨w.heap.size+1,1,none⟩=some d1:=cellsAt hz5 1;have q5z1:w5.frozen? ⟨w.heap.size+1,1,none⟩=false:=frozen_of hz5 1;have q52:w5.cell? ⟨w.heap.size+1,2,none⟩=some d2:=cellsAt hz5 2;have q5z2:w5.frozen? ⟨w.heap.size+1,2,none⟩=false:=frozen_of hz5 2;have q53:w5.cell? ⟨w.heap.size+1,3,none⟩=some d3:=cellsAt hz5 3;have q5z3:w5.frozen? ⟨w.heap.size+1,3,none⟩=false:=frozen_of hz5 3;have q54:w5.cell? ⟨w.heap.size+1,4,none⟩=some d4:=cellsAt hz5 4;have q5z4:w5.frozen? ⟨w.heap.size+1,4,none⟩=false:=frozen_of hz5 4;have q55:w5.cell? ⟨w.heap.size+1,5,none⟩=some d5:=cellsAt hz5 5;have q5z5:w5.frozen? ⟨w.heap.size+1,5,none⟩=false:=frozen_of hz5 5;have q56:w5.cell? ⟨w.heap.size+1,6,none⟩=some d6:=cellsAt hz5 6;have q5z6:w5.frozen? ⟨w.heap.size+1,6,none⟩=false:=frozen_of hz5 6;have q57:w5.cell? ⟨w.heap.size+1,7,none⟩=some d7:=cellsAt hz5 7;have q5z7:w5.frozen? ⟨w.heap.size+1,7,none⟩=false:=frozen_of hz5 7;have q58:w5.cell? ⟨w.heap.size+1,8,none⟩=some d8:=cellsAt hz5 8;have q5z8:w5.frozen? ⟨w.heap.size+1,8,none⟩=false:=frozen_of hz5 8;have q59:w5.cell? ⟨w.heap.size+1,9,none⟩=some d9:=cellsAt hz5 9;have q5z9:w5.frozen? ⟨w.heap.size+1,9,none⟩=false:=frozen_of hz5 9;have q510:w5.cell? ⟨w.heap.size+1,10,none⟩=some d10:=cellsAt hz5 10;have q5z10:w5.frozen? ⟨w.heap.size+1,10,none⟩=false:=frozen_of hz5 10;have q511:w5.cell? ⟨w.heap.size+1,11,none⟩=some d11:=cellsAt hz5 11;have q5z11:w5.frozen? ⟨w.heap.size+1,11,none⟩=false:=frozen_of hz5 11;have r50:w5.cell? ⟨w.heap.size+1+1,0,none⟩=some e0:=cellsAt hy5 0;have r5z0:w5.frozen? ⟨w.heap.size+1+1,0,none⟩=false:=frozen_of hy5 0;have r51:w5.cell? ⟨w.heap.size+1+1,1,none⟩=some e1:=cellsAt hy5 1;have r5z1:w5.frozen? ⟨w.heap.size+1+1,1,none⟩=false:=frozen_of hy5 1;have r52:w5.cell? ⟨w.heap.size+1+1,2,none⟩=some e2:=cellsAt hy5 2;have r5z2:w5.frozen? ⟨w.heap.size+1+1,2,none⟩=false:=frozen_of hy5 2;have r53:w5.cell? ⟨w.heap.size+1+1,3,none⟩=some e3:=cellsAt hy5 3;have r5z3:w5.frozen? ⟨w.heap.size+1+1,3,none⟩=false:=frozen_of hy5 3;have r54:w5.cell? ⟨w.heap.size+1+1,4,none⟩=some e4:=cellsAt hy5 4;have r5z4:w5.frozen? ⟨w.heap.size+1+1,4,none⟩=false:=frozen_of hy5 4;have r55:w5.cell? ⟨w.heap.size+1+1,5,none⟩=some e5:=cellsAt hy5 5;have r5z5:w5.frozen? ⟨w.heap.size+1+1,5,none⟩=false:=frozen_of hy5 5) | fail)
  all_goals go_wp2_with fail
  all_goals
   clear p0 p1 p2 p3 p4 p5 p6 p7 p8 p9 p10 p11 q0 qz0 q1 qz1 q2 qz2 q3 qz3 q4 qz4 q5 qz5 q6 qz6 q7 qz7 q8 qz8 q9 qz9 q10 qz10 q11 qz11 r0 rz0 r1 rz1 r2 rz2 r3 rz3 r4 rz4 r5 rz5 q50 q5z0 q51 q5z1 q52 q5z2 q53 q5z3 q54 q5z4 q55 q5z5 q56 q5z6 q57 q5z7 q58 q5z8 q59 q5z9 q510 q5z10 q511 q5z11 r50 r5z0 r51 r5z1 r52 r5z2 r53 r5z3 r54 r5z4 r55 r5z5 hC5
   first
   | (obtain ⟨WF,hWG⟩:∃ WF,WF=((((((((((((((((((w5.setCell ⟨w.heap.size+1,0,none⟩ (.string nm)).setCell ⟨w.heap.size+1,1,none⟩ (.string ct)).setCell ⟨w.heap.size+1,2,none⟩ (.slice em km cm)).setCell ⟨w.heap.size+1,3,none⟩ (.slice ra rk rc)).setCell ⟨w.heap.size+1,4,none⟩ (.slice es ks cs_)).setCell ⟨w.heap.size+1,5,none⟩ (.slice eg_ kg cg)).setCell ⟨w.heap.size+1,6,none⟩ (.int .i64 px)).setCell ⟨w.heap.size+1,7,none⟩ (.int .i64 py)).setCell ⟨w.heap.size+1,8,none⟩ (.int .i64 pz)).setCell ⟨w.heap.size+1,9,none⟩ (.int .i64 ph)).setCell ⟨w.heap.size+1,10,none⟩ (.int .i64 pq)).setCell ⟨w.heap.size+1,11,none⟩ (.slice eh kh ch)).setCell ⟨w.heap.size+1+1,0,none⟩ (.string nm)).setCell ⟨w.heap.size+1+1,1,none⟩ (.bool false)).setCell ⟨w.heap.size+1+1,2,none⟩ (.slice ja jk jc)).setCell ⟨w.heap.size+1+1,3,none⟩ (.slice none 0 0)).setCell ⟨w.heap.size+1+1,4,none⟩ (.slice none 0 0)).setCell ⟨w.heap.size+1+1,5,none⟩ (.slice none 0 0)):=⟨_,rfl⟩
      rw [← hWG]
      have hWF:WF=setAll (w.heap.size+1+1) [.string nm,.bool false,.slice ja jk jc,.slice none 0 0,.slice none 0 0,.slice none 0 0] 0 (setAll (w.heap.size+1) [.string nm,.string ct,.slice em km cm,.slice ra rk rc,.slice es ks cs_,.slice eg_ kg cg,.int .i64 px,.int .i64 py,.int .i64 pz,.int .i64 ph,.int .i64 pq,.slice eh kh ch] 0 w5):=by rw [hWG];simp only [setAll,Nat.zero_add,Nat.reduceAdd]
      clear hWG
      have hz:WF.heap[w.heap.size+1]?=some (.cells #[.string nm,.string ct,.slice em km cm,.slice ra rk rc,.slice es ks cs_,.slice eg_ kg cg,.int .i64 px,.int .i64 py,.int .i64 pz,.int .i64 ph,.int .i64 pq,.slice eh kh ch] 30 (0,0)):=by rw [hWF];rw [setAll_other (by omega)];exact setAll12 hz5 _ _ _ _ _ _ _ _ _ _ _ _
      have hy:WF.heap[w.heap.size+1+1]?=some (.cells #[.string nm,.bool false,.slice ja jk jc,.slice none 0 0,.slice none 0 0,.slice none 0 0] 44 (0,0)):=by rw [hWF];exact setAll6 ((setAll_other (by omega) _ _ _).trans hy5) _ _ _ _ _ _
      have HOJ:Hid (Own (w.heap.size+3) WF (.slice ja jk jc) l):=by rw [hWF];exact setAll_owns (by omega) _ _ (setAll_owns (by omega) _ _ HOJ5.out)
      have HOR:Hid (ROwn (w.heap.size+3) WF (.slice ra rk rc) rest):=by rw [hWF];exact setAll_owns (by omega) _ _ (setAll_owns (by omega) _ _ hT5.o2)
      have HBF:Hid (Below w.heap.size w WF):=by rw [hWF];exact setAll_below (by omega) _ _ (setAll_below (by omega) _ _ hT5.bel)
      clear hWF)
   | (obtain ⟨WF,hWG⟩:∃ WF,WF=((((((w5.setCell ⟨w.heap.size+1+1,0,none⟩ (.string nm)).setCell ⟨w.heap.size+1+1,1,none⟩ (.bool false)).setCell ⟨w.heap.size+1+1,2,none⟩ (.slice ja jk jc)).setCell ⟨w.heap.size+1+1,3,none⟩ (.slice none 0 0)).setCell ⟨w.heap.size+1+1,4,none⟩ (.slice none 0 0)).setCell ⟨w.heap.size+1+1,5,none⟩ (.slice none 0 0)):=⟨_,rfl⟩
      rw [← hWG]
      have hWF:WF=setAll (w.heap.size+1+1) [.string nm,.bool false,.slice ja jk jc,.slice none 0 0,.slice none 0 0,.slice none 0 0] 0 w5:=by rw [hWG];simp only [setAll,Nat.zero_add,Nat.reduceAdd]
      clear hWG
      have hz:WF.heap[w.heap.size+1]?=some (.cells #[.string nm,.string ct,.slice em km cm,.slice ra rk rc,.slice es ks cs_,.slice eg_ kg cg,.int .i64 px,.int .i64 py,.int .i64 pz,.int .i64 ph,.int .i64 pq,.slice eh kh ch] 30 (0,0)):=by rw [hWF];rw [setAll_other (by omega)];exact HZB.out _ hb5
      have hy:WF.heap[w.heap.size+1+1]?=some (.cells #[.string nm,.bool false,.slice ja jk jc,.slice none 0 0,.slice none 0 0,.slice none 0 0] 44 (0,0)):=by rw [hWF];exact setAll6 hy5 _ _ _ _ _ _
      have HOJ:Hid (Own (w.heap.size+3) WF (.slice ja jk jc) l):=by rw [hWF];exact setAll_owns (by omega) _ _ HOJ5.out
      have HOR:Hid (ROwn (w.heap.size+3) WF (.slice ra rk rc) rest):=by rw [hWF];exact setAll_owns (by omega) _ _ hT5.o2
      have HBF:Hid (Below w.heap.size w WF):=by rw [hWF];exact setAll_below (by omega) _ _ hT5.bel
      clear hWF)
   have q0:WF.cell? ⟨w.heap.size+1,0,none⟩=some (.string nm):=cellsAt hz 0
   have q1:WF.cell? ⟨w.heap.size+1,1,none⟩=some (.string ct):=cellsAt hz 1
   have q2:WF.cell? ⟨w.heap.size+1,2,none⟩=some (.slice em km cm):=cellsAt hz 2
   have q3:WF.cell? ⟨w.heap.size+1,3,none⟩=some (.slice ra rk rc):=cellsAt hz 3
   have q4:WF.cell? ⟨w.heap.size+1,4,none⟩=some (.slice es ks cs_):=cellsAt hz 4
   have q5:WF.cell? ⟨w.heap.size+1,5,none⟩=some (.slice eg_ kg cg):=cellsAt hz 5
   have q6:WF.cell? ⟨w.heap.size+1,6,none⟩=some (.int .i64 px):=cellsAt hz 6
   have q7:WF.cell? ⟨w.heap.size+1,7,none⟩=some (.int .i64 py):=cellsAt hz 7
   have q8:WF.cell? ⟨w.heap.size+1,8,none⟩=some (.int .i64 pz):=cellsAt hz 8
   have q9:WF.cell? ⟨w.heap.size+1,9,none⟩=some (.int .i64 ph):=cellsAt hz 9
   have q10:WF.cell? ⟨w.heap.size+1,10,none⟩=some (.int .i64 pq):=cellsAt hz 10
   have q11:WF.cell? ⟨w.heap.size+1,11,none⟩=some (.slice eh kh ch):=cellsAt hz 11
   have r0:WF.cell? ⟨w.heap.size+1+1,0,none⟩=some (.string nm):=cellsAt hy 0
   have r1:WF.cell? ⟨w.heap.size+1+1,1,none⟩=some (.bool false):=cellsAt hy 1
   have r2:WF.cell? ⟨w.heap.size+1+1,2,none⟩=some (.slice ja jk jc):=cellsAt hy 2
   have r3:WF.cell? ⟨w.heap.size+1+1,3,none⟩=some (.slice none 0 0):=cellsAt hy 3
   have r4:WF.cell? ⟨w.heap.size+1+1,4,none⟩=some (.slice none 0 0):=cellsAt hy 4
   have r5:WF.cell? ⟨w.heap.size+1+1,5,none⟩=some (.slice none 0 0):=cellsAt hy 5
   refine bodyPost_ret (v:=.tuple #[.agg #[.string nm,.string ct,.slice em km cm,.slice ra rk rc,.slice es ks cs_,.slice eg_ kg cg,.int .i64 px,.int .i64 py,.int .i64 pz,.int .i64 ph,.int .i64 pq,.slice eh kh ch],.agg #[.string nm,.bool false,.slice ja jk jc,.slice none 0 0,.slice none 0 0,.slice none 0 0]]) ?_ rfl ?_
   ·simp [results,Tryz.results21,go_sem,q0,q1,q2,q3,q4,q5,q6,q7,q8,q9,q10,q11,r0,r1,r2,r3,r4,r5]
   ·refine ⟨_,_,rfl,fun W hW=>?_,HBF.out⟩
    have hI:=HIN.out.below ((HBW.out.trans (HBF.out.mono HBW.out.size)).trans (hW.below (by have:=HBW.out.size;have:=HBF.out.size;omega) (fun k hk=>hk.1)))
    have hR:=ROwn.sl (owns_sh HOR.out hW (fun k hk=>by omega)) (rns_get HTN.out.2)
    have hJ:=Own.sl (owns_sh HOJ.out hW (fun k hk=>by omega)) (ns_get HLN.out)
    exact ⟨⟨_,_,_,_,_,(HAR.out _).1.symm,hI.ms,hR,hI.sv,hI.gw,hI.wh,hI.name,hI.centre⟩,⟨_,_,_,_,(by rw [(HAR.out (.slice none 0 0)).2];rfl),hJ,⟨none,0,rfl,Sv.ns_get (by simp),.inl rfl⟩,⟨none,0,rfl,Gw.ns_get (by simp),.inl rfl⟩,⟨none,0,rfl,Wh.ns_get (by simp),.inl rfl⟩⟩⟩
 ·have htm:tm=t3:=HTD.out.trans (if_neg hlt)
  subst htm
  clear HTD
  go_wp2_with (first | (go_at_call 58;refine (HTM.out _).mono ?_;rintro e w' ⟨rfl,hww⟩;have hwq:=hww.symm;subst hwq) | fail)
  refine (HTK.out w1 (HBX.out w1 HB1.out).1).mono ?_
  rintro e w3 ⟨ta,tk,tc,ra,rk,rc,rfl,ho1,ho2,hb3⟩
  have hbW3:Below W0.heap.size W0 w3:=HB1.out.trans (hb3.mono HB1.out.size)
  obtain ⟨hbw3,hg3,hz3,hy3,hs3⟩:=HBX.out w3 hbW3
  have hbs:w.heap.size+3≤w1.heap.size:=by have:=HB1.out.size;have:=HS0.out;omega
  have z3:w3.cell? ⟨w.heap.size,3,none⟩=some (.slice er_ kr cr):=cellsAt hg3 3
  have zz3:w3.frozen? ⟨w.heap.size,3,none⟩=false:=frozen_of hg3 3
  obtain ⟨W4,hW4⟩:∃ W4,W4=w3.setCell ⟨w.heap.size,3,none⟩ (.slice ra rk rc):=⟨_,rfl⟩
  have hg4:W4.heap[w.heap.size]?=some (.cells #[.string nm,.string ct,.slice em km cm,.slice ra rk rc,.slice es ks cs_,.slice eg_ kg cg,.int .i64 px,.int .i64 py,.int .i64 pz,.int .i64 ph,.int .i64 pq,.slice eh kh ch] 30 (0,0)):=by rw [hW4];exact Joins.block_setCell (i:=3) hg3 _
  have hz4:W4.heap[w.heap.size+1]?=some (.cells #[.string ⟨#[]⟩,.string ⟨#[]⟩,.slice none 0 0,.slice none 0 0,.slice none 0 0,.slice none 0 0,.int .i64 0,.int .i64 0,.int .i64 0,.int .i64 0,.int .i64 0,.slice none 0 0] 30 (0,0)):=by rw [hW4];exact (Below.heap_setCell _ _ _ _ (by simp only;omega)).trans hz3
  have hy4:W4.heap[w.heap.size+1+1]?=some (.cells #[.string ⟨#[]⟩,.bool false,.slice none 0 0,.slice none 0 0,.slice none 0 0,.slice none 0 0] 44 (0,0)):=by rw [hW4];exact (Below.heap_setCell _ _ _ _ (by simp only;omega)).trans hy3
  have hT4:TS w (.slice ta tk tc) told (.slice ra rk rc) rest W4:=by
   refine ⟨?_,?_,?_,?_,⟨_,hz4,rfl⟩,⟨_,hy4,rfl⟩⟩
   ·rw [hW4];exact hbw3.setCell (p:=⟨w.heap.size,3,none⟩) (Nat.le_refl _) _
   ·rw [hW4];simpa [World.setCell] using hs3
   ·rw [hW4];exact ownsRow_setCell_below (Own.mono ho1 hbs) (by simp only;omega) _
   ·rw [hW4];exact ownsRow_setCell_below (ROwn.base ho2 hbs) (by simp only;omega) _
  have p0:W4.cell? ⟨w.heap.size,0,none⟩=some (.string nm):=cellsAt hg4 0
  have p1:W4.cell? ⟨w.heap.size,1,none⟩=some (.string ct):=cellsAt hg4 1
  have p2:W4.cell? ⟨w.heap.size,2,none⟩=some (.slice em km cm):=cellsAt hg4 2
  have p3:W4.cell? ⟨w.heap.size,3,none⟩=some (.slice ra rk rc):=cellsAt hg4 3
  have p4:W4.cell? ⟨w.heap.size,4,none⟩=some (.slice es ks cs_):=cellsAt hg4 4
  have p5:W4.cell? ⟨w.heap.size,5,none⟩=some (.slice eg_ kg cg):=cellsAt hg4 5
  have p6:W4.cell? ⟨w.heap.size,6,none⟩=some (.int .i64 px):=cellsAt hg4 6
  have p7:W4.cell? ⟨w.heap.size,7,none⟩=some (.int .i64 py):=cellsAt hg4 7
  have p8:W4.cell? ⟨w.heap.size,8,none⟩=some (.int .i64 pz):=cellsAt hg4 8
  have p9:W4.cell? ⟨w.heap.size,9,none⟩=some (.int .i64 ph):=cellsAt hg4 9
  have p10:W4.cell? ⟨w.heap.size,10,none⟩=some (.int .i64 pq):=cellsAt hg4 10
  have p11:W4.cell? ⟨w.heap.size,11,none⟩=some (.slice eh kh ch):=cellsAt hg4 11
  have q0:W4.cell? ⟨w.heap.size+1,0,none⟩=some (.string ⟨#[]⟩):=cellsAt hz4 0
  have qz0:W4.frozen? ⟨w.heap.size+1,0,none⟩=false:=frozen_of hz4 0
  have q1:W4.cell? ⟨w.heap.size+1,1,none⟩=some (.string ⟨#[]⟩):=cellsAt hz4 1
  have qz1:W4.frozen? ⟨w.heap.size+1,1,none⟩=false:=frozen_of hz4 1
  have q2:W4.cell? ⟨w.heap.size+1,2,none⟩=some (.slice none 0 0):=cellsAt hz4 2
  have qz2:W4.frozen? ⟨w.heap.size+1,2,none⟩=false:=frozen_of hz4 2
  have q3:W4.cell? ⟨w.heap.size+1,3,none⟩=some (.slice none 0 0):=cellsAt hz4 3
  have qz3:W4.frozen? ⟨w.heap.size+1,3,none⟩=false:=frozen_of hz4 3
  have q4:W4.cell? ⟨w.heap.size+1,4,none⟩=some (.slice none 0 0):=cellsAt hz4 4
  have qz4:W4.frozen? ⟨w.heap.size+1,4,none⟩=false:=frozen_of hz4 4
  have q5:W4.cell? ⟨w.heap.size+1,5,none⟩=some (.slice none 0 0):=cellsAt hz4 5
  have qz5:W4.frozen? ⟨w.heap.size+1,5,none⟩=false:=frozen_of hz4 5
  have q6:W4.cell? ⟨w.heap.size+1,6,none⟩=some (.int .i64 0):=cellsAt hz4 6
  have qz6:W4.frozen? ⟨w.heap.size+1,6,none⟩=false:=frozen_of hz4 6
  have q7:W4.cell? ⟨w.heap.size+1,7,none⟩=some (.int .i64 0):=cellsAt hz4 7
  have qz7:W4.frozen? ⟨w.heap.size+1,7,none⟩=false:=frozen_of hz4 7
  have q8:W4.cell? ⟨w.heap.size+1,8,none⟩=some (.int .i64 0):=cellsAt hz4 8
  have qz8:W4.frozen? ⟨w.heap.size+1,8,none⟩=false:=frozen_of hz4 8
  have q9:W4.cell? ⟨w.heap.size+1,9,none⟩=some (.int .i64 0):=cellsAt hz4 9
  have qz9:W4.frozen? ⟨w.heap.size+1,9,none⟩=false:=frozen_of hz4 9
  have q10:W4.cell? ⟨w.heap.size+1,10,none⟩=some (.int .i64 0):=cellsAt hz4 10
  have qz10:W4.frozen? ⟨w.heap.size+1,10,none⟩=false:=frozen_of hz4 10
  have q11:W4.cell? ⟨w.heap.size+1,11,none⟩=some (.slice none 0 0):=cellsAt hz4 11
  have qz11:W4.frozen? ⟨w.heap.size+1,11,none⟩=false:=frozen_of hz4 11
  have r0:W4.cell? ⟨w.heap.size+1+1,0,none⟩=some (.string ⟨#[]⟩):=cellsAt hy4 0
  have rz0:W4.frozen? ⟨w.heap.size+1+1,0,none⟩=false:=frozen_of hy4 0
  have r1:W4.cell? ⟨w.heap.size+1+1,1,none⟩=some (.bool false):=cellsAt hy4 1
  have rz1:W4.frozen? ⟨w.heap.size+1+1,1,none⟩=false:=frozen_of hy4 1
  have r2:W4.cell? ⟨w.heap.size+1+1,2,none⟩=some (.slice none 0 0):=cellsAt hy4 2
  have rz2:W4.frozen? ⟨w.heap.size+1+1,2,none⟩=false:=frozen_of hy4 2
  have r3:W4.cell? ⟨w.heap.size+1+1,3,none⟩=some (.slice none 0 0):=cellsAt hy4 3
  have rz3:W4.frozen? ⟨w.heap.size+1+1,3,none⟩=false:=frozen_of hy4 3
  have r4:W4.cell? ⟨w.heap.size+1+1,4,none⟩=some (.slice none 0 0):=cellsAt hy4 4
  have rz4:W4.frozen? ⟨w.heap.size+1+1,4,none⟩=false:=frozen_of hy4 4
  have r5:W4.cell? ⟨w.heap.size+1+1,5,none⟩=some (.slice none 0 0):=cellsAt hy4 5
  have rz5:W4.frozen? ⟨w.heap.size+1+1,5,none⟩=false:=frozen_of hy4 5
  have HK0:Hid (W4.drew.cell? ⟨w.heap.size,0,none⟩=some (.string nm)∧W4.drew.cell? ⟨w.heap.size,1,none⟩=some (.string ct)∧W4.drew.cell? ⟨w.heap.size,2,none⟩=some (.slice em km cm)∧W4.drew.cell? ⟨w.heap.size,3,none⟩=some (.slice ra rk rc)∧W4.drew.cell? ⟨w.heap.size,4,none⟩=some (.slice es ks cs_)∧W4.drew.cell? ⟨w.heap.size,5,none⟩=some (.slice eg_ kg cg)∧W4.drew.cell? ⟨w.heap.size,6,none⟩=some (.int .i64 px)∧W4.drew.cell? ⟨w.heap.size,7,none⟩=some (.int .i64 py)∧W4.drew.cell? ⟨w.heap.size,8,none⟩=some (.int .i64 pz)∧W4.drew.cell? ⟨w.heap.size,9,none⟩=some (.int .i64 ph)∧W4.drew.cell? ⟨w.heap.size,10,none⟩=some (.int .i64 pq)∧W4.drew.cell? ⟨w.heap.size,11,none⟩=some (.slice eh kh ch)∧TS w (.slice ta tk tc) told (.slice ra rk rc) rest W4.drew):=⟨p0,p1,p2,p3,p4,p5,p6,p7,p8,p9,p10,p11,hT4.drew⟩
  have HKD:Hid (∀ W,(W.cell? ⟨w.heap.size,0,none⟩=some (.string nm)∧W.cell? ⟨w.heap.size,1,none⟩=some (.string ct)∧W.cell? ⟨w.heap.size,2,none⟩=some (.slice em km cm)∧W.cell? ⟨w.heap.size,3,none⟩=some (.slice ra rk rc)∧W.cell? ⟨w.heap.size,4,none⟩=some (.slice es ks cs_)∧W.cell? ⟨w.heap.size,5,none⟩=some (.slice eg_ kg cg)∧W.cell? ⟨w.heap.size,6,none⟩=some (.int .i64 px)∧W.cell? ⟨w.heap.size,7,none⟩=some (.int .i64 py)∧W.cell? ⟨w.heap.size,8,none⟩=some (.int .i64 pz)∧W.cell? ⟨w.heap.size,9,none⟩=some (.int .i64 ph)∧W.cell? ⟨w.heap.size,10,none⟩=some (.int .i64 pq)∧W.cell? ⟨w.heap.size,11,none⟩=some (.slice eh kh ch)∧TS w (.slice ta tk tc) told (.slice ra rk rc) rest W)→W.drew.cell? ⟨w.heap.size,0,none⟩=some (.string nm)∧W.drew.cell? ⟨w.heap.size,1,none⟩=some (.string ct)∧W.drew.cell? ⟨w.heap.size,2,none⟩=some (.slice em km cm)∧W.drew.cell? ⟨w.heap.size,3,none⟩=some (.slice ra rk rc)∧W.drew.cell? ⟨w.heap.size,4,none⟩=some (.slice es ks cs_)∧W.drew.cell? ⟨w.heap.size,5,none⟩=some (.slice eg_ kg cg)∧W.drew.cell? ⟨w.heap.size,6,none⟩=some (.int .i64 px)∧W.drew.cell? ⟨w.heap.size,7,none⟩=some (.int .i64 py)∧W.drew.cell? ⟨w.heap.size,8,none⟩=some (.int .i64 pz)∧W.drew.cell? ⟨w.heap.size,9,none⟩=some (.int .i64 ph)∧W.drew.cell? ⟨w.heap.size,10,none⟩=some (.int .i64 pq)∧W.drew.cell? ⟨w.heap.size,11,none⟩=some (.slice eh kh ch)∧TS w (.slice ta tk tc) told (.slice ra rk rc) rest W.drew):=fun W h=>⟨h.1,h.2.1,h.2.2.1,h.2.2.2.1,h.2.2.2.2.1,h.2.2.2.2.2.1,h.2.2.2.2.2.2.1,h.2.2.2.2.2.2.2.1,h.2.2.2.2.2.2.2.2.1,h.2.2.2.2.2.2.2.2.2.1,h.2.2.2.2.2.2.2.2.2.2.1,h.2.2.2.2.2.2.2.2.2.2.2.1,(h.2.2.2.2.2.2.2.2.2.2.2.2).drew⟩
  have HKS:Hid (∀ W b j x,(b=w.heap.size+1∨b=w.heap.size+1+1)→(W.cell? ⟨w.heap.size,0,none⟩=some (.string nm)∧W.cell? ⟨w.heap.size,1,none⟩=some (.string ct)∧W.cell? ⟨w.heap.size,2,none⟩=some (.slice em km cm)∧W.cell? ⟨w.heap.size,3,none⟩=some (.slice ra rk rc)∧W.cell? ⟨w.heap.size,4,none⟩=some (.slice es ks cs_)∧W.cell? ⟨w.heap.size,5,none⟩=some (.slice eg_ kg cg)∧W.cell? ⟨w.heap.size,6,none⟩=some (.int .i64 px)∧W.cell? ⟨w.heap.size,7,none⟩=some (.int .i64 py)∧W.cell? ⟨w.heap.size,8,none⟩=some (.int .i64 pz)∧W.cell? ⟨w.heap.size,9,none⟩=some (.int .i64 ph)∧W.cell? ⟨w.heap.size,10,none⟩=some (.int .i64 pq)∧W.cell? ⟨w.heap.size,11,none⟩=some (.slice eh kh ch)∧TS w (.slice ta tk tc) told (.slice ra rk rc) rest W)→(W.setCell ⟨b,j,none⟩ x).cell? ⟨w.heap.size,0,none⟩=some (.string nm)∧(W.setCell ⟨b,j,none⟩ x).cell? ⟨w.heap.size,1,none⟩=some (.string ct)∧(W.setCell ⟨b,j,none⟩ x).cell? ⟨w.heap.size,2,none⟩=some (.slice em km cm)∧(W.setCell ⟨b,j,none⟩ x).cell? ⟨w.heap.size,3,none⟩=some (.slice ra rk rc)∧(W.setCell ⟨b,j,none⟩ x).cell? ⟨w.heap.size,4,none⟩=some (.slice es ks cs_)∧(W.setCell ⟨b,j,none⟩ x).cell? ⟨w.heap.size,5,none⟩=some (.slice eg_ kg cg)∧(W.setCell ⟨b,j,none⟩ x).cell? ⟨w.heap.size,6,none⟩=some (.int .i64 px)∧(W.setCell ⟨b,j,none⟩ x).cell? ⟨w.heap.size,7,none⟩=some (.int .i64 py)∧(W.setCell ⟨b,j,none⟩ x).cell? ⟨w.heap.size,8,none⟩=some (.int .i64 pz)∧(W.setCell ⟨b,j,none⟩ x).cell? ⟨w.heap.size,9,none⟩=some (.int .i64 ph)∧(W.setCell ⟨b,j,none⟩ x).cell? ⟨w.heap.size,10,none⟩=some (.int .i64 pq)∧(W.setCell ⟨b,j,none⟩ x).cell? ⟨w.heap.size,11,none⟩=some (.slice eh kh ch)∧TS w (.slice ta tk tc) told (.slice ra rk rc) rest (W.setCell ⟨b,j,none⟩ x)):=fun W b j x hb h=>by
   have hne:b≠w.heap.size:=by omega
   exact ⟨(World.cell?_setCell_far W ⟨b,j,none⟩ _ x hne).trans h.1,(World.cell?_setCell_far W ⟨b,j,none⟩ _ x hne).trans h.2.1,(World.cell?_setCell_far W ⟨b,j,none⟩ _ x hne).trans h.2.2.1,(World.cell?_setCell_far W ⟨b,j,none⟩ _ x hne).trans h.2.2.2.1,(World.cell?_setCell_far W ⟨b,j,none⟩ _ x hne).trans h.2.2.2.2.1,(World.cell?_setCell_far W ⟨b,j,none⟩ _ x hne).trans h.2.2.2.2.2.1,(World.cell?_setCell_far W ⟨b,j,none⟩ _ x hne).trans h.2.2.2.2.2.2.1,(World.cell?_setCell_far W ⟨b,j,none⟩ _ x hne).trans h.2.2.2.2.2.2.2.1,(World.cell?_setCell_far W ⟨b,j,none⟩ _ x hne).trans h.2.2.2.2.2.2.2.2.1,(World.cell?_setCell_far W ⟨b,j,none⟩ _ x hne).trans h.2.2.2.2.2.2.2.2.2.1,(World.cell?_setCell_far W ⟨b,j,none⟩ _ x hne).trans h.2.2.2.2.2.2.2.2.2.2.1,(World.cell?_setCell_far W ⟨b,j,none⟩ _ x hne).trans h.2.2.2.2.2.2.2.2.2.2.2.1,(h.2.2.2.2.2.2.2.2.2.2.2.2).set b j x hb⟩
  have HKB:Hid (∀ W W',(W.cell? ⟨w.heap.size,0,none⟩=some (.string nm)∧W.cell? ⟨w.heap.size,1,none⟩=some (.string ct)∧W.cell? ⟨w.heap.size,2,none⟩=some (.slice em km cm)∧W.cell? ⟨w.heap.size,3,none⟩=some (.slice ra rk rc)∧W.cell? ⟨w.heap.size,4,none⟩=some (.slice es ks cs_)∧W.cell? ⟨w.heap.size,5,none⟩=some (.slice eg_ kg cg)∧W.cell? ⟨w.heap.size,6,none⟩=some (.int .i64 px)∧W.cell? ⟨w.heap.size,7,none⟩=some (.int .i64 py)∧W.cell? ⟨w.heap.size,8,none⟩=some (.int .i64 pz)∧W.cell? ⟨w.heap.size,9,none⟩=some (.int .i64 ph)∧W.cell? ⟨w.heap.size,10,none⟩=some (.int .i64 pq)∧W.cell? ⟨w.heap.size,11,none⟩=some (.slice eh kh ch)∧TS w (.slice ta tk tc) told (.slice ra rk rc) rest W)→Below W.heap.size W W'→W'.cell? ⟨w.heap.size,0,none⟩=some (.string nm)∧W'.cell? ⟨w.heap.size,1,none⟩=some (.string ct)∧W'.cell? ⟨w.heap.size,2,none⟩=some (.slice em km cm)∧W'.cell? ⟨w.heap.size,3,none⟩=some (.slice ra rk rc)∧W'.cell? ⟨w.heap.size,4,none⟩=some (.slice es ks cs_)∧W'.cell? ⟨w.heap.size,5,none⟩=some (.slice eg_ kg cg)∧W'.cell? ⟨w.heap.size,6,none⟩=some (.int .i64 px)∧W'.cell? ⟨w.heap.size,7,none⟩=some (.int .i64 py)∧W'.cell? ⟨w.heap.size,8,none⟩=some (.int .i64 pz)∧W'.cell? ⟨w.heap.size,9,none⟩=some (.int .i64 ph)∧W'.cell? ⟨w.heap.size,10,none⟩=some (.int .i64 pq)∧W'.cell? ⟨w.heap.size,11,none⟩=some (.slice eh kh ch)∧TS w (.slice ta tk tc) told (.slice ra rk rc) rest W'):=fun W W' h hb=>by
   have hlt:w.heap.size < W.heap.size:=by have:=(h.2.2.2.2.2.2.2.2.2.2.2.2).siz;omega
   exact ⟨(hb.cell (p:=⟨w.heap.size,0,none⟩) hlt).trans h.1,(hb.cell (p:=⟨w.heap.size,1,none⟩) hlt).trans h.2.1,(hb.cell (p:=⟨w.heap.size,2,none⟩) hlt).trans h.2.2.1,(hb.cell (p:=⟨w.heap.size,3,none⟩) hlt).trans h.2.2.2.1,(hb.cell (p:=⟨w.heap.size,4,none⟩) hlt).trans h.2.2.2.2.1,(hb.cell (p:=⟨w.heap.size,5,none⟩) hlt).trans h.2.2.2.2.2.1,(hb.cell (p:=⟨w.heap.size,6,none⟩) hlt).trans h.2.2.2.2.2.2.1,(hb.cell (p:=⟨w.heap.size,7,none⟩) hlt).trans h.2.2.2.2.2.2.2.1,(hb.cell (p:=⟨w.heap.size,8,none⟩) hlt).trans h.2.2.2.2.2.2.2.2.1,(hb.cell (p:=⟨w.heap.size,9,none⟩) hlt).trans h.2.2.2.2.2.2.2.2.2.1,(hb.cell (p:=⟨w.heap.size,10,none⟩) hlt).trans h.2.2.2.2.2.2.2.2.2.2.1,(hb.cell (p:=⟨w.heap.size,11,none⟩) hlt).trans h.2.2.2.2.2.2.2.2.2.2.2.1,(h.2.2.2.2.2.2.2.2.2.2.2.2).below hb⟩
  have HZB:Hid (∀ w5,Below (World.drew ((((((((((((W4.setCell ⟨w.heap.size+1,0,none⟩ (.string nm)).setCell ⟨w.heap.size+1,1,none⟩ (.string ct)).setCell ⟨w.heap.size+1,2,none⟩ (.slice em km cm)).setCell ⟨w.heap.size+1,3,none⟩ (.slice ra rk rc)).setCell ⟨w.heap.size+1,4,none⟩ (.slice es ks cs_)).setCell ⟨w.heap.size+1,5,none⟩ (.slice eg_ kg cg)).setCell ⟨w.heap.size+1,6,none⟩ (.int .i64 px)).setCell ⟨w.heap.size+1,7,none⟩ (.int .i64 py)).setCell ⟨w.heap.size+1,8,none⟩ (.int .i64 pz)).setCell ⟨w.heap.size+1,9,none⟩ (.int .i64 ph)).setCell ⟨w.heap.size+1,10,none⟩ (.int .i64 pq)).setCell ⟨w.heap.size+1,11,none⟩ (.slice eh kh ch))).heap.size (World.drew ((((((((((((W4.setCell ⟨w.heap.size+1,0,none⟩ (.string nm)).setCell ⟨w.heap.size+1,1,none⟩ (.string ct)).setCell ⟨w.heap.size+1,2,none⟩ (.slice em km cm)).setCell ⟨w.heap.size+1,3,none⟩ (.slice ra rk rc)).setCell ⟨w.heap.size+1,4,none⟩ (.slice es ks cs_)).setCell ⟨w.heap.size+1,5,none⟩ (.slice eg_ kg cg)).setCell ⟨w.heap.size+1,6,none⟩ (.int .i64 px)).setCell ⟨w.heap.size+1,7,none⟩ (.int .i64 py)).setCell ⟨w.heap.size+1,8,none⟩ (.int .i64 pz)).setCell ⟨w.heap.size+1,9,none⟩ (.int .i64 ph)).setCell ⟨w.heap.size+1,10,none⟩ (.int .i64 pq)).setCell ⟨w.heap.size+1,11,none⟩ (.slice eh kh ch))) w5→w5.heap[w.heap.size+1]?=some (.cells #[.string nm,.string ct,.slice em km cm,.slice ra rk rc,.slice es ks cs_,.slice eg_ kg cg,.int .i64 px,.int .i64 py,.int .i64 pz,.int .i64 ph,.int .i64 pq,.slice eh kh ch] 30 (0,0))):=fun w5 hb=>by
   have hS:((((((((((((W4.setCell ⟨w.heap.size+1,0,none⟩ (.string nm)).setCell ⟨w.heap.size+1,1,none⟩ (.string ct)).setCell ⟨w.heap.size+1,2,none⟩ (.slice em km cm)).setCell ⟨w.heap.size+1,3,none⟩ (.slice ra rk rc)).setCell ⟨w.heap.size+1,4,none⟩ (.slice es ks cs_)).setCell ⟨w.heap.size+1,5,none⟩ (.slice eg_ kg cg)).setCell ⟨w.heap.size+1,6,none⟩ (.int .i64 px)).setCell ⟨w.heap.size+1,7,none⟩ (.int .i64 py)).setCell ⟨w.heap.size+1,8,none⟩ (.int .i64 pz)).setCell ⟨w.heap.size+1,9,none⟩ (.int .i64 ph)).setCell ⟨w.heap.size+1,10,none⟩ (.int .i64 pq)).setCell ⟨w.heap.size+1,11,none⟩ (.slice eh kh ch))=setAll (w.heap.size+1) [.string nm,.string ct,.slice em km cm,.slice ra rk rc,.slice es ks cs_,.slice eg_ kg cg,.int .i64 px,.int .i64 py,.int .i64 pz,.int .i64 ph,.int .i64 pq,.slice eh kh ch] 0 W4:=by simp only [setAll,Nat.zero_add,Nat.reduceAdd]
   rw [hS] at hb
   have h1:=hT4.siz
   refine (hb.block _ ?_).trans ?_
   ·rw [drew_heap,setAll_size];omega
   ·rw [drew_heap];exact setAll12 hz4 _ _ _ _ _ _ _ _ _ _ _ _
  clear hg4 hz4 hy4 hT4 ho1 ho2 hb3 hbW3 hbw3 hg3 hz3 hy3
  go_upto_region 6 with fail
  rw [← hW4]
  clear hW4 z3 zz3
  go_region_held3 (fun w'=>w'.cell? ⟨w.heap.size,0,none⟩=some (.string nm)∧w'.cell? ⟨w.heap.size,1,none⟩=some (.string ct)∧w'.cell? ⟨w.heap.size,2,none⟩=some (.slice em km cm)∧w'.cell? ⟨w.heap.size,3,none⟩=some (.slice ra rk rc)∧w'.cell? ⟨w.heap.size,4,none⟩=some (.slice es ks cs_)∧w'.cell? ⟨w.heap.size,5,none⟩=some (.slice eg_ kg cg)∧w'.cell? ⟨w.heap.size,6,none⟩=some (.int .i64 px)∧w'.cell? ⟨w.heap.size,7,none⟩=some (.int .i64 py)∧w'.cell? ⟨w.heap.size,8,none⟩=some (.int .i64 pz)∧w'.cell? ⟨w.heap.size,9,none⟩=some (.int .i64 ph)∧w'.cell? ⟨w.heap.size,10,none⟩=some (.int .i64 pq)∧w'.cell? ⟨w.heap.size,11,none⟩=some (.slice eh kh ch)∧TS w (.slice ta tk tc) told (.slice ra rk rc) rest w') (repeat (first | (with_reducible assumption) | (with_reducible exact HK0.out) | (with_reducible refine HKS.out _ _ _ _ (by simp) ?_) | (with_reducible refine HKD.out _ ?_))) (first | (go_at_call 61;have hS:=‹_∧_›;refine (HJM.out _ _ _ _ _ (hS.2.2.2.2.2.2.2.2.2.2.2.2)).mono ?_;rintro e w5 ⟨ja,jk,jc,rfl,HOJ5,hb5⟩;have hT5:=(hS.2.2.2.2.2.2.2.2.2.2.2.2).below hb5;have hC5:w5.cell? ⟨w.heap.size,0,none⟩=some (.string nm)∧w5.cell? ⟨w.heap.size,1,none⟩=some (.string ct)∧w5.cell? ⟨w.heap.size,2,none⟩=some (.slice em km cm)∧w5.cell? ⟨w.heap.size,3,none⟩=some (.slice ra rk rc)∧w5.cell? ⟨w.heap.size,4,none⟩=some (.slice es ks cs_)∧w5.cell? ⟨w.heap.size,5,none⟩=some (.slice eg_ kg cg)∧w5.cell? ⟨w.heap.size,6,none⟩=some (.int .i64 px)∧w5.cell? ⟨w.heap.size,7,none⟩=some (.int .i64 py)∧w5.cell? ⟨w.heap.size,8,none⟩=some (.int .i64 pz)∧w5.cell? ⟨w.heap.size,9,none⟩=some (.int .i64 ph)∧w5.cell? ⟨w.heap.size,10,none⟩=some (.int .i64 pq)∧w5.cell? ⟨w.heap.size,11,none⟩=some (.slice eh kh ch)∧TS w (.slice ta tk tc) told (.slice ra rk rc) rest w5:=HKB.out _ _ hS hb5;clear hS;obtain ⟨cs5,hz5,hn5⟩:=hT5.b1;obtain ⟨d0,d1,d2,d3,d4,d5,d6,d7,d8,d9,d10,d11,rfl⟩:=arr12 hn5;obtain ⟨es5,hy5,hm5⟩:=hT5.b2;obtain ⟨e0,e1,e2,e3,e4,e5,rfl⟩:=arr6 hm5;have q50:w5.cell? ⟨w.heap.size+1,0,none⟩=some d0:=cellsAt hz5 0;have q5z0:w5.frozen? ⟨w.heap.size+1,0,none⟩=false:=frozen_of hz5 0;have q51:w5.cell? ⟨w.heap.size+1,1,none⟩=some d1:=cellsAt hz5 1;have q5z1:w5.frozen? ⟨w.heap.size+1,1,none⟩=false:=frozen_of hz5 1;have q52:w5.cell? ⟨w.heap.size+1,2,none⟩=some d2:=cellsAt hz5 2;have q5z2:w5.frozen? ⟨w.heap.size+1,2,none⟩=false:=frozen_of hz5 2;have q53:w5.cell? ⟨w.heap.size+1,3,none⟩=some d3:=cellsAt hz5 3;have q5z3:w5.frozen? ⟨w.heap.size+1,3,none⟩=false:=frozen_of hz5 3;have q54:w5.cell? ⟨w.heap.size+1,4,none⟩=some d4:=cellsAt hz5 4;have q5z4:w5.frozen? ⟨w.heap.size+1,4,none⟩=false:=frozen_of hz5 4;have q55:w5.cell? ⟨w.heap.size+1,5,none⟩=some d5:=cellsAt hz5 5;have q5z5:w5.frozen? ⟨w.heap.size+1,5,none⟩=false:=frozen_of hz5 5;have q56:w5.cell? ⟨w.heap.size+1,6,none⟩=some d6:=cellsAt hz5 6;have q5z6:w5.frozen? ⟨w.heap.size+1,6,none⟩=false:=frozen_of hz5 6;have q57:w5.cell? ⟨w.heap.size+1,7,none⟩=some d7:=cellsAt hz5 7;have q5z7:w5.frozen? ⟨w.heap.size+1,7,none⟩=false:=frozen_of hz5 7;have q58:w5.cell? ⟨w.heap.size+1,8,none⟩=some d8:=cellsAt hz5 8;have q5z8:w5.frozen? ⟨w.heap.size+1,8,none⟩=false:=frozen_of hz5 8;have q59:w5.cell? ⟨w.heap.size+1,9,none⟩=some d9:=cellsAt hz5 9;have q5z9:w5.frozen? ⟨w.heap.size+1,9,none⟩=false:=frozen_of hz5 9;have q510:w5.cell? ⟨w.heap.size+1,10,none⟩=some d10:=cellsAt hz5 10;have q5z10:w5.frozen? ⟨w.heap.size+1,10,none⟩=false:=frozen_of hz5 10;have q511:w5.cell? ⟨w.heap.size+1,11,none⟩=some d11:=cellsAt hz5 11;have q5z11:w5.frozen? ⟨w.heap.size+1,11,none⟩=false:=frozen_of hz5 11;have r50:w5.cell? ⟨w.heap.size+1+1,0,none⟩=some e0:=cellsAt hy5 0;have r5z0:w5.frozen? ⟨w.heap.size+1+1,0,none⟩=false:=frozen_of hy5 0;have r51:w5.cell? ⟨w.heap.size+1+1,1,none⟩=some e1:=cellsAt hy5 1;have r5z1:w5.frozen? ⟨w.heap.size+1+1,1,none⟩=false:=frozen_of hy5 1;have r52:w5.cell? ⟨w.heap.size+1+1,2,none⟩=some e2:=cellsAt hy5 2;have r5z2:w5.frozen? ⟨w.heap.size+1+1,2,none⟩=false:=frozen_of hy5 2;have r53:w5.cell? ⟨w.heap.size+1+1,3,none⟩=some e3:=cellsAt hy5 3;have r5z3:w5.frozen? ⟨w.heap.size+1+1,3,none⟩=false:=frozen_of hy5 3;have r54:w5.cell? ⟨w.heap.size+1+1,4,none⟩=some e4:=cellsAt hy5 4;have r5z4:w5.frozen? ⟨w.heap.size+1+1,4,none⟩=false:=frozen_of hy5 4;have r55:w5.cell? ⟨w.heap.size+1+1,5,none⟩=some e5:=cellsAt hy5 5;have r5z5:w5.frozen? ⟨w.heap.size+1+1,5,none⟩=false:=frozen_of hy5 5) | fail)
  all_goals go_wp2_with fail
  all_goals
   clear p0 p1 p2 p3 p4 p5 p6 p7 p8 p9 p10 p11 q0 qz0 q1 qz1 q2 qz2 q3 qz3 q4 qz4 q5 qz5 q6 qz6 q7 qz7 q8 qz8 q9 qz9 q10 qz10 q11 qz11 r0 rz0 r1 rz1 r2 rz2 r3 rz3 r4 rz4 r5 rz5 q50 q5z0 q51 q5z1 q52 q5z2 q53 q5z3 q54 q5z4 q55 q5z5 q56 q5z6 q57 q5z7 q58 q5z8 q59 q5z9 q510 q5z10 q511 q5z11 r50 r5z0 r51 r5z1 r52 r5z2 r53 r5z3 r54 r5z4 r55 r5z5 hC5
   first
   | (obtain ⟨WF,hWG⟩:∃ WF,WF=((((((((((((((((((w5.setCell ⟨w.heap.size+1,0,none⟩ (.string nm)).setCell ⟨w.heap.size+1,1,none⟩ (.string ct)).setCell ⟨w.heap.size+1,2,none⟩ (.slice em km cm)).setCell ⟨w.heap.size+1,3,none⟩ (.slice ra rk rc)).setCell ⟨w.heap.size+1,4,none⟩ (.slice es ks cs_)).setCell ⟨w.heap.size+1,5,none⟩ (.slice eg_ kg cg)).setCell ⟨w.heap.size+1,6,none⟩ (.int .i64 px)).setCell ⟨w.heap.size+1,7,none⟩ (.int .i64 py)).setCell ⟨w.heap.size+1,8,none⟩ (.int .i64 pz)).setCell ⟨w.heap.size+1,9,none⟩ (.int .i64 ph)).setCell ⟨w.heap.size+1,10,none⟩ (.int .i64 pq)).setCell ⟨w.heap.size+1,11,none⟩ (.slice eh kh ch)).setCell ⟨w.heap.size+1+1,0,none⟩ (.string nm)).setCell ⟨w.heap.size+1+1,1,none⟩ (.bool false)).setCell ⟨w.heap.size+1+1,2,none⟩ (.slice ja jk jc)).setCell ⟨w.heap.size+1+1,3,none⟩ (.slice none 0 0)).setCell ⟨w.heap.size+1+1,4,none⟩ (.slice none 0 0)).setCell ⟨w.heap.size+1+1,5,none⟩ (.slice none 0 0)):=⟨_,rfl⟩
      rw [← hWG]
      have hWF:WF=setAll (w.heap.size+1+1) [.string nm,.bool false,.slice ja jk jc,.slice none 0 0,.slice none 0 0,.slice none 0 0] 0 (setAll (w.heap.size+1) [.string nm,.string ct,.slice em km cm,.slice ra rk rc,.slice es ks cs_,.slice eg_ kg cg,.int .i64 px,.int .i64 py,.int .i64 pz,.int .i64 ph,.int .i64 pq,.slice eh kh ch] 0 w5):=by rw [hWG];simp only [setAll,Nat.zero_add,Nat.reduceAdd]
      clear hWG
      have hz:WF.heap[w.heap.size+1]?=some (.cells #[.string nm,.string ct,.slice em km cm,.slice ra rk rc,.slice es ks cs_,.slice eg_ kg cg,.int .i64 px,.int .i64 py,.int .i64 pz,.int .i64 ph,.int .i64 pq,.slice eh kh ch] 30 (0,0)):=by rw [hWF];rw [setAll_other (by omega)];exact setAll12 hz5 _ _ _ _ _ _ _ _ _ _ _ _
      have hy:WF.heap[w.heap.size+1+1]?=some (.cells #[.string nm,.bool false,.slice ja jk jc,.slice none 0 0,.slice none 0 0,.slice none 0 0] 44 (0,0)):=by rw [hWF];exact setAll6 ((setAll_other (by omega) _ _ _).trans hy5) _ _ _ _ _ _
      have HOJ:Hid (Own (w.heap.size+3) WF (.slice ja jk jc) l):=by rw [hWF];exact setAll_owns (by omega) _ _ (setAll_owns (by omega) _ _ HOJ5.out)
      have HOR:Hid (ROwn (w.heap.size+3) WF (.slice ra rk rc) rest):=by rw [hWF];exact setAll_owns (by omega) _ _ (setAll_owns (by omega) _ _ hT5.o2)
      have HBF:Hid (Below w.heap.size w WF):=by rw [hWF];exact setAll_below (by omega) _ _ (setAll_below (by omega) _ _ hT5.bel)
      clear hWF)
   | (obtain ⟨WF,hWG⟩:∃ WF,WF=((((((w5.setCell ⟨w.heap.size+1+1,0,none⟩ (.string nm)).setCell ⟨w.heap.size+1+1,1,none⟩ (.bool false)).setCell ⟨w.heap.size+1+1,2,none⟩ (.slice ja jk jc)).setCell ⟨w.heap.size+1+1,3,none⟩ (.slice none 0 0)).setCell ⟨w.heap.size+1+1,4,none⟩ (.slice none 0 0)).setCell ⟨w.heap.size+1+1,5,none⟩ (.slice none 0 0)):=⟨_,rfl⟩
      rw [← hWG]
      have hWF:WF=setAll (w.heap.size+1+1) [.string nm,.bool false,.slice ja jk jc,.slice none 0 0,.slice none 0 0,.slice none 0 0] 0 w5:=by rw [hWG];simp only [setAll,Nat.zero_add,Nat.reduceAdd]
      clear hWG
      have hz:WF.heap[w.heap.size+1]?=some (.cells #[.string nm,.string ct,.slice em km cm,.slice ra rk rc,.slice es ks cs_,.slice eg_ kg cg,.int .i64 px,.int .i64 py,.int .i64 pz,.int .i64 ph,.int .i64 pq,.slice eh kh ch] 30 (0,0)):=by rw [hWF];rw [setAll_other (by omega)];exact HZB.out _ hb5
      have hy:WF.heap[w.heap.size+1+1]?=some (.cells #[.string nm,.bool false,.slice ja jk jc,.slice none 0 0,.slice none 0 0,.slice none 0 0] 44 (0,0)):=by rw [hWF];exact setAll6 hy5 _ _ _ _ _ _
      have HOJ:Hid (Own (w.heap.size+3) WF (.slice ja jk jc) l):=by rw [hWF];exact setAll_owns (by omega) _ _ HOJ5.out
      have HOR:Hid (ROwn (w.heap.size+3) WF (.slice ra rk rc) rest):=by rw [hWF];exact setAll_owns (by omega) _ _ hT5.o2
      have HBF:Hid (Below w.heap.size w WF):=by rw [hWF];exact setAll_below (by omega) _ _ hT5.bel
      clear hWF)
   have q0:WF.cell? ⟨w.heap.size+1,0,none⟩=some (.string nm):=cellsAt hz 0
   have q1:WF.cell? ⟨w.heap.size+1,1,none⟩=some (.string ct):=cellsAt hz 1
   have q2:WF.cell? ⟨w.heap.size+1,2,none⟩=some (.slice em km cm):=cellsAt hz 2
   have q3:WF.cell? ⟨w.heap.size+1,3,none⟩=some (.slice ra rk rc):=cellsAt hz 3
   have q4:WF.cell? ⟨w.heap.size+1,4,none⟩=some (.slice es ks cs_):=cellsAt hz 4
   have q5:WF.cell? ⟨w.heap.size+1,5,none⟩=some (.slice eg_ kg cg):=cellsAt hz 5
   have q6:WF.cell? ⟨w.heap.size+1,6,none⟩=some (.int .i64 px):=cellsAt hz 6
   have q7:WF.cell? ⟨w.heap.size+1,7,none⟩=some (.int .i64 py):=cellsAt hz 7
   have q8:WF.cell? ⟨w.heap.size+1,8,none⟩=some (.int .i64 pz):=cellsAt hz 8
   have q9:WF.cell? ⟨w.heap.size+1,9,none⟩=some (.int .i64 ph):=cellsAt hz 9
   have q10:WF.cell? ⟨w.heap.size+1,10,none⟩=some (.int .i64 pq):=cellsAt hz 10
   have q11:WF.cell? ⟨w.heap.size+1,11,none⟩=some (.slice eh kh ch):=cellsAt hz 11
   have r0:WF.cell? ⟨w.heap.size+1+1,0,none⟩=some (.string nm):=cellsAt hy 0
   have r1:WF.cell? ⟨w.heap.size+1+1,1,none⟩=some (.bool false):=cellsAt hy 1
   have r2:WF.cell? ⟨w.heap.size+1+1,2,none⟩=some (.slice ja jk jc):=cellsAt hy 2
   have r3:WF.cell? ⟨w.heap.size+1+1,3,none⟩=some (.slice none 0 0):=cellsAt hy 3
   have r4:WF.cell? ⟨w.heap.size+1+1,4,none⟩=some (.slice none 0 0):=cellsAt hy 4
   have r5:WF.cell? ⟨w.heap.size+1+1,5,none⟩=some (.slice none 0 0):=cellsAt hy 5
   refine bodyPost_ret (v:=.tuple #[.agg #[.string nm,.string ct,.slice em km cm,.slice ra rk rc,.slice es ks cs_,.slice eg_ kg cg,.int .i64 px,.int .i64 py,.int .i64 pz,.int .i64 ph,.int .i64 pq,.slice eh kh ch],.agg #[.string nm,.bool false,.slice ja jk jc,.slice none 0 0,.slice none 0 0,.slice none 0 0]]) ?_ rfl ?_
   ·simp [results,Tryz.results21,go_sem,q0,q1,q2,q3,q4,q5,q6,q7,q8,q9,q10,q11,r0,r1,r2,r3,r4,r5]
   ·refine ⟨_,_,rfl,fun W hW=>?_,HBF.out⟩
    have hI:=HIN.out.below ((HBW.out.trans (HBF.out.mono HBW.out.size)).trans (hW.below (by have:=HBW.out.size;have:=HBF.out.size;omega) (fun k hk=>hk.1)))
    have hR:=ROwn.sl (owns_sh HOR.out hW (fun k hk=>by omega)) (rns_get HTN.out.2)
    have hJ:=Own.sl (owns_sh HOJ.out hW (fun k hk=>by omega)) (ns_get HLN.out)
    exact ⟨⟨_,_,_,_,_,(HAR.out _).1.symm,hI.ms,hR,hI.sv,hI.gw,hI.wh,hI.name,hI.centre⟩,⟨_,_,_,_,(by rw [(HAR.out (.slice none 0 0)).2];rfl),hJ,⟨none,0,rfl,Sv.ns_get (by simp),.inl rfl⟩,⟨none,0,rfl,Gw.ns_get (by simp),.inl rfl⟩,⟨none,0,rfl,Wh.ns_get (by simp),.inl rfl⟩⟩⟩
set_option maxHeartbeats 6400000 in
set_option maxRecDepth 100000 in
theorem wholeOf_is (n:Nd) (A:Array Value) (w0 w:World) (h:IsNd w0 n A) :
 Calls Tryz.prog 22 #[.agg A] w fun e w'=>∃ P,e=.returned (.agg P)∧IsPk w0 n.pk P∧Below w.heap.size w w':=by
 obtain ⟨vm,vr,vs,vg,vw,rfl,hi⟩:=h
 have HIP:Hid (IsPk w0 n.pk #[.string n.name,.bool true,vm,vs,vg,vw]):=⟨vm,vs,vg,vw,rfl,hi.ms,hi.sv,hi.gw,hi.wh⟩
 obtain ⟨nm,ct,ms,rs,sv,gw,⟨px,py,pz,ph,pq⟩,wh⟩:=n
 obtain ⟨⟨em,cm,rfl,_,_⟩,⟨er_,cr,rfl,_,_⟩,⟨es,cs_,rfl,_,_⟩,⟨eg_,cg,rfl,_,_⟩,⟨eh,ch,rfl,_,_⟩,_,_⟩:=hi
 simp only [ndA] at HIP ⊢
 generalize ms.length=km at *
 generalize rs.length=kr at *
 generalize sv.length=ks at *
 generalize gw.length=kg at *
 generalize wh.length=kh at *
 go_enter Tryz.func22,Tryz.ntmps22
 go_wp2_with fail
 refine bodyPost_ret (v:=.agg #[.string nm,.bool true,.slice em km cm,.slice es ks cs_,.slice eg_ kg cg,.slice eh kh ch]) ?_ rfl ?_
 ·simp [results,Tryz.results22,go_sem]
 ·refine ⟨_,rfl,HIP.out,?_⟩
  ·exact ((Below.refl w.heap.size w).alloc (Nat.le_refl _) _).alloc (by simp) _
end Go.Proofs.YtikgjgmgbfjcgaaGreat
