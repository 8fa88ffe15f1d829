import Derived.Test.YtignmeaeibaejaaGreatDoorV47
import Derived.Deep.RegionHeld3
import Derived.StillTactics
namespace Go.Proofs.YtignmeaeibaejaaGreatDoor
open Go.RowKit
theorem labs_lbs {s:ByteArray} (h:s.size≠0):labs s=lbs s:=if_neg h
theorem eB_max:(⟨#[]⟩:ByteArray).size≤maxLen:=by decide
theorem getD_get {L:List Qu} {j:Nat} (hj:j < L.length):L.getD j qE=L[j]:=by simp [List.getD,List.getElem?_eq_getElem hj]
theorem small_max {x:ByteArray} (h:x.size≤30):x.size≤maxLen:=by unfold maxLen;omega
theorem len_cases (L:List ByteArray):(∃ a b c,L=[a,b,c])∨(∃ a b c d,L=[a,b,c,d])∨(∃ a b c d e,L=[a,b,c,d,e])∨(L.length≠3∧L.length≠4∧L.length≠5∧mayQ L=[]):=by
 match L with
 | []=>exact .inr (.inr (.inr ⟨by simp,by simp,by simp,rfl⟩))
 | [_]=>exact .inr (.inr (.inr ⟨by simp,by simp,by simp,rfl⟩))
 | [_,_]=>exact .inr (.inr (.inr ⟨by simp,by simp,by simp,rfl⟩))
 | [a,b,c]=>exact .inl ⟨a,b,c,rfl⟩
 | [a,b,c,d]=>exact .inr (.inl ⟨a,b,c,d,rfl⟩)
 | [a,b,c,d,e]=>exact .inr (.inr (.inl ⟨a,b,c,d,e,rfl⟩))
 | _ :: _ :: _ :: _ :: _ :: _ :: _=>exact .inr (.inr (.inr ⟨by simp,by simp,by simp,rfl⟩))
set_option maxHeartbeats 6400000 in
set_option maxRecDepth 100000 in
theorem parseOf_any (s:ByteArray) (w:World) (hs:s.size≤2000000) :
 Calls Tryz.prog 16 #[.string s] w fun e w'=>e=.returned (.tuple #[.agg #[.string (prsQ s).service,.string (prsQ s).tag,.string (prsQ s).node,.string (prsQ s).centre],.int .i64 (prsE s)])∧Below w.heap.size w w':=by
 have HCN:Hid (∀ W,Calls Tryz.prog 39 #[.string s] W fun e w'=>e=.returned (.int .i64 (chkN s))∧Below W.heap.size W w'):=fun W=>rCheckName_any s W hs
 have HLO:Hid (∀ W,Calls Tryz.prog 40 #[.string s] W fun e w'=>∃ v,e=.returned v∧Hid (OwnS W.heap.size w' v (labs s))∧Below W.heap.size W w'):=fun W=>labelsOf_any s W hs
 have HA:Hid (chkN s≠0→prsE s=chkN s∧prsQ s=qE):=fun h0=>by
  have h1:prsE s=chkN s:=by unfold prsE;rw [if_neg h0]
  exact ⟨h1,by unfold prsQ;rw [if_neg (by rw [h1];exact h0)]⟩
 have HFA:Hid (chkN s=0→lst s≠bMesh→prsE s=8∧prsQ s=qE):=fun h0 h1=>by
  have h2:prsE s=8:=by unfold prsE;rw [if_pos h0,if_neg h1]
  exact ⟨h2,by unfold prsQ;rw [if_neg (by rw [h2];decide)]⟩
 have HHI:Hid (∀ q,prE q=0→prS q=s→prsE s=0∧prsQ s=q):=fun q h1 h2=>may_hit h1 h2
 have HNO:Hid (chkN s=0→lst s=bMesh→(∀ q∈mayQ (lbs s),¬ (prE q=0∧prS q=s))→prsE s=1∧prsQ s=qE):=fun h0 h1 h2=>may_none h0 h1 h2
 have HEM:Hid (s.size=0→lst s≠bMesh):=fun h=>by have:=isempty h;subst this;decide
 have HLL:Hid (s.size≠0→labs s=lbs s):=fun h=>labs_lbs h
 have HSM:Hid (chkN s=0→(lbs s).length≤8∧∀ x∈lbs s,x.size≤30):=fun h=>⟨by rw [lbs_len];exact (chkN_zero h).2.1,lbs_small h⟩
 have HL0:Hid (s.size=0→labs s=[]):=fun h=>if_pos h
 have HPO:Hid (∀ (q:Qu) W,q.ok→Calls Tryz.prog 41 #[.agg #[.string q.service,.string q.tag,.string q.node,.string q.centre]] W fun e w'=>e=.returned (.tuple #[.string (prS q),.int .i64 (prE q)])∧Below W.heap.size W w'):=fun q W h=>printOf_any q W h
 have HLS:Hid (lst s=(lbs s).getD ((lbs s).length - 1) ByteArray.empty):=rfl
 have hlp:=lbs_pos s
 generalize prsE s=E at *
 generalize prsQ s=Q at *
 generalize chkN s=C at *
 generalize lst s=la at *
 generalize labs s=LA at *
 generalize lbs s=L at *
 go_enter Tryz.func16,Tryz.ntmps16
 go_wp2_with fail
 refine (HCN.out _).mono ?_
 rintro e w1 ⟨rfl,hb1⟩
 obtain ⟨f0,f1,f2,f3,HB1,hl1⟩:=qbox hb1
 obtain ⟨_,hfz⟩:=qboxf hb1
 have z0:=hfz 0
 have z1:=hfz 1
 have z2:=hfz 2
 have z3:=hfz 3
 clear hb1 hfz
 by_cases h0:C=0
 ·subst h0
  have HFB:Hid (la≠bMesh→E=8∧Q=qE):=HFA.out rfl
  have HNB:Hid (la=bMesh→(∀ q∈mayQ L,¬ (prE q=0∧prS q=s))→E=1∧Q=qE):=HNO.out rfl
  have HSB:Hid (L.length≤8∧∀ x∈L,x.size≤30):=HSM.out rfl
  clear HFA HNO HSM
  go_wp2_with fail
  refine (HLO.out _).mono ?_
  rintro e w2 ⟨v,rfl,HO,hb2⟩
  have HB12:Hid (Below w1.heap.size w1 w2):=hb2
  have hl2:w.heap.size < w2.heap.size:=Nat.lt_of_lt_of_le hl1 HB12.out.size
  have HB2:Hid (Below w.heap.size w w2):=HB1.out.trans (HB12.out.mono (Nat.le_of_lt hl1))
  have g0:=(HB12.out.cell (p:=⟨w.heap.size,0,none⟩) hl1).trans f0
  have g1:=(HB12.out.cell (p:=⟨w.heap.size,1,none⟩) hl1).trans f1
  have g2:=(HB12.out.cell (p:=⟨w.heap.size,2,none⟩) hl1).trans f2
  have g3:=(HB12.out.cell (p:=⟨w.heap.size,3,none⟩) hl1).trans f3
  have y0:=(HB12.out.frozen (p:=⟨w.heap.size,0,none⟩) hl1).trans z0
  have y1:=(HB12.out.frozen (p:=⟨w.heap.size,1,none⟩) hl1).trans z1
  have y2:=(HB12.out.frozen (p:=⟨w.heap.size,2,none⟩) hl1).trans z2
  have y3:=(HB12.out.frozen (p:=⟨w.heap.size,3,none⟩) hl1).trans z3
  clear f0 f1 f2 f3 z0 z1 z2 z3 hb2 HLO HCN HA
  by_cases hs0:s.size=0
  ·obtain ⟨r1,r2⟩:=HFB.out (HEM.out hs0)
   have HR1:Hid (E=8):=r1
   have HR2:Hid (Q=qE):=r2
   have hLA:=HL0.out hs0
   subst hLA
   obtain ⟨pv,pc,hv⟩:∃ p c,v=.slice p 0 c:=by
    rcases OwnS.form HO.out with ⟨h1,_⟩ | ⟨g,c,h1,_⟩
    ·exact ⟨none,0,h1⟩
    ·exact ⟨_,c,h1⟩
   subst hv
   clear r1 r2 HO
   go_wp2_with fail
   exact bodyPost_ret (v:=.tuple #[.agg #[.string ⟨#[]⟩,.string ⟨#[]⟩,.string ⟨#[]⟩,.string ⟨#[]⟩],.int .i64 8]) (by simp [results,Tryz.results16,go_sem,g0,g1,g2,g3]) rfl ⟨by rw [HR1.out,HR2.out];try rfl,(((HB2.out.setCell (p:=⟨w.heap.size,0,none⟩) (Nat.le_refl _) _).setCell (p:=⟨w.heap.size,1,none⟩) (Nat.le_refl _) _).setCell (p:=⟨w.heap.size,2,none⟩) (Nat.le_refl _) _).setCell (p:=⟨w.heap.size,3,none⟩) (Nat.le_refl _) _⟩
  ·have hLA:=HLL.out hs0
   subst hLA
   obtain ⟨hL8,hL30⟩:=HSB.out
   obtain ⟨g,c,hv,_,_,hgl,hcl⟩:∃ g c,v=.slice (some ⟨g,0,none⟩) LA.length c∧LA.length≤c∧w1.heap.size≤g∧g < w2.heap.size∧∀ j,j < LA.length→w2.cell? ⟨g,j,none⟩=some (.string (LA.getD j ByteArray.empty)):=by
    rcases OwnS.form HO.out with ⟨_,h2⟩ | h
    ·rw [h2] at hlp;simp at hlp
    ·exact h
   subst hv
   have cl:=hcl (LA.length - 1) (by omega)
   rw [← HLS.out] at cl
   have hwm:IntKind.i64.wrap ((LA.length:Int) - 1)=((LA.length - 1:Nat):Int):=by rw [IntKind.wrap_i64];omega
   have him:((LA.length - 1:Nat):Int) < (LA.length:Int):=by omega
   have him0:(0:Int)≤((LA.length - 1:Nat):Int):=by omega
   have hn0:¬ (LA.length:Int)=0:=by omega
   have hn1:((LA.length:Int) == 0)=false:=by rw [beq_eq_false_iff_ne];omega
   clear HO HLL HL0 HEM HSB
   by_cases hla:la=bMesh
   ·subst hla
    have HNN:Hid ((∀ q∈mayQ LA,¬ (prE q=0∧prS q=s))→E=1∧Q=qE):=HNB.out rfl
    clear HFB HNB
    rcases len_cases LA with ⟨a,b,d,rfl⟩ | ⟨a,b,d,e,rfl⟩ | ⟨a,b,d,e,f,rfl⟩ | ⟨hx3,hx4,hx5,hxe⟩
    ·have k0:w2.cell? ⟨g,0,none⟩=some (.string a):=hcl 0 (by simp)
     have k1:w2.cell? ⟨g,1,none⟩=some (.string b):=hcl 1 (by simp)
     have kl:w2.cell? ⟨g,2,none⟩=some (.string bMesh):=cl
     have hsmall:∀ x∈[a,b,d],x.size≤30:=hL30
     clear hcl cl
     go_wp2_with fail
     go_region_held3 (fun w'=>w'.cell? ⟨g,0,none⟩=some (.string a)) (go_keep) (fail)
     obtain ⟨W3,hW3⟩:∃ W3,W3=(w2.alloc (.cells #[.string a,.string ⟨#[]⟩,.string ⟨#[]⟩,.string ⟨#[]⟩,.string ⟨#[]⟩,.string ⟨#[]⟩,.string a,.string ⟨#[]⟩] 50)).drew:=⟨_,rfl⟩
     rw [← hW3]
     have hgM:W3.heap[w2.heap.size]?=some (.cells #[.string a,.string ⟨#[]⟩,.string ⟨#[]⟩,.string ⟨#[]⟩,.string ⟨#[]⟩,.string ⟨#[]⟩,.string a,.string ⟨#[]⟩] 50 (0,0)):=by rw [hW3];exact heap_alloc_new w2 _
     have HB23:Hid (Below w2.heap.size w2 W3):=(show Below _ _ _ by rw [hW3];exact ((Below.refl _ _).alloc (Nat.le_refl _) _).drew)
     have hl3:w.heap.size < W3.heap.size:=Nat.lt_of_lt_of_le hl2 HB23.out.size
     have HB3:Hid (Below w.heap.size w W3):=HB2.out.trans (HB23.out.mono (Nat.le_of_lt hl2))
     have G0:=(HB23.out.cell (p:=⟨w.heap.size,0,none⟩) hl2).trans g0
     have G1:=(HB23.out.cell (p:=⟨w.heap.size,1,none⟩) hl2).trans g1
     have G2:=(HB23.out.cell (p:=⟨w.heap.size,2,none⟩) hl2).trans g2
     have G3:=(HB23.out.cell (p:=⟨w.heap.size,3,none⟩) hl2).trans g3
     have Y0:=(HB23.out.frozen (p:=⟨w.heap.size,0,none⟩) hl2).trans y0
     have Y1:=(HB23.out.frozen (p:=⟨w.heap.size,1,none⟩) hl2).trans y1
     have Y2:=(HB23.out.frozen (p:=⟨w.heap.size,2,none⟩) hl2).trans y2
     have Y3:=(HB23.out.frozen (p:=⟨w.heap.size,3,none⟩) hl2).trans y3
     have hltM:w2.heap.size < W3.heap.size:=(Array.getElem?_eq_some_iff.1 hgM).1
     have HM:Hid (∀ k,k < 2→∀ W,Below W3.heap.size W3 W→W.cell? ⟨w2.heap.size,k * 4,none⟩=some (.string ((mayQ [a,b,d]).getD k qE).service)∧W.cell? ⟨w2.heap.size,k * 4+1,none⟩=some (.string ((mayQ [a,b,d]).getD k qE).tag)∧W.cell? ⟨w2.heap.size,k * 4+2,none⟩=some (.string ((mayQ [a,b,d]).getD k qE).node)∧W.cell? ⟨w2.heap.size,k * 4+3,none⟩=some (.string ((mayQ [a,b,d]).getD k qE).centre)):=fun k hk W hW=>by
      have hb:=hW.cell (p:=⟨w2.heap.size,k * 4,none⟩) hltM
      have hb1:=hW.cell (p:=⟨w2.heap.size,k * 4+1,none⟩) hltM
      have hb2:=hW.cell (p:=⟨w2.heap.size,k * 4+2,none⟩) hltM
      have hb3:=hW.cell (p:=⟨w2.heap.size,k * 4+3,none⟩) hltM
      match k,hk with
      | 0,_=>exact ⟨(hb.trans (cellsAt hgM 0)),(hb1.trans (cellsAt hgM 1)),(hb2.trans (cellsAt hgM 2)),(hb3.trans (cellsAt hgM 3))⟩
      | 1,_=>exact ⟨(hb.trans (cellsAt hgM 4)),(hb1.trans (cellsAt hgM 5)),(hb2.trans (cellsAt hgM 6)),(hb3.trans (cellsAt hgM 7))⟩
     have HOK:Hid (∀ k,k < 2→((mayQ [a,b,d]).getD k qE).ok):=fun k hk=>by
      match k,hk with
      | 0,_=>exact ⟨small_max (hsmall a (by simp)),eB_max,eB_max,eB_max⟩
      | 1,_=>exact ⟨eB_max,eB_max,small_max (hsmall a (by simp)),eB_max⟩
     have HNN2:Hid ((∀ j,j < 2→¬ (prE ((mayQ [a,b,d]).getD j qE)=0∧prS ((mayQ [a,b,d]).getD j qE)=s))→E=1∧Q=qE):=fun h=>HNN.out (fun q hq=>by
      obtain ⟨j,hj,rfl⟩:=List.getElem_of_mem hq
      have hj2:j < 2:=hj
      have:=h j hj2
      rwa [getD_get hj] at this)
     generalize hcs:(fun j=>(mayQ [a,b,d]).getD j qE)=csF at *
     have hcs2:∀ j,(mayQ [a,b,d]).getD j qE=csF j:=fun j=>by rw [← hcs]
     simp only [hcs2] at HM HOK HNN2
     clear hcs hcs2 HNN hgM hW3 hsmall g0 y0 g1 y1 g2 y2 g3 y3
     go_wp2_with fail
     go_loopw [7] (fun i wr=>∃ k:Nat,k≤2∧i=.int .i64 k∧Hid (Below W3.heap.size W3 wr)∧Hid (∀ j,j < k→¬ (prE (csF j)=0∧prS (csF j)=s))) (fun i _=>2 - (intOf i).toNat)
     case atStart=>exact ⟨0,Nat.zero_le _,rfl,Below.refl _ _,fun j h=>absurd h (Nat.not_lt_zero _)⟩
     case round=>
      obtain ⟨k,hk,rfl,HBR,hz⟩:=hrel
      have r0:=(HBR.out.cell (p:=⟨w.heap.size,0,none⟩) hl3).trans G0
      have r1:=(HBR.out.cell (p:=⟨w.heap.size,1,none⟩) hl3).trans G1
      have r2:=(HBR.out.cell (p:=⟨w.heap.size,2,none⟩) hl3).trans G2
      have r3:=(HBR.out.cell (p:=⟨w.heap.size,3,none⟩) hl3).trans G3
      have x0:=(HBR.out.frozen (p:=⟨w.heap.size,0,none⟩) hl3).trans Y0
      have x1:=(HBR.out.frozen (p:=⟨w.heap.size,1,none⟩) hl3).trans Y1
      have x2:=(HBR.out.frozen (p:=⟨w.heap.size,2,none⟩) hl3).trans Y2
      have x3:=(HBR.out.frozen (p:=⟨w.heap.size,3,none⟩) hl3).trans Y3
      by_cases hlt:k < 2
      ·obtain ⟨c0,c1,c2,c3⟩:=HM.out k hlt wr HBR.out
       have hok:=HOK.out k hlt
       have HMK:Hid (∀ W,Below W3.heap.size W3 W→W.cell? ⟨w2.heap.size,k * 4,none⟩=some (.string (csF k).service)∧W.cell? ⟨w2.heap.size,k * 4+1,none⟩=some (.string (csF k).tag)∧W.cell? ⟨w2.heap.size,k * 4+2,none⟩=some (.string (csF k).node)∧W.cell? ⟨w2.heap.size,k * 4+3,none⟩=some (.string (csF k).centre)):=fun W hW=>HM.out k hlt W hW
       have HZ2:Hid (¬ (prE (csF k)=0∧prS (csF k)=s)→∀ j,j < k+1→¬ (prE (csF j)=0∧prS (csF j)=s)):=fun h j hj=>by
        rcases Nat.lt_succ_iff_lt_or_eq.1 hj with h2 | rfl
        ·exact hz.out j h2
        ·exact h
       have HPK:Hid (Calls Tryz.prog 41 #[.agg #[.string (csF k).service,.string (csF k).tag,.string (csF k).node,.string (csF k).centre]] wr fun e w'=>e=.returned (.tuple #[.string (prS (csF k)),.int .i64 (prE (csF k))])∧Below wr.heap.size wr w'):=HPO.out (csF k) wr hok
       have HHK:=HHI.out (csF k)
       have HHJ:Hid (prE (csF k)=0→prS (csF k)=s→E=0∧Q=csF k):=HHK
       clear HHK hok
       generalize prE (csF k)=pe at *
       generalize prS (csF k)=ps at *
       generalize csF k=qk at *
       obtain ⟨qs,qt,qn,qc⟩:=qk
       simp only at c0 c1 c2 c3 HMK HPK HHJ
       go_wp2_with fail
       refine HPK.out.mono ?_
       rintro e w5 ⟨rfl,hb5⟩
       have HB5:Hid (Below W3.heap.size W3 w5):=HBR.out.trans (hb5.mono HBR.out.size)
       have HBT:Hid (Below w.heap.size w w5):=HB3.out.trans (HB5.out.mono (Nat.le_of_lt hl3))
       obtain ⟨d0,d1,d2,d3⟩:=HMK.out w5 HB5.out
       have s0:=(HB5.out.cell (p:=⟨w.heap.size,0,none⟩) hl3).trans G0
       have s1:=(HB5.out.cell (p:=⟨w.heap.size,1,none⟩) hl3).trans G1
       have s2:=(HB5.out.cell (p:=⟨w.heap.size,2,none⟩) hl3).trans G2
       have s3:=(HB5.out.cell (p:=⟨w.heap.size,3,none⟩) hl3).trans G3
       have t0:=(HB5.out.frozen (p:=⟨w.heap.size,0,none⟩) hl3).trans Y0
       have t1:=(HB5.out.frozen (p:=⟨w.heap.size,1,none⟩) hl3).trans Y1
       have t2:=(HB5.out.frozen (p:=⟨w.heap.size,2,none⟩) hl3).trans Y2
       have t3:=(HB5.out.frozen (p:=⟨w.heap.size,3,none⟩) hl3).trans Y3
       clear c0 c1 c2 c3 hb5 HMK HPK r0 r1 r2 r3 x0 x1 x2 x3
       by_cases hpe:pe=0
       ·subst hpe
        by_cases hps:ps=s
        ·subst hps
         obtain ⟨u1,u2⟩:=HHJ.out rfl rfl
         have HR1:Hid (E=0):=u1
         have HR2:Hid (Q=⟨qs,qt,qn,qc⟩):=u2
         clear u1 u2 HHJ HZ2
         go_wp2_with fail
         exact bodyPost_ret (v:=.tuple #[.agg #[.string qs,.string qt,.string qn,.string qc],.int .i64 0]) (by simp [results,Tryz.results16,go_sem,s0,s1,s2,s3]) rfl ⟨by rw [HR1.out,HR2.out];try rfl,(((HBT.out.setCell (p:=⟨w.heap.size,0,none⟩) (Nat.le_refl _) _).setCell (p:=⟨w.heap.size,1,none⟩) (Nat.le_refl _) _).setCell (p:=⟨w.heap.size,2,none⟩) (Nat.le_refl _) _).setCell (p:=⟨w.heap.size,3,none⟩) (Nat.le_refl _) _⟩
        ·obtain ⟨k1',k2'⟩:=beq_name hps
         have HZ3:Hid (∀ j,j < k+1→¬ (prE (csF j)=0∧prS (csF j)=s)):=HZ2.out (fun h=>hps h.2)
         clear HZ2 HHJ hps
         go_wp2_with fail
         exact ⟨⟨k+1,by omega,by go_num,HB5,HZ3⟩,by simp [intOf];omega⟩
       ·have k1':(pe == 0)=false:=by simpa using hpe
        have HZ3:Hid (∀ j,j < k+1→¬ (prE (csF j)=0∧prS (csF j)=s)):=HZ2.out (fun h=>hpe h.1)
        clear HZ2 HHJ
        go_wp2_with fail
        exact ⟨⟨k+1,by omega,by go_num,HB5,HZ3⟩,by simp [intOf];omega⟩
      ·obtain ⟨u1,u2⟩:=HNN2.out (fun j hj=>hz.out j (by omega))
       have HR1:Hid (E=1):=u1
       have HR2:Hid (Q=qE):=u2
       have HBT:Hid (Below w.heap.size w wr):=HB3.out.trans (HBR.out.mono (Nat.le_of_lt hl3))
       clear u1 u2
       go_wp2_with fail
       exact bodyPost_ret (v:=.tuple #[.agg #[.string ⟨#[]⟩,.string ⟨#[]⟩,.string ⟨#[]⟩,.string ⟨#[]⟩],.int .i64 1]) (by simp [results,Tryz.results16,go_sem,r0,r1,r2,r3]) rfl ⟨by rw [HR1.out,HR2.out];try rfl,(((HBT.out.setCell (p:=⟨w.heap.size,0,none⟩) (Nat.le_refl _) _).setCell (p:=⟨w.heap.size,1,none⟩) (Nat.le_refl _) _).setCell (p:=⟨w.heap.size,2,none⟩) (Nat.le_refl _) _).setCell (p:=⟨w.heap.size,3,none⟩) (Nat.le_refl _) _⟩
    ·have k0:w2.cell? ⟨g,0,none⟩=some (.string a):=hcl 0 (by simp)
     have k1:w2.cell? ⟨g,1,none⟩=some (.string b):=hcl 1 (by simp)
     have k2:w2.cell? ⟨g,2,none⟩=some (.string d):=hcl 2 (by simp)
     have kl:w2.cell? ⟨g,3,none⟩=some (.string bMesh):=cl
     have hsmall:∀ x∈[a,b,d,e],x.size≤30:=hL30
     clear hcl cl
     go_wp2_with fail
     go_region_held3 (fun w'=>w'.cell? ⟨g,0,none⟩=some (.string a)∧w'.cell? ⟨g,1,none⟩=some (.string b)∧w'.cell? ⟨g,2,none⟩=some (.string d)) (go_keep) (fail)
     obtain ⟨W3,hW3⟩:∃ W3,W3=(w2.alloc (.cells #[.string a,.string ⟨#[]⟩,.string ⟨#[]⟩,.string d,.string ⟨#[]⟩,.string ⟨#[]⟩,.string a,.string d,.string b,.string a,.string ⟨#[]⟩,.string ⟨#[]⟩] 50)).drew:=⟨_,rfl⟩
     rw [← hW3]
     have hgM:W3.heap[w2.heap.size]?=some (.cells #[.string a,.string ⟨#[]⟩,.string ⟨#[]⟩,.string d,.string ⟨#[]⟩,.string ⟨#[]⟩,.string a,.string d,.string b,.string a,.string ⟨#[]⟩,.string ⟨#[]⟩] 50 (0,0)):=by rw [hW3];exact heap_alloc_new w2 _
     have HB23:Hid (Below w2.heap.size w2 W3):=(show Below _ _ _ by rw [hW3];exact ((Below.refl _ _).alloc (Nat.le_refl _) _).drew)
     have hl3:w.heap.size < W3.heap.size:=Nat.lt_of_lt_of_le hl2 HB23.out.size
     have HB3:Hid (Below w.heap.size w W3):=HB2.out.trans (HB23.out.mono (Nat.le_of_lt hl2))
     have G0:=(HB23.out.cell (p:=⟨w.heap.size,0,none⟩) hl2).trans g0
     have G1:=(HB23.out.cell (p:=⟨w.heap.size,1,none⟩) hl2).trans g1
     have G2:=(HB23.out.cell (p:=⟨w.heap.size,2,none⟩) hl2).trans g2
     have G3:=(HB23.out.cell (p:=⟨w.heap.size,3,none⟩) hl2).trans g3
     have Y0:=(HB23.out.frozen (p:=⟨w.heap.size,0,none⟩) hl2).trans y0
     have Y1:=(HB23.out.frozen (p:=⟨w.heap.size,1,none⟩) hl2).trans y1
     have Y2:=(HB23.out.frozen (p:=⟨w.heap.size,2,none⟩) hl2).trans y2
     have Y3:=(HB23.out.frozen (p:=⟨w.heap.size,3,none⟩) hl2).trans y3
     have hltM:w2.heap.size < W3.heap.size:=(Array.getElem?_eq_some_iff.1 hgM).1
     have HM:Hid (∀ k,k < 3→∀ W,Below W3.heap.size W3 W→W.cell? ⟨w2.heap.size,k * 4,none⟩=some (.string ((mayQ [a,b,d,e]).getD k qE).service)∧W.cell? ⟨w2.heap.size,k * 4+1,none⟩=some (.string ((mayQ [a,b,d,e]).getD k qE).tag)∧W.cell? ⟨w2.heap.size,k * 4+2,none⟩=some (.string ((mayQ [a,b,d,e]).getD k qE).node)∧W.cell? ⟨w2.heap.size,k * 4+3,none⟩=some (.string ((mayQ [a,b,d,e]).getD k qE).centre)):=fun k hk W hW=>by
      have hb:=hW.cell (p:=⟨w2.heap.size,k * 4,none⟩) hltM
      have hb1:=hW.cell (p:=⟨w2.heap.size,k * 4+1,none⟩) hltM
      have hb2:=hW.cell (p:=⟨w2.heap.size,k * 4+2,none⟩) hltM
      have hb3:=hW.cell (p:=⟨w2.heap.size,k * 4+3,none⟩) hltM
      match k,hk with
      | 0,_=>exact ⟨(hb.trans (cellsAt hgM 0)),(hb1.trans (cellsAt hgM 1)),(hb2.trans (cellsAt hgM 2)),(hb3.trans (cellsAt hgM 3))⟩
      | 1,_=>exact ⟨(hb.trans (cellsAt hgM 4)),(hb1.trans (cellsAt hgM 5)),(hb2.trans (cellsAt hgM 6)),(hb3.trans (cellsAt hgM 7))⟩
      | 2,_=>exact ⟨(hb.trans (cellsAt hgM 8)),(hb1.trans (cellsAt hgM 9)),(hb2.trans (cellsAt hgM 10)),(hb3.trans (cellsAt hgM 11))⟩
     have HOK:Hid (∀ k,k < 3→((mayQ [a,b,d,e]).getD k qE).ok):=fun k hk=>by
      match k,hk with
      | 0,_=>exact ⟨small_max (hsmall a (by simp)),eB_max,eB_max,small_max (hsmall d (by simp))⟩
      | 1,_=>exact ⟨eB_max,eB_max,small_max (hsmall a (by simp)),small_max (hsmall d (by simp))⟩
      | 2,_=>exact ⟨small_max (hsmall b (by simp)),small_max (hsmall a (by simp)),eB_max,eB_max⟩
     have HNN2:Hid ((∀ j,j < 3→¬ (prE ((mayQ [a,b,d,e]).getD j qE)=0∧prS ((mayQ [a,b,d,e]).getD j qE)=s))→E=1∧Q=qE):=fun h=>HNN.out (fun q hq=>by
      obtain ⟨j,hj,rfl⟩:=List.getElem_of_mem hq
      have hj2:j < 3:=hj
      have:=h j hj2
      rwa [getD_get hj] at this)
     generalize hcs:(fun j=>(mayQ [a,b,d,e]).getD j qE)=csF at *
     have hcs2:∀ j,(mayQ [a,b,d,e]).getD j qE=csF j:=fun j=>by rw [← hcs]
     simp only [hcs2] at HM HOK HNN2
     clear hcs hcs2 HNN hgM hW3 hsmall g0 y0 g1 y1 g2 y2 g3 y3
     go_wp2_with fail
     go_loopw [7] (fun i wr=>∃ k:Nat,k≤3∧i=.int .i64 k∧Hid (Below W3.heap.size W3 wr)∧Hid (∀ j,j < k→¬ (prE (csF j)=0∧prS (csF j)=s))) (fun i _=>3 - (intOf i).toNat)
     case atStart=>exact ⟨0,Nat.zero_le _,rfl,Below.refl _ _,fun j h=>absurd h (Nat.not_lt_zero _)⟩
     case round=>
      obtain ⟨k,hk,rfl,HBR,hz⟩:=hrel
      have r0:=(HBR.out.cell (p:=⟨w.heap.size,0,none⟩) hl3).trans G0
      have r1:=(HBR.out.cell (p:=⟨w.heap.size,1,none⟩) hl3).trans G1
      have r2:=(HBR.out.cell (p:=⟨w.heap.size,2,none⟩) hl3).trans G2
      have r3:=(HBR.out.cell (p:=⟨w.heap.size,3,none⟩) hl3).trans G3
      have x0:=(HBR.out.frozen (p:=⟨w.heap.size,0,none⟩) hl3).trans Y0
      have x1:=(HBR.out.frozen (p:=⟨w.heap.size,1,none⟩) hl3).trans Y1
      have x2:=(HBR.out.frozen (p:=⟨w.heap.size,2,none⟩) hl3).trans Y2
      have x3:=(HBR.out.frozen (p:=⟨w.heap.size,3,none⟩) hl3).trans Y3
      by_cases hlt:k < 3
      ·obtain ⟨c0,c1,c2,c3⟩:=HM.out k hlt wr HBR.out
       have hok:=HOK.out k hlt
       have HMK:Hid (∀ W,Below W3.heap.size W3 W→W.cell? ⟨w2.heap.size,k * 4,none⟩=some (.string (csF k).service)∧W.cell? ⟨w2.heap.size,k * 4+1,none⟩=some (.string (csF k).tag)∧W.cell? ⟨w2.heap.size,k * 4+2,none⟩=some (.string (csF k).node)∧W.cell? ⟨w2.heap.size,k * 4+3,none⟩=some (.string (csF k).centre)):=fun W hW=>HM.out k hlt W hW
       have HZ2:Hid (¬ (prE (csF k)=0∧prS (csF k)=s)→∀ j,j < k+1→¬ (prE (csF j)=0∧prS (csF j)=s)):=fun h j hj=>by
        rcases Nat.lt_succ_iff_lt_or_eq.1 hj with h2 | rfl
        ·exact hz.out j h2
        ·exact h
       have HPK:Hid (Calls Tryz.prog 41 #[.agg #[.string (csF k).service,.string (csF k).tag,.string (csF k).node,.string (csF k).centre]] wr fun e w'=>e=.returned (.tuple #[.string (prS (csF k)),.int .i64 (prE (csF k))])∧Below wr.heap.size wr w'):=HPO.out (csF k) wr hok
       have HHK:=HHI.out (csF k)
       have HHJ:Hid (prE (csF k)=0→prS (csF k)=s→E=0∧Q=csF k):=HHK
       clear HHK hok
       generalize prE (csF k)=pe at *
       generalize prS (csF k)=ps at *
       generalize csF k=qk at *
       obtain ⟨qs,qt,qn,qc⟩:=qk
       simp only at c0 c1 c2 c3 HMK HPK HHJ
       go_wp2_with fail
       refine HPK.out.mono ?_
       rintro e w5 ⟨rfl,hb5⟩
       have HB5:Hid (Below W3.heap.size W3 w5):=HBR.out.trans (hb5.mono HBR.out.size)
       have HBT:Hid (Below w.heap.size w w5):=HB3.out.trans (HB5.out.mono (Nat.le_of_lt hl3))
       obtain ⟨d0,d1,d2,d3⟩:=HMK.out w5 HB5.out
       have s0:=(HB5.out.cell (p:=⟨w.heap.size,0,none⟩) hl3).trans G0
       have s1:=(HB5.out.cell (p:=⟨w.heap.size,1,none⟩) hl3).trans G1
       have s2:=(HB5.out.cell (p:=⟨w.heap.size,2,none⟩) hl3).trans G2
       have s3:=(HB5.out.cell (p:=⟨w.heap.size,3,none⟩) hl3).trans G3
       have t0:=(HB5.out.frozen (p:=⟨w.heap.size,0,none⟩) hl3).trans Y0
       have t1:=(HB5.out.frozen (p:=⟨w.heap.size,1,none⟩) hl3).trans Y1
       have t2:=(HB5.out.frozen (p:=⟨w.heap.size,2,none⟩) hl3).trans Y2
       have t3:=(HB5.out.frozen (p:=⟨w.heap.size,3,none⟩) hl3).trans Y3
       clear c0 c1 c2 c3 hb5 HMK HPK r0 r1 r2 r3 x0 x1 x2 x3
       by_cases hpe:pe=0
       ·subst hpe
        by_cases hps:ps=s
        ·subst hps
         obtain ⟨u1,u2⟩:=HHJ.out rfl rfl
         have HR1:Hid (E=0):=u1
         have HR2:Hid (Q=⟨qs,qt,qn,qc⟩):=u2
         clear u1 u2 HHJ HZ2
         go_wp2_with fail
         exact bodyPost_ret (v:=.tuple #[.agg #[.string qs,.string qt,.string qn,.string qc],.int .i64 0]) (by simp [results,Tryz.results16,go_sem,s0,s1,s2,s3]) rfl ⟨by rw [HR1.out,HR2.out];try rfl,(((HBT.out.setCell (p:=⟨w.heap.size,0,none⟩) (Nat.le_refl _) _).setCell (p:=⟨w.heap.size,1,none⟩) (Nat.le_refl _) _).setCell (p:=⟨w.heap.size,2,none⟩) (Nat.le_refl _) _).setCell (p:=⟨w.heap.size,3,none⟩) (Nat.le_refl _) _⟩
        ·obtain ⟨k1',k2'⟩:=beq_name hps
         have HZ3:Hid (∀ j,j < k+1→¬ (prE (csF j)=0∧prS (csF j)=s)):=HZ2.out (fun h=>hps h.2)
         clear HZ2 HHJ hps
         go_wp2_with fail
         exact ⟨⟨k+1,by omega,by go_num,HB5,HZ3⟩,by simp [intOf];omega⟩
       ·have k1':(pe == 0)=false:=by simpa using hpe
        have HZ3:Hid (∀ j,j < k+1→¬ (prE (csF j)=0∧prS (csF j)=s)):=HZ2.out (fun h=>hpe h.1)
        clear HZ2 HHJ
        go_wp2_with fail
        exact ⟨⟨k+1,by omega,by go_num,HB5,HZ3⟩,by simp [intOf];omega⟩
      ·obtain ⟨u1,u2⟩:=HNN2.out (fun j hj=>hz.out j (by omega))
       have HR1:Hid (E=1):=u1
       have HR2:Hid (Q=qE):=u2
       have HBT:Hid (Below w.heap.size w wr):=HB3.out.trans (HBR.out.mono (Nat.le_of_lt hl3))
       clear u1 u2
       go_wp2_with fail
       exact bodyPost_ret (v:=.tuple #[.agg #[.string ⟨#[]⟩,.string ⟨#[]⟩,.string ⟨#[]⟩,.string ⟨#[]⟩],.int .i64 1]) (by simp [results,Tryz.results16,go_sem,r0,r1,r2,r3]) rfl ⟨by rw [HR1.out,HR2.out];try rfl,(((HBT.out.setCell (p:=⟨w.heap.size,0,none⟩) (Nat.le_refl _) _).setCell (p:=⟨w.heap.size,1,none⟩) (Nat.le_refl _) _).setCell (p:=⟨w.heap.size,2,none⟩) (Nat.le_refl _) _).setCell (p:=⟨w.heap.size,3,none⟩) (Nat.le_refl _) _⟩
    ·have k0:w2.cell? ⟨g,0,none⟩=some (.string a):=hcl 0 (by simp)
     have k1:w2.cell? ⟨g,1,none⟩=some (.string b):=hcl 1 (by simp)
     have k2:w2.cell? ⟨g,2,none⟩=some (.string d):=hcl 2 (by simp)
     have k3:w2.cell? ⟨g,3,none⟩=some (.string e):=hcl 3 (by simp)
     have kl:w2.cell? ⟨g,4,none⟩=some (.string bMesh):=cl
     have hsmall:∀ x∈[a,b,d,e,f],x.size≤30:=hL30
     clear hcl cl
     go_wp2_with fail
     go_region_held3 (fun w'=>w'.cell? ⟨g,0,none⟩=some (.string a)∧w'.cell? ⟨g,1,none⟩=some (.string b)∧w'.cell? ⟨g,3,none⟩=some (.string e)) (go_keep) (fail)
     obtain ⟨W3,hW3⟩:∃ W3,W3=(w2.alloc (.cells #[.string b,.string a,.string ⟨#[]⟩,.string e] 50)).drew:=⟨_,rfl⟩
     rw [← hW3]
     have hgM:W3.heap[w2.heap.size]?=some (.cells #[.string b,.string a,.string ⟨#[]⟩,.string e] 50 (0,0)):=by rw [hW3];exact heap_alloc_new w2 _
     have HB23:Hid (Below w2.heap.size w2 W3):=(show Below _ _ _ by rw [hW3];exact ((Below.refl _ _).alloc (Nat.le_refl _) _).drew)
     have hl3:w.heap.size < W3.heap.size:=Nat.lt_of_lt_of_le hl2 HB23.out.size
     have HB3:Hid (Below w.heap.size w W3):=HB2.out.trans (HB23.out.mono (Nat.le_of_lt hl2))
     have G0:=(HB23.out.cell (p:=⟨w.heap.size,0,none⟩) hl2).trans g0
     have G1:=(HB23.out.cell (p:=⟨w.heap.size,1,none⟩) hl2).trans g1
     have G2:=(HB23.out.cell (p:=⟨w.heap.size,2,none⟩) hl2).trans g2
     have G3:=(HB23.out.cell (p:=⟨w.heap.size,3,none⟩) hl2).trans g3
     have Y0:=(HB23.out.frozen (p:=⟨w.heap.size,0,none⟩) hl2).trans y0
     have Y1:=(HB23.out.frozen (p:=⟨w.heap.size,1,none⟩) hl2).trans y1
     have Y2:=(HB23.out.frozen (p:=⟨w.heap.size,2,none⟩) hl2).trans y2
     have Y3:=(HB23.out.frozen (p:=⟨w.heap.size,3,none⟩) hl2).trans y3
     have hltM:w2.heap.size < W3.heap.size:=(Array.getElem?_eq_some_iff.1 hgM).1
     have HM:Hid (∀ k,k < 1→∀ W,Below W3.heap.size W3 W→W.cell? ⟨w2.heap.size,k * 4,none⟩=some (.string ((mayQ [a,b,d,e,f]).getD k qE).service)∧W.cell? ⟨w2.heap.size,k * 4+1,none⟩=some (.string ((mayQ [a,b,d,e,f]).getD k qE).tag)∧W.cell? ⟨w2.heap.size,k * 4+2,none⟩=some (.string ((mayQ [a,b,d,e,f]).getD k qE).node)∧W.cell? ⟨w2.heap.size,k * 4+3,none⟩=some (.string ((mayQ [a,b,d,e,f]).getD k qE).centre)):=fun k hk W hW=>by
      have hb:=hW.cell (p:=⟨w2.heap.size,k * 4,none⟩) hltM
      have hb1:=hW.cell (p:=⟨w2.heap.size,k * 4+1,none⟩) hltM
      have hb2:=hW.cell (p:=⟨w2.heap.size,k * 4+2,none⟩) hltM
      have hb3:=hW.cell (p:=⟨w2.heap.size,k * 4+3,none⟩) hltM
      match k,hk with
      | 0,_=>exact ⟨(hb.trans (cellsAt hgM 0)),(hb1.trans (cellsAt hgM 1)),(hb2.trans (cellsAt hgM 2)),(hb3.trans (cellsAt hgM 3))⟩
     have HOK:Hid (∀ k,k < 1→((mayQ [a,b,d,e,f]).getD k qE).ok):=fun k hk=>by
      match k,hk with
      | 0,_=>exact ⟨small_max (hsmall b (by simp)),small_max (hsmall a (by simp)),eB_max,small_max (hsmall e (by simp))⟩
     have HNN2:Hid ((∀ j,j < 1→¬ (prE ((mayQ [a,b,d,e,f]).getD j qE)=0∧prS ((mayQ [a,b,d,e,f]).getD j qE)=s))→E=1∧Q=qE):=fun h=>HNN.out (fun q hq=>by
      obtain ⟨j,hj,rfl⟩:=List.getElem_of_mem hq
      have hj2:j < 1:=hj
      have:=h j hj2
      rwa [getD_get hj] at this)
     generalize hcs:(fun j=>(mayQ [a,b,d,e,f]).getD j qE)=csF at *
     have hcs2:∀ j,(mayQ [a,b,d,e,f]).getD j qE=csF j:=fun j=>by rw [← hcs]
     simp only [hcs2] at HM HOK HNN2
     clear hcs hcs2 HNN hgM hW3 hsmall g0 y0 g1 y1 g2 y2 g3 y3
     go_wp2_with fail
     go_loopw [7] (fun i wr=>∃ k:Nat,k≤1∧i=.int .i64 k∧Hid (Below W3.heap.size W3 wr)∧Hid (∀ j,j < k→¬ (prE (csF j)=0∧prS (csF j)=s))) (fun i _=>1 - (intOf i).toNat)
     case atStart=>exact ⟨0,Nat.zero_le _,rfl,Below.refl _ _,fun j h=>absurd h (Nat.not_lt_zero _)⟩
     case round=>
      obtain ⟨k,hk,rfl,HBR,hz⟩:=hrel
      have r0:=(HBR.out.cell (p:=⟨w.heap.size,0,none⟩) hl3).trans G0
      have r1:=(HBR.out.cell (p:=⟨w.heap.size,1,none⟩) hl3).trans G1
      have r2:=(HBR.out.cell (p:=⟨w.heap.size,2,none⟩) hl3).trans G2
      have r3:=(HBR.out.cell (p:=⟨w.heap.size,3,none⟩) hl3).trans G3
      have x0:=(HBR.out.frozen (p:=⟨w.heap.size,0,none⟩) hl3).trans Y0
      have x1:=(HBR.out.frozen (p:=⟨w.heap.size,1,none⟩) hl3).trans Y1
      have x2:=(HBR.out.frozen (p:=⟨w.heap.size,2,none⟩) hl3).trans Y2
      have x3:=(HBR.out.frozen (p:=⟨w.heap.size,3,none⟩) hl3).trans Y3
      by_cases hlt:k < 1
      ·obtain ⟨c0,c1,c2,c3⟩:=HM.out k hlt wr HBR.out
       have hok:=HOK.out k hlt
       have HMK:Hid (∀ W,Below W3.heap.size W3 W→W.cell? ⟨w2.heap.size,k * 4,none⟩=some (.string (csF k).service)∧W.cell? ⟨w2.heap.size,k * 4+1,none⟩=some (.string (csF k).tag)∧W.cell? ⟨w2.heap.size,k * 4+2,none⟩=some (.string (csF k).node)∧W.cell? ⟨w2.heap.size,k * 4+3,none⟩=some (.string (csF k).centre)):=fun W hW=>HM.out k hlt W hW
       have HZ2:Hid (¬ (prE (csF k)=0∧prS (csF k)=s)→∀ j,j < k+1→¬ (prE (csF j)=0∧prS (csF j)=s)):=fun h j hj=>by
        rcases Nat.lt_succ_iff_lt_or_eq.1 hj with h2 | rfl
        ·exact hz.out j h2
        ·exact h
       have HPK:Hid (Calls Tryz.prog 41 #[.agg #[.string (csF k).service,.string (csF k).tag,.string (csF k).node,.string (csF k).centre]] wr fun e w'=>e=.returned (.tuple #[.string (prS (csF k)),.int .i64 (prE (csF k))])∧Below wr.heap.size wr w'):=HPO.out (csF k) wr hok
       have HHK:=HHI.out (csF k)
       have HHJ:Hid (prE (csF k)=0→prS (csF k)=s→E=0∧Q=csF k):=HHK
       clear HHK hok
       generalize prE (csF k)=pe at *
       generalize prS (csF k)=ps at *
       generalize csF k=qk at *
       obtain ⟨qs,qt,qn,qc⟩:=qk
       simp only at c0 c1 c2 c3 HMK HPK HHJ
       go_wp2_with fail
       refine HPK.out.mono ?_
       rintro e w5 ⟨rfl,hb5⟩
       have HB5:Hid (Below W3.heap.size W3 w5):=HBR.out.trans (hb5.mono HBR.out.size)
       have HBT:Hid (Below w.heap.size w w5):=HB3.out.trans (HB5.out.mono (Nat.le_of_lt hl3))
       obtain ⟨d0,d1,d2,d3⟩:=HMK.out w5 HB5.out
       have s0:=(HB5.out.cell (p:=⟨w.heap.size,0,none⟩) hl3).trans G0
       have s1:=(HB5.out.cell (p:=⟨w.heap.size,1,none⟩) hl3).trans G1
       have s2:=(HB5.out.cell (p:=⟨w.heap.size,2,none⟩) hl3).trans G2
       have s3:=(HB5.out.cell (p:=⟨w.heap.size,3,none⟩) hl3).trans G3
       have t0:=(HB5.out.frozen (p:=⟨w.heap.size,0,none⟩) hl3).trans Y0
       have t1:=(HB5.out.frozen (p:=⟨w.heap.size,1,none⟩) hl3).trans Y1
       have t2:=(HB5.out.frozen (p:=⟨w.heap.size,2,none⟩) hl3).trans Y2
       have t3:=(HB5.out.frozen (p:=⟨w.heap.size,3,none⟩) hl3).trans Y3
       clear c0 c1 c2 c3 hb5 HMK HPK r0 r1 r2 r3 x0 x1 x2 x3
       by_cases hpe:pe=0
       ·subst hpe
        by_cases hps:ps=s
        ·subst hps
         obtain ⟨u1,u2⟩:=HHJ.out rfl rfl
         have HR1:Hid (E=0):=u1
         have HR2:Hid (Q=⟨qs,qt,qn,qc⟩):=u2
         clear u1 u2 HHJ HZ2
         go_wp2_with fail
         exact bodyPost_ret (v:=.tuple #[.agg #[.string qs,.string qt,.string qn,.string qc],.int .i64 0]) (by simp [results,Tryz.results16,go_sem,s0,s1,s2,s3]) rfl ⟨by rw [HR1.out,HR2.out];try rfl,(((HBT.out.setCell (p:=⟨w.heap.size,0,none⟩) (Nat.le_refl _) _).setCell (p:=⟨w.heap.size,1,none⟩) (Nat.le_refl _) _).setCell (p:=⟨w.heap.size,2,none⟩) (Nat.le_refl _) _).setCell (p:=⟨w.heap.size,3,none⟩) (Nat.le_refl _) _⟩
        ·obtain ⟨k1',k2'⟩:=beq_name hps
         have HZ3:Hid (∀ j,j < k+1→¬ (prE (csF j)=0∧prS (csF j)=s)):=HZ2.out (fun h=>hps h.2)
         clear HZ2 HHJ hps
         go_wp2_with fail
         exact ⟨⟨k+1,by omega,by go_num,HB5,HZ3⟩,by simp [intOf];omega⟩
       ·have k1':(pe == 0)=false:=by simpa using hpe
        have HZ3:Hid (∀ j,j < k+1→¬ (prE (csF j)=0∧prS (csF j)=s)):=HZ2.out (fun h=>hpe h.1)
        clear HZ2 HHJ
        go_wp2_with fail
        exact ⟨⟨k+1,by omega,by go_num,HB5,HZ3⟩,by simp [intOf];omega⟩
      ·obtain ⟨u1,u2⟩:=HNN2.out (fun j hj=>hz.out j (by omega))
       have HR1:Hid (E=1):=u1
       have HR2:Hid (Q=qE):=u2
       have HBT:Hid (Below w.heap.size w wr):=HB3.out.trans (HBR.out.mono (Nat.le_of_lt hl3))
       clear u1 u2
       go_wp2_with fail
       exact bodyPost_ret (v:=.tuple #[.agg #[.string ⟨#[]⟩,.string ⟨#[]⟩,.string ⟨#[]⟩,.string ⟨#[]⟩],.int .i64 1]) (by simp [results,Tryz.results16,go_sem,r0,r1,r2,r3]) rfl ⟨by rw [HR1.out,HR2.out];try rfl,(((HBT.out.setCell (p:=⟨w.heap.size,0,none⟩) (Nat.le_refl _) _).setCell (p:=⟨w.heap.size,1,none⟩) (Nat.le_refl _) _).setCell (p:=⟨w.heap.size,2,none⟩) (Nat.le_refl _) _).setCell (p:=⟨w.heap.size,3,none⟩) (Nat.le_refl _) _⟩
    ·have HNN2:Hid ((∀ j,j < 0→¬ (prE ((fun _=>qE) j)=0∧prS ((fun _=>qE) j)=s))→E=1∧Q=qE):=fun _=>HNN.out (fun q hq=>by rw [hxe] at hq;cases hq)
     obtain ⟨csF,hcs⟩:∃ csF:Nat→Qu,csF=fun _=>qE:=⟨_,rfl⟩
     rw [← hcs] at HNN2
     obtain ⟨W3,hW3⟩:∃ W3,W3=w2:=⟨_,rfl⟩
     have HB3:Hid (Below w.heap.size w W3):=(show Below _ _ _ by rw [hW3];exact HB2.out)
     have hl3:w.heap.size < W3.heap.size:=by rw [hW3];exact hl2
     rw [← hW3] at g0 g1 g2 g3 y0 y1 y2 y3 cl
     rw [← hW3]
     have e3:((LA.length:Int) == 3)=false:=by rw [beq_eq_false_iff_ne];omega
     have e4:((LA.length:Int) == 4)=false:=by rw [beq_eq_false_iff_ne];omega
     have e5:((LA.length:Int) == 5)=false:=by rw [beq_eq_false_iff_ne];omega
     have G0:=g0
     have G1:=g1
     have G2:=g2
     have G3:=g3
     have Y0:=y0
     have Y1:=y1
     have Y2:=y2
     have Y3:=y3
     clear hcl HNN hxe hcs hW3 HLS hL30
     generalize LA.length - 1=m at *
     generalize LA.length=n at *
     go_wp2_with fail
     go_loopw [7] (fun i wr=>∃ k:Nat,k≤0∧i=.int .i64 k∧Hid (Below W3.heap.size W3 wr)∧Hid (∀ j,j < k→¬ (prE (csF j)=0∧prS (csF j)=s))) (fun i _=>0 - (intOf i).toNat)
     case atStart=>exact ⟨0,Nat.zero_le _,rfl,Below.refl _ _,fun j h=>absurd h (Nat.not_lt_zero _)⟩
     case round=>
      obtain ⟨k,hk,rfl,HBR,hz⟩:=hrel
      have r0:=(HBR.out.cell (p:=⟨w.heap.size,0,none⟩) hl3).trans G0
      have r1:=(HBR.out.cell (p:=⟨w.heap.size,1,none⟩) hl3).trans G1
      have r2:=(HBR.out.cell (p:=⟨w.heap.size,2,none⟩) hl3).trans G2
      have r3:=(HBR.out.cell (p:=⟨w.heap.size,3,none⟩) hl3).trans G3
      have x0:=(HBR.out.frozen (p:=⟨w.heap.size,0,none⟩) hl3).trans Y0
      have x1:=(HBR.out.frozen (p:=⟨w.heap.size,1,none⟩) hl3).trans Y1
      have x2:=(HBR.out.frozen (p:=⟨w.heap.size,2,none⟩) hl3).trans Y2
      have x3:=(HBR.out.frozen (p:=⟨w.heap.size,3,none⟩) hl3).trans Y3
      obtain ⟨u1,u2⟩:=HNN2.out (fun j hj=>hz.out j (by omega))
      have HR1:Hid (E=1):=u1
      have HR2:Hid (Q=qE):=u2
      have HBT:Hid (Below w.heap.size w wr):=HB3.out.trans (HBR.out.mono (Nat.le_of_lt hl3))
      clear u1 u2
      go_wp2_with fail
      exact bodyPost_ret (v:=.tuple #[.agg #[.string ⟨#[]⟩,.string ⟨#[]⟩,.string ⟨#[]⟩,.string ⟨#[]⟩],.int .i64 1]) (by simp [results,Tryz.results16,go_sem,r0,r1,r2,r3]) rfl ⟨by rw [HR1.out,HR2.out];try rfl,(((HBT.out.setCell (p:=⟨w.heap.size,0,none⟩) (Nat.le_refl _) _).setCell (p:=⟨w.heap.size,1,none⟩) (Nat.le_refl _) _).setCell (p:=⟨w.heap.size,2,none⟩) (Nat.le_refl _) _).setCell (p:=⟨w.heap.size,3,none⟩) (Nat.le_refl _) _⟩
   ·obtain ⟨r1,r2⟩:=HFB.out hla
    have HR1:Hid (E=8):=r1
    have HR2:Hid (Q=qE):=r2
    obtain ⟨m1,m2⟩:=ne_mesh hla
    clear r1 r2 hcl hla
    generalize LA.length - 1=m at *
    generalize LA.length=n at *
    go_wp2_with fail
    exact bodyPost_ret (v:=.tuple #[.agg #[.string ⟨#[]⟩,.string ⟨#[]⟩,.string ⟨#[]⟩,.string ⟨#[]⟩],.int .i64 8]) (by simp [results,Tryz.results16,go_sem,g0,g1,g2,g3]) rfl ⟨by rw [HR1.out,HR2.out];try rfl,(((HB2.out.setCell (p:=⟨w.heap.size,0,none⟩) (Nat.le_refl _) _).setCell (p:=⟨w.heap.size,1,none⟩) (Nat.le_refl _) _).setCell (p:=⟨w.heap.size,2,none⟩) (Nat.le_refl _) _).setCell (p:=⟨w.heap.size,3,none⟩) (Nat.le_refl _) _⟩
 ·obtain ⟨r1,r2⟩:=HA.out h0
  have HR1:Hid (E=C):=r1
  have HR2:Hid (Q=qE):=r2
  have h1:(C == 0)=false:=by simpa using h0
  clear r1 r2
  go_wp2_with fail
  exact bodyPost_ret (v:=.tuple #[.agg #[.string ⟨#[]⟩,.string ⟨#[]⟩,.string ⟨#[]⟩,.string ⟨#[]⟩],.int .i64 C]) (by simp [results,Tryz.results16,go_sem,f0,f1,f2,f3]) rfl ⟨by rw [HR1.out,HR2.out];try rfl,(((HB1.out.setCell (p:=⟨w.heap.size,0,none⟩) (Nat.le_refl _) _).setCell (p:=⟨w.heap.size,1,none⟩) (Nat.le_refl _) _).setCell (p:=⟨w.heap.size,2,none⟩) (Nat.le_refl _) _).setCell (p:=⟨w.heap.size,3,none⟩) (Nat.le_refl _) _⟩
end Go.Proofs.YtignmeaeibaejaaGreatDoor
