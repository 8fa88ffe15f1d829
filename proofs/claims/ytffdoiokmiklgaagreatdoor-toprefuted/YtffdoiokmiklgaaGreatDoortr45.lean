import Derived.Shelf.SlSortCmp.SmallK
import Derived.Test.YtffdoiokmiklgaaGreatDoorProg
import Derived.Test.YtffdoiokmiklgaaGreatDoortr14
import Derived.Shelf.SlSortCmp.NoneTotal
import Derived.Shelf.SlSortFunc.HeapSort
import Derived.Test.YtffdoiokmiklgaaGreatDoortr44
import Derived.Test.YtffdoiokmiklgaaGreatDoortr11
import Derived.Test.YtffdoiokmiklgaaGreatDoortr17
namespace Go.Proofs
open Go.Shelf
def Tryz.sortM_ren:Go.Shelf.Ren:=⟨fun | 6=>97 | 15=>144 | 14=>148 | 28=>206 | 29=>207 | 20=>212 | 21=>213 | 22=>214 | 23=>215 | 24=>216 | 25=>217 | 26=>218 | 27=>219 | 46=>246 | 47=>247 | 48=>248 | 49=>249 | 50=>250 | 57=>284 | n=>n,fun | 22=>45 | 24=>56 | 25=>149 | 3=>3 | 39=>176 | 0=>0 | 53=>224 | 55=>226 | 4=>4 | 46=>231 | 45=>230 | 50=>169 | 5=>5 | 9=>9 | 66=>262 | 70=>266 | 76=>292 | 77=>293 | n=>n,fun | n=>n⟩
theorem Tryz.sortM:Go.Proofs.SlLaysF0.n6 Tryz.prog Tryz.sortM_ren:={
 mixed:=by kernel_rfl
 f6:=⟨Tryz.f97.name,by decide,Tryz.func97.trans (congrArg some (by kernel_rfl))⟩
 f14:=⟨Tryz.f148.name,by decide,Tryz.func148.trans (congrArg some (by kernel_rfl))⟩
 f15:=Tryz.func144.trans (congrArg some (by kernel_rfl))
 f20:=⟨Tryz.f212.name,by decide,Tryz.func212.trans (congrArg some (by kernel_rfl))⟩
 f21:=⟨Tryz.f213.name,by decide,Tryz.func213.trans (congrArg some (by kernel_rfl))⟩
 f22:=⟨Tryz.f214.name,by decide,Tryz.func214.trans (congrArg some (by kernel_rfl))⟩
 f23:=⟨Tryz.f215.name,by decide,Tryz.func215.trans (congrArg some (by kernel_rfl))⟩
 f24:=⟨Tryz.f216.name,by decide,Tryz.func216.trans (congrArg some (by kernel_rfl))⟩
 f25:=⟨Tryz.f217.name,by decide,Tryz.func217.trans (congrArg some (by kernel_rfl))⟩
 f26:=⟨Tryz.f218.name,by decide,Tryz.func218.trans (congrArg some (by kernel_rfl))⟩
 f27:=⟨Tryz.f219.name,by decide,Tryz.func219.trans (congrArg some (by kernel_rfl))⟩
 f28:=Tryz.func206.trans (congrArg some (by kernel_rfl))
 f29:=Tryz.func207.trans (congrArg some (by kernel_rfl))
 f46:=⟨Tryz.f246.name,by decide,Tryz.func246.trans (congrArg some (by kernel_rfl))⟩
 f47:=Tryz.func247.trans (congrArg some (by kernel_rfl))
 f48:=Tryz.func248.trans (congrArg some (by kernel_rfl))
 f49:=⟨Tryz.f249.name,by decide,Tryz.func249.trans (congrArg some (by kernel_rfl))⟩
 f50:=⟨Tryz.f250.name,by decide,Tryz.func250.trans (congrArg some (by kernel_rfl))⟩
 f57:=⟨Tryz.f284.name,by decide,Tryz.func284.trans (congrArg some (by kernel_rfl))⟩
 t0:=Tryz.underlying0
 a0:=Tryz.isAgg0
 z0:=Tryz.sizeOf0
 v0:=Tryz.zeroValue0
 t3:=Tryz.underlying3
 a3:=Tryz.isAgg3
 z3:=Tryz.sizeOf3
 v3:=Tryz.zeroValue3
 t4:=Tryz.underlying4
 a4:=Tryz.isAgg4
 z4:=Tryz.sizeOf4
 v4:=Tryz.zeroValue4
 t5:=Tryz.underlying5
 a5:=Tryz.isAgg5
 z5:=Tryz.sizeOf5
 v5:=Tryz.zeroValue5
 t9:=Tryz.underlying9
 a9:=Tryz.isAgg9
 z9:=Tryz.sizeOf9
 v9:=Tryz.zeroValue9
 t22:=Tryz.underlying45
 a22:=Tryz.isAgg45
 z22:=Tryz.sizeOf45
 v22:=Tryz.zeroValue45
 t25:=Tryz.underlying149
 a25:=Tryz.isAgg149
 z25:=Tryz.sizeOf149
 v25:=Tryz.zeroValue149
 t39:=Tryz.underlying176
 a39:=Tryz.isAgg176
 z39:=Tryz.sizeOf176
 v39:=Tryz.zeroValue176
 t45:=Tryz.underlying230
 a45:=Tryz.isAgg230
 z45:=Tryz.sizeOf230
 v45:=Tryz.zeroValue230
 t46:=Tryz.underlying231
 a46:=Tryz.isAgg231
 z46:=Tryz.sizeOf231
 v46:=Tryz.zeroValue231
 t50:=Tryz.underlying169
 a50:=Tryz.isAgg169
 z50:=Tryz.sizeOf169
 v50:=Tryz.zeroValue169
 t53:=Tryz.underlying224
 a53:=Tryz.isAgg224
 z53:=Tryz.sizeOf224
 v53:=Tryz.zeroValue224
 t55:=Tryz.underlying226
 a55:=Tryz.isAgg226
 z55:=Tryz.sizeOf226
 v55:=Tryz.zeroValue226
 t66:=Tryz.underlying262
 a66:=Tryz.isAgg262
 z66:=Tryz.sizeOf262
 v66:=Tryz.zeroValue262
 t70:=Tryz.underlying266
 a70:=Tryz.isAgg266
 z70:=Tryz.sizeOf266
 v70:=Tryz.zeroValue266
 t76:=Tryz.underlying292
 a76:=Tryz.isAgg292
 z76:=Tryz.sizeOf292
 v76:=Tryz.zeroValue292
 t77:=Tryz.underlying293
 a77:=Tryz.isAgg293
 z77:=Tryz.sizeOf293
 v77:=Tryz.zeroValue293 }
end Go.Proofs
namespace Go.Proofs.YtffdoiokmiklgaaGreatDoor
open Go.RowKit
def TurnsSays (rs:List Rum) (v:Value):Prop:=∀ w,RSl w v rs→Calls Tryz.prog 145 #[v] w fun e w'=>∃ (g c:Nat) (ord:List Nat),e=.returned (.slice (some ⟨g,0,none⟩) rs.length c)∧IsOrd rs ord∧(∀ j,j < rs.length→w'.cell? ⟨g,j,none⟩=some (.int .i64 (ord.getD j 0:Nat)))∧rs.length≤c∧w.heap.size≤g∧Below w.heap.size w w'
theorem wrs_told {rs:List Rum} {p:Nat} (hp:p < rs.length) (t:Int):(flR rs).set (p * 6+5) (.int .i64 t)=flR (rs.set p ⟨(rs.getD p dr).m,t⟩):=by
 apply List.ext_getElem?
 intro k
 by_cases hk:k < rs.length * 6
 ·have h2:=flR_get (rs.set p ⟨(rs.getD p dr).m,t⟩) (k / 6) (by rw [List.length_set];omega) (k%6) (by omega)
  rw [show k / 6 * 6+k%6=k by omega] at h2
  have h4:=flR_get rs (k / 6) (by omega) (k%6) (by omega)
  rw [show k / 6 * 6+k%6=k by omega] at h4
  rw [h2]
  by_cases hkp:k / 6=p
  ·rw [show (rs.set p ⟨(rs.getD p dr).m,t⟩).getD (k / 6) dr=⟨(rs.getD p dr).m,t⟩ by rw [hkp];simp [List.getD,List.getElem?_set_self hp]]
   rw [hkp] at h4
   by_cases h5:k%6=5
   ·rw [show p * 6+5=k by omega,List.getElem?_set_self (by rw [flR_len];omega),h5]
    rfl
   ·rw [List.getElem?_set_ne (by omega),h4]
    have h6:k%6 < 5:=by omega
    generalize k%6=q at h6
    match q,h6 with
    | 0,_=>rfl
    | 1,_=>rfl
    | 2,_=>rfl
    | 3,_=>rfl
    | 4,_=>rfl
  ·rw [show (rs.set p ⟨(rs.getD p dr).m,t⟩).getD (k / 6) dr=rs.getD (k / 6) dr by simp [List.getD,List.getElem?_set_ne (Ne.symm hkp)],List.getElem?_set_ne (by omega),h4]
 ·rw [List.getElem?_eq_none (by rw [List.length_set,flR_len];omega),List.getElem?_eq_none (by rw [flR_len,List.length_set];omega)]
theorem within_bd {n a b:Int} (h:within n a b=true):a≤n∧n≤b:=by simpa [within] using h
theorem own_snoc' {base:Nat} {w:World} {v:Value} {L:List Mem} {m:Mem} (h:w.ownsRow base 56 5 v (L.length+1) (fl L++m.cs)):Own base w v (L++[m]):=by
 have e:fl (L++[m])=fl L++m.cs:=by rw [fl_append,fl_cons];simp [fl]
 show w.ownsRow base 56 5 v (L++[m]).length (fl (L++[m]))
 rw [e,List.length_append]
 exact h
theorem Own.slice {base:Nat} {w:World} {v:Value} {ms:List Mem} (h:Own base w v ms):∃ a c,v=.slice a ms.length c:=by
 rcases h.2 with ⟨rfl,h0⟩ | ⟨g,c,cur,rfl,_⟩
 ·exact ⟨none,0,by rw [h0]⟩
 ·exact ⟨_,c,rfl⟩
set_option maxHeartbeats 6400000 in
set_option maxRecDepth 100000 in
theorem take_some (rs:List Rum) (v:Value) (most times:Int) (w:World) (hv:RSl w v rs) (h0:chkR rs=0) (hm:within most 1 20=true) (ht:within times 1 100=true) (hpos:0 < rs.length) (hT:TurnsSays rs v) :
 Calls Tryz.prog 96 #[v,.int .i64 most,.int .i64 times] w fun e w'=>∃ (v1 v2:Value) (ord:List Nat),e=.returned (.tuple #[v1,v2,.int .i64 0])∧IsOrd rs ord∧Own w.heap.size w' v1 (toldL rs ord (min most.toNat rs.length))∧ROwn w.heap.size w' v2 ((bump rs ord (min most.toNat rs.length)).filter (keepR times))∧Below w.heap.size w w':=by
 obtain ⟨j0,hj0,hk0,hks,hkb⟩:=info_parts Tryz.info56
 have HV:Hid (RSl w v rs):=hv
 have HTT:Hid (TurnsSays rs v):=hT
 have hm1:1≤most∧most≤20:=by simp [within] at hm;omega
 obtain ⟨hm1,hm2⟩:=hm1
 obtain ⟨hn20,_,htold,_⟩:=chkR_zero h0
 have HTO:Hid (AllTold rs):=htold
 have hchk:=fun (w:World) (h:RSl w v rs)=>checkR_any rs v w h
 rw [h0] at hchk
 clear h0 hT htold
 obtain ⟨pa,ca,rfl,_,_⟩:=hv
 generalize hN:rs.length=n at *
 have HN:Hid (rs.length=n):=hN
 clear hN
 have hB0:Below w.heap.size w (w.alloc (.cells #[.int .i64 times] 3)):=(Below.refl _ _).alloc (Nat.le_refl _) _
 go_enter Tryz.func96,Tryz.ntmps96
 go_wp2_with fail
 refine (hchk _ (HV.out.below hB0)).mono ?_
 rintro e w1 ⟨rfl,hb1⟩
 have c1:w1.cell? ⟨w.heap.size,0,none⟩=some (.int .i64 times):=by
  rw [hb1.cell (p:=⟨w.heap.size,0,none⟩) (by simp)];exact cell_top' rfl
 have HB1:Hid (Below w.heap.size w w1):=hB0.trans (hb1.mono (by simp))
 have hz1:w.heap.size < w1.heap.size:=by have:=hb1.size;simp at this;omega
 clear hb1 hB0 hchk
 go_wp2_with (go_at_call 76;refine (within_any _ _ _ _).mono ?_;rintro e w' ⟨rfl,rfl⟩;first | rw [hm] | rw [ht])
 refine (rclone_any rs _ _ (HV.out.below HB1.out) (by rw [HN.out];omega)).mono ?_
 rintro e w3 ⟨v3,rfl,ho3,hb3⟩
 have HO3:Hid (ROwn (w.heap.size+1) w3 v3 rs):=ho3.base hz1
 have c3:w3.cell? ⟨w.heap.size,0,none⟩=some (.int .i64 times):=by
  rw [hb3.cell (p:=⟨w.heap.size,0,none⟩) (by simp only;omega)];exact c1
 have HB3:Hid (Below w.heap.size w w3):=HB1.out.trans (hb3.mono HB1.out.size)
 have hz3:w.heap.size < w3.heap.size:=by have:=hb3.size;omega
 clear hb3 ho3 c1
 go_wp2_with fail
 refine (HTT.out _ (HV.out.below HB3.out)).mono ?_
 rintro e w4 ⟨gt,ct,ord,rfl,hord,hct,hcc,hgt3,hb4⟩
 have HORD:Hid (IsOrd rs ord):=hord
 have HCT:Hid (∀ j,j < rs.length→w4.cell? ⟨gt,j,none⟩=some (.int .i64 (ord.getD j 0:Nat))):=hct
 have HB4:Hid (Below w.heap.size w w4):=HB3.out.trans (hb4.mono HB3.out.size)
 have C4:Hid (w4.cell? ⟨w.heap.size,0,none⟩=some (.int .i64 times)):=by
  have h:=hb4.cell (p:=⟨w.heap.size,0,none⟩) (by simp only;omega)
  exact h.trans c3
 have HO4:Hid (ROwn (w.heap.size+1) w4 v3 rs):=HO3.out.below hb4
 have HG3:Hid (∀ k,v3.ownBlock=some k→k < w3.heap.size):=fun k hk=>(HO3.out.lt k hk).2
 have hz4:w3.heap.size≤w4.heap.size:=hb4.size
 clear hb4 c3 HO3 hct hord
 obtain ⟨g,c,hv3⟩:∃ g c,v3=.slice (some ⟨g,0,none⟩) n c:=by
  rcases HO4.out.2 with ⟨_,h0⟩ | ⟨g,c,cur,h,_⟩
  ·have:=HN.out;omega
  ·exact ⟨g,c,by rw [h,HN.out]⟩
 subst hv3
 obtain ⟨hgl,hgh⟩:=HO4.out.lt g rfl
 have hg3:g < w3.heap.size:=HG3.out g rfl
 rw [HN.out] at hcc ⊢
 have HGT:Hid (gt < w4.heap.size):=World.block_lt_of_cell? w4 ⟨gt,0,none⟩ (HCT.out 0 (by rw [HN.out];exact hpos))
 obtain ⟨q,hq⟩:∃ q:Nat,q=min most.toNat n:=⟨_,rfl⟩
 have hmin:min most (n:Int)=(q:Int):=by omega
 have hqn:q≤n:=by omega
 go_wp2_with fail
 go_loopw [11,37] (fun o i wr=>∃ k:Nat,k≤q∧i=.int .i64 k∧Hid (Own w4.heap.size wr o (toldL rs ord k))∧Hid (ROwn (w.heap.size+1) wr (.slice (some ⟨g,0,none⟩) n c) (bump rs ord k))∧Hid (wr.cell? ⟨w.heap.size,0,none⟩=some (.int .i64 times))∧Hid (∀ j,j < rs.length→wr.cell? ⟨gt,j,none⟩=some (.int .i64 (ord.getD j 0:Nat)))∧Hid (Below w.heap.size w wr)∧w4.heap.size≤wr.heap.size) (fun _ i _=>q - (intOf i).toNat)
 case atStart=>exact ⟨0,Nat.zero_le _,rfl,(by rw [toldL_zero];exact own_nil _ _),(by rw [bump_zero];exact HO4.out),C4,HCT,HB4,Nat.le_refl _⟩
 case round=>
  obtain ⟨k,hk,rfl,HTO2,HRO,HCC,HCT2,HB,hsz⟩:=hrel
  by_cases hlt:k < q
  ·have hkn:k < rs.length:=by rw [HN.out];omega
   have oc:=HCT2.out k hkn
   have hat:ord.getD k 0 < n:=by have:=HORD.out.lt hkn;rwa [HN.out] at this
   have hbl:(bump rs ord k).length=n:=by rw [bump_len];exact HN.out
   obtain ⟨d0,d1,d2,d3,d4,d5⟩:=rown_row HRO.out (ord.getD k 0) (by rw [hbl];exact hat)
   rw [bump_fresh HORD.out hkn] at d0 d1 d2 d3 d4 d5
   have hRO:wr.ownsRow (w.heap.size+1) 98 6 (.slice (some ⟨g,0,none⟩) n c) n (flR (bump rs ord k)):=by
    have h2:wr.ownsRow (w.heap.size+1) 98 6 (.slice (some ⟨g,0,none⟩) n c) (bump rs ord k).length (flR (bump rs ord k)):=HRO.out
    rw [hbl] at h2;exact h2
   have hfz:∀ o,wr.frozen? ⟨g,o,none⟩=false:=fun o=>World.ownsRow.frozenAt hRO o
   have htold:within (rs.getD (ord.getD k 0) dr).told 0 100=true:=HTO.out _ (HORD.out.lt hkn)
   obtain ⟨ht3,ht4⟩:=within_bd htold
   have HRO2:Hid (ROwn (w.heap.size+1) (wr.setCell ⟨g,ord.getD k 0 * 6+5,none⟩ (.int .i64 ((rs.getD (ord.getD k 0) dr).told+1))) (.slice (some ⟨g,0,none⟩) n c) (bump rs ord (k+1))):=by
    have h3:=(World.ownsRow.stored hRO (ord.getD k 0 * 6+5) (.int .i64 ((rs.getD (ord.getD k 0) dr).told+1))).1
    rw [wrs_told (by rw [hbl];exact hat),bump_fresh HORD.out hkn] at h3
    show World.ownsRow _ _ _ _ _ (bump rs ord (k+1)).length _
    rw [bump_len,HN.out,bump_succ (by rw [HORD.out.len];exact hkn),bumpOne,bump_fresh HORD.out hkn]
    exact h3
   have HTS:Hid (toldL rs ord (k+1)=toldL rs ord k++[(rs.getD (ord.getD k 0) dr).m]):=toldL_succ (by rw [HORD.out.len];exact hkn)
   have htl:(toldL rs ord k).length≤20:=by unfold toldL;rw [List.length_map,List.length_take];omega
   obtain ⟨oa,ocp,hvo⟩:=HTO2.out.slice
   subst hvo
   clear hRO htold
   generalize ord.getD k 0=at1 at *
   generalize hrk:rs.getD at1 dr=rk at *
   clear hrk
   obtain ⟨⟨nm,st,lf,ad,sv⟩,td⟩:=rk
   simp only at d0 d1 d2 d3 d4 d5 ht3 ht4 HRO2 HTS
   simp only [Nat.zero_add] at d0 d1 d2 d3 d4 d5
   generalize toldL rs ord k=TL at *
   have HOT:Hid (∀ ob,((wr.setCell ⟨g,at1 * 6+5,none⟩ (.int .i64 (td+1))).alloc ob).ownsRow w4.heap.size 56 5 (.slice oa TL.length ocp) TL.length (fl TL)):=fun ob=>
    Own.below (ms:=TL) (ownsRow_setCell_below HTO2.out (a:=⟨g,at1 * 6+5,none⟩) hgh _) ((Below.refl _ _).alloc (Nat.le_refl _) ob)
   have HLT:Hid (∀ j,(Value.slice oa TL.length ocp).ownBlock=some j→w4.heap.size≤j):=fun j hj=>(HTO2.out.lt j hj).1
   clear HTO2 HRO
   go_wp2_with (at_builtin;refine wpList_append_own _ rfl _ _ 45 rfl w4.heap.size 56 j0 _ 5 48 Tryz.underlying45 hj0 hk0 hks hkb rfl (by omega) _ TL.length (fl TL) rfl ?hown ⟨wr.heap.size,0,none⟩ 1 1 (Mem.mk nm st lf ad sv).cs rfl rfl ?hnews (cs_one _) ?h63 ?hbytes ?hbase ?_)
   case hown=>exact HOT.out _
   case hnews=>(intro j u hj;rw [Addr.add_lit];exact (cell_top' (by simp)).trans (by simpa [Mem.cs] using hj))
   case h63=>(unfold maxLen;omega)
   case hbytes=>omega
   case hbase=>(simp;omega)
   intro v' w5 r1 r2 r3
   have hb5:Below w4.heap.size (wr.setCell ⟨g,at1 * 6+5,none⟩ (.int .i64 (td+1))) w5:=
    ((Below.refl w4.heap.size (wr.setCell ⟨g,at1 * 6+5,none⟩ (.int .i64 (td+1)))).alloc (by simpa using hsz) _).grown r2 (by simp;omega) (fun j hj=>HLT.out j hj)
   have R1:Hid (Own w4.heap.size w5 v' (TL++[⟨nm,st,lf,ad,sv⟩])):=own_snoc' r1
   have hgr:(wr.setCell ⟨g,at1 * 6+5,none⟩ (.int .i64 (td+1))).heap[g]?=w5.heap[g]?:=(hb5.block g hgh).symm
   have R2:Hid (ROwn (w.heap.size+1) w5 (.slice (some ⟨g,0,none⟩) n c) (bump rs ord (k+1))):=by
    obtain ⟨h1,h2⟩:=HRO2.out
    refine ⟨h1,?_⟩
    rcases h2 with h2 | ⟨g',c',cur,hv,hbg,hg,hr⟩
    ·exact .inl h2
    ·have hgg:g'=g:=by simp only [Value.slice.injEq,Option.some.injEq,Addr.mk.injEq,and_true] at hv;exact hv.1.symm
     subst hgg
     exact .inr ⟨g',c',cur,hv,hbg,by rw [← hgr];exact hg,hr⟩
   have R3:Hid (w5.cell? ⟨w.heap.size,0,none⟩=some (.int .i64 times)):=by
    have h1:=hb5.cell (p:=⟨w.heap.size,0,none⟩) (by simp only;omega)
    have h2:(wr.setCell ⟨g,at1 * 6+5,none⟩ (.int .i64 (td+1))).cell? ⟨w.heap.size,0,none⟩=wr.cell? ⟨w.heap.size,0,none⟩:=World.cell?_setCell_far _ _ _ _ (by simp only;omega)
    exact h1.trans (h2.trans HCC.out)
   have R4:Hid (∀ j,j < rs.length→w5.cell? ⟨gt,j,none⟩=some (.int .i64 (ord.getD j 0:Nat))):=fun j hj=>by
    have h1:=hb5.cell (p:=⟨gt,j,none⟩) HGT.out
    have h2:(wr.setCell ⟨g,at1 * 6+5,none⟩ (.int .i64 (td+1))).cell? ⟨gt,j,none⟩=wr.cell? ⟨gt,j,none⟩:=World.cell?_setCell_far _ _ _ _ (by simp only;omega)
    exact h1.trans (h2.trans (HCT2.out j hj))
   have R5:Hid (Below w.heap.size w w5):=(HB.out.setCell (p:=⟨g,at1 * 6+5,none⟩) (by simp only;omega) _).trans (hb5.mono (by omega))
   have hsz5:w4.heap.size≤w5.heap.size:=by have:=hb5.size;simp at this;omega
   clear r1 r2 r3 hb5 hgr HRO2 HOT HLT d0 d1 d2 d3 d4 d5 oc
   go_wp2_with fail
   exact ⟨⟨k+1,by omega,by go_num,(by rw [HTS.out];exact R1.out),R2.out,R3.out,R4.out,R5.out,hsz5⟩,by simp [intOf];omega⟩
  ·have hkq:k=q:=by omega
   subst hkq
   have hbl:(bump rs ord k).length=n:=by rw [bump_len];exact HN.out
   clear HCT2
   go_wp2_with fail
   refine (deleteFunc_any (bump rs ord k) n g c w.heap.size (w.heap.size+1) times _ hbl (by omega) HRO.out (by omega) (by omega) HCC.out).mono ?_
   rintro e w6 ⟨m,rfl,ho6,hb6,hf6⟩
   have S1:Hid (Own w.heap.size w6 u11 (toldL rs ord k)):=by
    obtain ⟨h1,h2⟩:=HTO2.out
    refine ⟨h1,?_⟩
    rcases h2 with h2 | ⟨g',c',cur,hv,hbg,hg,hr⟩
    ·exact .inl h2
    ·exact .inr ⟨g',c',cur,hv,by omega,by rw [hf6.2 g' (Array.getElem?_eq_some_iff.1 hg).1 (by omega)];exact hg,hr⟩
   have S2:Hid (ROwn w.heap.size w6 (.slice (some ⟨g,0,none⟩) m c) ((bump rs ord k).filter (keepR times))):=ho6.base (by omega)
   have S3:Hid (Below w.heap.size w w6):=HB.out.trans (hb6.mono (by omega))
   clear ho6 hb6 hf6 HTO2 HRO HCC
   go_wp2_with fail
   go_ret3
   exact ⟨_,_,ord,rfl,HORD.out,by rw [← hq];exact S1.out,by rw [← hq];exact S2.out,S3.out⟩
end Go.Proofs.YtffdoiokmiklgaaGreatDoor
namespace Go.Proofs
open Go.Shelf
def Tryz.sortI_ren:Go.Shelf.Ren:=⟨fun | 6=>208 | 15=>144 | 14=>244 | 28=>206 | 29=>207 | 20=>276 | 21=>277 | 22=>278 | 23=>279 | 24=>280 | 25=>281 | 26=>282 | 27=>283 | 46=>309 | 47=>247 | 48=>248 | 49=>310 | 50=>311 | 57=>328 | n=>n,fun | 22=>177 | 24=>3 | 25=>38 | 3=>3 | 39=>176 | 0=>0 | 53=>224 | 55=>226 | 4=>4 | 46=>231 | 45=>230 | 50=>169 | 5=>5 | 9=>9 | 66=>262 | 70=>266 | 76=>292 | 77=>293 | n=>n,fun | n=>n⟩
theorem Tryz.sortI:Go.Proofs.SlLaysF.n6 Tryz.prog Tryz.sortI_ren:={
 mixed:=by kernel_rfl
 f6:=⟨Tryz.f208.name,by decide,Tryz.func208.trans (congrArg some (by kernel_rfl))⟩
 f14:=⟨Tryz.f244.name,by decide,Tryz.func244.trans (congrArg some (by kernel_rfl))⟩
 f15:=Tryz.func144.trans (congrArg some (by kernel_rfl))
 f20:=⟨Tryz.f276.name,by decide,Tryz.func276.trans (congrArg some (by kernel_rfl))⟩
 f21:=⟨Tryz.f277.name,by decide,Tryz.func277.trans (congrArg some (by kernel_rfl))⟩
 f22:=⟨Tryz.f278.name,by decide,Tryz.func278.trans (congrArg some (by kernel_rfl))⟩
 f23:=⟨Tryz.f279.name,by decide,Tryz.func279.trans (congrArg some (by kernel_rfl))⟩
 f24:=⟨Tryz.f280.name,by decide,Tryz.func280.trans (congrArg some (by kernel_rfl))⟩
 f25:=⟨Tryz.f281.name,by decide,Tryz.func281.trans (congrArg some (by kernel_rfl))⟩
 f26:=⟨Tryz.f282.name,by decide,Tryz.func282.trans (congrArg some (by kernel_rfl))⟩
 f27:=⟨Tryz.f283.name,by decide,Tryz.func283.trans (congrArg some (by kernel_rfl))⟩
 f28:=Tryz.func206.trans (congrArg some (by kernel_rfl))
 f29:=Tryz.func207.trans (congrArg some (by kernel_rfl))
 f46:=⟨Tryz.f309.name,by decide,Tryz.func309.trans (congrArg some (by kernel_rfl))⟩
 f47:=Tryz.func247.trans (congrArg some (by kernel_rfl))
 f48:=Tryz.func248.trans (congrArg some (by kernel_rfl))
 f49:=⟨Tryz.f310.name,by decide,Tryz.func310.trans (congrArg some (by kernel_rfl))⟩
 f50:=⟨Tryz.f311.name,by decide,Tryz.func311.trans (congrArg some (by kernel_rfl))⟩
 f57:=⟨Tryz.f328.name,by decide,Tryz.func328.trans (congrArg some (by kernel_rfl))⟩
 t0:=Tryz.underlying0
 a0:=Tryz.isAgg0
 z0:=Tryz.sizeOf0
 v0:=Tryz.zeroValue0
 t3:=Tryz.underlying3
 a3:=Tryz.isAgg3
 z3:=Tryz.sizeOf3
 v3:=Tryz.zeroValue3
 t4:=Tryz.underlying4
 a4:=Tryz.isAgg4
 z4:=Tryz.sizeOf4
 v4:=Tryz.zeroValue4
 t5:=Tryz.underlying5
 a5:=Tryz.isAgg5
 z5:=Tryz.sizeOf5
 v5:=Tryz.zeroValue5
 t9:=Tryz.underlying9
 a9:=Tryz.isAgg9
 z9:=Tryz.sizeOf9
 v9:=Tryz.zeroValue9
 t22:=Tryz.underlying177
 a22:=Tryz.isAgg177
 z22:=Tryz.sizeOf177
 v22:=Tryz.zeroValue177
 a24:=Tryz.isAgg3
 z24:=Tryz.sizeOf3
 t25:=Tryz.underlying38
 a25:=Tryz.isAgg38
 z25:=Tryz.sizeOf38
 v25:=Tryz.zeroValue38
 t39:=Tryz.underlying176
 a39:=Tryz.isAgg176
 z39:=Tryz.sizeOf176
 v39:=Tryz.zeroValue176
 t45:=Tryz.underlying230
 a45:=Tryz.isAgg230
 z45:=Tryz.sizeOf230
 v45:=Tryz.zeroValue230
 t46:=Tryz.underlying231
 a46:=Tryz.isAgg231
 z46:=Tryz.sizeOf231
 v46:=Tryz.zeroValue231
 t50:=Tryz.underlying169
 a50:=Tryz.isAgg169
 z50:=Tryz.sizeOf169
 v50:=Tryz.zeroValue169
 t53:=Tryz.underlying224
 a53:=Tryz.isAgg224
 z53:=Tryz.sizeOf224
 v53:=Tryz.zeroValue224
 t55:=Tryz.underlying226
 a55:=Tryz.isAgg226
 z55:=Tryz.sizeOf226
 v55:=Tryz.zeroValue226
 t66:=Tryz.underlying262
 a66:=Tryz.isAgg262
 z66:=Tryz.sizeOf262
 v66:=Tryz.zeroValue262
 t70:=Tryz.underlying266
 a70:=Tryz.isAgg266
 z70:=Tryz.sizeOf266
 v70:=Tryz.zeroValue266
 t76:=Tryz.underlying292
 a76:=Tryz.isAgg292
 z76:=Tryz.sizeOf292
 v76:=Tryz.zeroValue292
 t77:=Tryz.underlying293
 a77:=Tryz.isAgg293
 z77:=Tryz.sizeOf293
 v77:=Tryz.zeroValue293 }
end Go.Proofs
namespace Go.Proofs.YtffdoiokmiklgaaGreatDoor
open Go.RowKit Go.Sort Go.Shelf Go.Lib
theorem cfR_neg (rs:List Rum) (i k:Nat):cfR rs i k < 0↔(rs.getD i dr).told < (rs.getD k dr).told∨((rs.getD i dr).told=(rs.getD k dr).told∧k < i):=by
 unfold cfR orZ cmpZ
 generalize (rs.getD i dr).told=a
 generalize (rs.getD k dr).told=b
 repeat' split
 all_goals omega
def cfF (rs:List Rum) (m:Nat) (x y:Fin (m+1)):Int:=cfR rs x.val y.val
theorem ltF (rs:List Rum) (m:Nat) (x y:Fin (m+1)):ltOf (cfF rs m) x y=true↔(rs.getD x.val dr).told < (rs.getD y.val dr).told∨((rs.getD x.val dr).told=(rs.getD y.val dr).told∧y.val < x.val):=by
 unfold ltOf cfF
 rw [decide_eq_true_iff,cfR_neg]
theorem ltF_false (rs:List Rum) (m:Nat) (x y:Fin (m+1)):ltOf (cfF rs m) x y=false↔¬ ((rs.getD x.val dr).told < (rs.getD y.val dr).told∨((rs.getD x.val dr).told=(rs.getD y.val dr).told∧y.val < x.val)):=by
 rw [← ltF,Bool.not_eq_true]
theorem swoF (rs:List Rum) (m:Nat):SWO (ltOf (cfF rs m)) where
 irrefl x:=by rw [ltF_false];omega
 trans x y z h1 h2:=by rw [ltF] at *;omega
 ntrans x y z h1 h2:=by rw [ltF_false] at *;omega
def encF (m:Nat) (x:Fin (m+1)):Value:=.int .i64 (x.val:Nat)
def allF (m:Nat):Array (Fin (m+1)):=Array.ofFn (fun x=>x)
theorem allF_size (m:Nat):(allF m).size=m+1:=by simp [allF]
theorem allF_get (m j:Nat) (hj:j < m+1):(allF m)[j]! = ⟨j,hj⟩:=by
 rw [getElem!_pos _ j (by rw [allF_size];exact hj)]
 simp [allF]
theorem allF_vals (m:Nat):(allF m).toList.map (·.val)=List.range (m+1):=by
 apply List.ext_getElem
 ·simp [allF]
 ·intro j h1 h2
  rw [List.getElem_map,List.getElem_range,Array.getElem_toList]
  simp only [allF,Array.getElem_ofFn]
theorem alloc_grow (W:World) (o:Obj):(W.alloc o).drew=grow (W.drewN 1) #[o]:=by
 simp only [grow,World.alloc,World.drew,World.drewN,Array.push_eq_append]
theorem cmpF (rs:List Rum) (m lb b off ca g:Nat) (w:World) (hn:rs.length=m+1) (hr:RRow w b off rs) (hl:w.cell? ⟨lb,0,none⟩=some (.slice (some ⟨b,off,none⟩) (m+1) ca)) (h1:lb≠g) (h2:b≠g) (hb:b < w.heap.size) :
 CmpLays1 Tryz.prog 209 #[.pointer (some ⟨lb,0,none⟩)] (encF m) (cfF rs m) g 0 (allF m).size w:=by
 intro q os dk hs x y
 have hlb:lb < w.heap.size:=World.block_lt_of_cell? w _ hl
 have c1:=(cell?_sortWorld_other (encF m) w g 0 q dk os ⟨lb,0,none⟩ h1 hlb).trans hl
 have c2:=(cell?_sortWorld_other (encF m) w g 0 q dk os ⟨b,off+x.val * 6+5,none⟩ h2 hb).trans (hr x.val (by rw [hn];exact x.isLt)).2.2.2.2.2
 have c3:=(cell?_sortWorld_other (encF m) w g 0 q dk os ⟨b,off+y.val * 6+5,none⟩ h2 hb).trans (hr y.val (by rw [hn];exact y.isLt)).2.2.2.2.2
 refine (turnF_any _ _ lb b off (m+1) ca x.val y.val _ c1 x.isLt y.isLt c2 c3).mono ?_
 rintro e w' ⟨rfl,rfl⟩
 exact ⟨rfl,1,_,alloc_grow _ _⟩
theorem isOrd_of {rs:List Rum} {m:Nat} {d':Array (Fin (m+1))} (hn:rs.length=m+1) (hp:PermIn 0 (allF m).size (allF m) d') (hs:SortedIn (ltOf (cfF rs m)) 0 (allF m).size d'):IsOrd rs (d'.toList.map (·.val)):=by
 obtain ⟨hsz,_,hperm⟩:=hp
 rw [Array.extract_size,show d'.extract 0 (allF m).size=d' by rw [← hsz,Array.extract_size]] at hperm
 have hP:(d'.toList.map (·.val)).Perm (List.range rs.length):=by
  rw [hn,← allF_vals]
  exact hperm.map _
 have hlen:(d'.toList.map (·.val)).length=m+1:=by rw [hP.length_eq,hn];simp
 have hnd:(d'.toList.map (·.val)).Nodup:=hP.nodup_iff.2 List.nodup_range
 refine ⟨hP,fun i j hij hj=>?_⟩
 have hds:d'.size=m+1:=by rw [hsz,allF_size]
 have hj':j < d'.size:=by rw [hds];omega
 have hi':i < d'.size:=by omega
 have e1:(d'.toList.map (·.val)).getD i 0=d'[i].val:=by rw [ord_get (by omega)];simp
 have e2:(d'.toList.map (·.val)).getD j 0=d'[j].val:=by rw [ord_get hj];simp
 have hne:(d'.toList.map (·.val))[i]'(by omega)≠(d'.toList.map (·.val))[j]'hj:=List.pairwise_iff_getElem.1 hnd i j (by omega) hj hij
 simp only [List.getElem_map,Array.getElem_toList] at hne
 have h:=hs i j (by omega) hij (by rw [allF_size];omega)
 rw [getElem!_pos d' j hj',getElem!_pos d' i hi',ltF_false] at h
 rw [e1,e2,cfR_neg]
 omega
abbrev intL (k:Nat):List Value:=(List.range k).map (fun j=>Value.int .i64 (j:Nat))
theorem intL_succ (k:Nat):intL (k+1)=intL k++[.int .i64 (k:Nat)]:=by simp [intL,List.range_succ]
theorem below_sortWorld {m:Nat} {B:Nat} {w:World} {g off n:Nat} {d:Array (Fin (m+1))} {os:Array Obj} (hg:B≤g) (hB:B≤w.heap.size):Below B w (sortWorld (encF m) w g off n d os):=by
 refine ⟨rfl,rfl,rfl,by simp [sortWorld,putRow,mapBlock,Go.Sort.ahead,grow],fun k hk=>?_⟩
 unfold sortWorld
 rw [heap_grow_old _ _ (by simp [putRow,mapBlock,Go.Sort.ahead];omega)]
 have:g≠k:=by omega
 simp [putRow,mapBlock,Go.Sort.ahead,Array.getElem?_modify,this]
set_option maxHeartbeats 3200000 in
set_option maxRecDepth 100000 in
theorem turns_some (rs:List Rum) (v:Value) (m:Nat) (hn:rs.length=m+1) (hsm:m < 1000):TurnsSays rs v:=by
 intro w hv
 obtain ⟨i0,hi0,hz0,hzs,hzb⟩:=info_parts Tryz.infoI
 obtain ⟨pa,ca,rfl,_,ha⟩:=hv
 obtain ⟨b,off,hpa,hlb,hr⟩:∃ b off,pa=some ⟨b,off,none⟩∧b < w.heap.size∧RRow w b off rs:=by
  rcases ha with h | h
  ·rw [h] at hn;simp at hn
  ·exact h
 subst hpa
 have HR:Hid (RRow w b off rs):=hr
 have HN:Hid (rs.length=m+1):=hn
 rw [hn]
 clear ha hr hn
 have eg:∀ args w,(callFunc 209 args).run Tryz.prog w=.ok (.enter 209 args) w:=enters_of Tryz.func209 (by kernel_rfl) rfl
 have HEG:Hid (∀ args w,(callFunc 209 args).run Tryz.prog w=.ok (.enter 209 args) w):=eg
 clear eg
 go_enter Tryz.func145,Tryz.ntmps145
 go_wp2_with fail
 go_loopw [3,7] (fun o i wr=>∃ k:Nat,k≤m+1∧i=.int .i64 k∧Hid (wr.ownsRow (w.heap.size+1) 3 1 o k (intL k))∧Hid (Below (w.heap.size+1) (w.alloc (.cells #[.slice (some ⟨b,off,none⟩) (m+1) ca] 46)) wr)) (fun _ i _=>m+1 - (intOf i).toNat)
 case atStart=>exact ⟨0,Nat.zero_le _,rfl,World.ownsRow_nil _ _ _ _,Below.refl _ _⟩
 case round=>
  obtain ⟨k,hk,rfl,HO,HB⟩:=hrel
  have hsz:w.heap.size+1≤wr.heap.size:=by have:=HB.out.size;simpa using this
  by_cases hlt:k < m+1
  ·have HO2:Hid (∀ ob,(wr.alloc ob).ownsRow (w.heap.size+1) 3 1 u3 k (intL k)):=fun ob=>by
    obtain ⟨h1,h2⟩:=HO.out
    refine ⟨h1,?_⟩
    rcases h2 with h2 | ⟨g,c,cur,hv,hbg,hg,hr⟩
    ·exact .inl h2
    ·exact .inr ⟨g,c,cur,hv,hbg,by rw [((Below.refl wr.heap.size wr).alloc (Nat.le_refl _) ob).block g (Array.getElem?_eq_some_iff.1 hg).1];exact hg,hr⟩
   have HLT:Hid (∀ j,u3.ownBlock=some j→w.heap.size+1≤j):=fun j hj=>(World.ownsRow.lt HO.out j hj).1
   clear HO
   go_wp2_with (at_builtin;refine wpList_append_own _ rfl _ _ 177 rfl (w.heap.size+1) 3 i0 _ 1 8 Tryz.underlying177 hi0 hz0 hzs hzb rfl (by omega) _ k (intL k) rfl ?hown ⟨wr.heap.size,0,none⟩ 1 1 [.int .i64 k] rfl rfl ?hnews (by simp [Value.oneCell']) ?h63 ?hbytes ?hbase ?_)
   case hown=>exact HO2.out _
   case hnews=>(intro j u hj;rw [Addr.add_lit];exact (cell_top' rfl).trans (by simpa using hj))
   case h63=>(unfold maxLen;omega)
   case hbytes=>omega
   case hbase=>(simp;omega)
   intro v' w2 r1 r2 r3
   have R1:Hid (w2.ownsRow (w.heap.size+1) 3 1 v' (k+1) (intL (k+1))):=by rw [intL_succ];exact r1
   have R2:Hid (Below (w.heap.size+1) (w.alloc (.cells #[.slice (some ⟨b,off,none⟩) (m+1) ca] 46)) w2):=
    (HB.out.alloc hsz _).grown r2 (by simp;omega) (fun j hj=>HLT.out j hj)
   clear r1 r2 r3
   go_wp2_with fail
   exact ⟨⟨k+1,by omega,by go_num,R1.out,R2.out⟩,by simp [intOf];omega⟩
  ·have hkn:k=m+1:=by omega
   subst hkn
   obtain ⟨g,c,hu3,hbg,hcm,hcell,hfz⟩:∃ g c,u3=.slice (some ⟨g,0,none⟩) (m+1) c∧w.heap.size+1≤g∧m+1≤c∧(∀ j,j < m+1→wr.cell? ⟨g,j,none⟩=some (.int .i64 (j:Nat)))∧(∀ j,wr.frozen? ⟨g,j,none⟩=false):=by
    have hO:=HO.out
    rcases HO.out.2 with ⟨_,h0⟩ | ⟨g,c,cur,hv,hbg,hg,hnc,hcm,hcs,htake⟩
    ·omega
    ·subst hv
     refine ⟨g,c,rfl,hbg,hnc,fun j hj=>?_,fun j=>World.ownsRow.frozenAt hO j⟩
     rw [World.ownsRow.cellAt hO j (by omega)]
     simp [intL,hj]
   subst hu3
   have hgw:g < wr.heap.size:=World.block_lt_of_cell? wr ⟨g,0,none⟩ (hcell 0 (by omega))
   have hlbx:wr.cell? ⟨w.heap.size,0,none⟩=some (.slice (some ⟨b,off,none⟩) (m+1) ca):=by
    rw [HB.out.cell (p:=⟨w.heap.size,0,none⟩) (by simp only;omega)];exact cell_top' rfl
   have hrow:RRow wr b off rs:=(HR.out.below ((Below.refl w.heap.size w).alloc (Nat.le_refl _) _) hlb).below HB.out (by omega)
   have hcon:=Any.slices_SortFunc Tryz.sortI (encF m) (fun _=>rfl) (cfF rs m) (swoF rs m) 209 #[.pointer (some ⟨w.heap.size,0,none⟩)] g 0 c (allF m) wr HEG.out (cmpF rs m w.heap.size b off ca g wr HN.out hrow hlbx (by omega) (by omega) (by omega)) (fun j hj=>by
    rw [allF_size] at hj
    rw [allF_get m j hj,Nat.zero_add]
    exact ⟨hcell j hj,hfz j⟩) hgw (by rw [allF_size];omega)
   have hcon2:Calls Tryz.prog 208 #[.slice (some ⟨g,0,none⟩) (m+1) c,.func (.func 209) #[] #[.pointer (some ⟨w.heap.size,0,none⟩)]] wr fun e w'=>e=.returned (.tuple #[])∧∃ d' n os,PermIn 0 (allF m).size (allF m) d'∧SortedIn (ltOf (cfF rs m)) 0 (allF m).size d'∧w'=sortWorld (encF m) wr g 0 n d' os:=by
    have h:=hcon
    rw [show Value.slice (some ⟨g,0,none⟩) (allF m).size c=Value.slice (some ⟨g,0,none⟩) (m+1) c by rw [allF_size]] at h
    exact h
   have HHH:Hid (Holds (encF m) wr g 0 (allF m)):=fun j hj=>by
    rw [allF_size] at hj
    rw [allF_get m j hj,Nat.zero_add]
    exact ⟨hcell j hj,hfz j⟩
   clear hcon hcell hfz hrow HO
   go_wp2_with fail
   refine hcon2.mono ?_
   rintro e w2 ⟨rfl,d',nd,os,hp,hs,hw2⟩
   have HORD:Hid (IsOrd rs (d'.toList.map (·.val))):=isOrd_of HN.out hp hs
   have hds:d'.size=m+1:=by rw [hp.1,allF_size]
   have HCT:Hid (∀ j,j < m+1→w2.cell? ⟨g,j,none⟩=some (.int .i64 ((d'.toList.map (·.val)).getD j 0:Nat))):=fun j hj=>by
    have h1:=cell?_putRow (encF m) (Go.Sort.ahead wr nd) g 0 (allF m) d' (show Holds (encF m) (Go.Sort.ahead wr nd) g 0 (allF m) from HHH.out) hp.1 j (by omega)
    have h2:w2.cell? ⟨g,0+j,none⟩=(putRow (encF m) (Go.Sort.ahead wr nd) g 0 d').cell? ⟨g,0+j,none⟩:=by
     rw [hw2]
     exact cell?_grow _ _ _ (by
      have h3:=World.block_lt_of_cell? (putRow (encF m) (Go.Sort.ahead wr nd) g 0 d') ⟨g,0+j,none⟩ h1
      exact h3)
    rw [Nat.zero_add] at h1 h2
    rw [h2,h1,getElem!_pos d' j (by omega)]
    simp [encF,List.getD,hds,hj]
   have HBB:Hid (Below w.heap.size w w2):=by
    rw [hw2]
    exact (((Below.refl w.heap.size w).alloc (Nat.le_refl _) _).trans (HB.out.mono (Nat.le_succ _))).trans (below_sortWorld (by omega) (by omega))
   clear HHH hp hs hw2
   go_wp2_with fail
   go_ret
   exact ⟨g,c,d'.toList.map (·.val),rfl,HORD.out,HCT.out,hcm,by omega,HBB.out⟩
end Go.Proofs.YtffdoiokmiklgaaGreatDoor
namespace Go.Proofs.YtffdoiokmiklgaaGreatDoor
open Go.RowKit Go.Sort Go.Lib
def cfM (a b:Mem):Int:=cmpI a.name b.name
set_option maxHeartbeats 1000000 in
theorem tellF_any (x y:Mem) (W:World):Calls Tryz.prog 98 #[.agg #[.string x.name,.int .i64 x.state,.int .i64 x.life,.int .i64 x.addr,.bool x.server],.agg #[.string y.name,.int .i64 y.state,.int .i64 y.life,.int .i64 y.addr,.bool y.server]] W fun e w'=>e=.returned (.int .i64 (cfM x y))∧∃ q os',w'=grow (W.drewN q) os':=by
 unfold cfM
 go_enter Tryz.func98,Tryz.ntmps98
 go_wp2_with (go_at_call 99;refine (compare_any _ _ _).mono ?_;rintro e w' ⟨rfl,rfl⟩)
 go_ret
 exact ⟨rfl,0,_,by rw [alloc_eq_grow,alloc_eq_grow,grow_grow];rfl⟩
theorem cmpLaysM [Inhabited Mem] (blk off size:Nat) (w:World):CmpLays Tryz.prog 98 #[] Mem.cs 5 cfM blk off size w:=fun _ _ _ _ x y=>tellF_any x y _
theorem swoM:SWO (ltOf cfM) where
 irrefl x:=by simp [ltOf,cfM,(cmpI_eq x.name x.name).2 rfl]
 trans x y z:=by
  simp only [ltOf,cfM,decide_eq_true_eq,cmpI_lt]
  exact fun h1 h2=>less_trans h1 h2
 ntrans x y z:=by
  intro h1 h2
  have h1:¬ cmpI x.name y.name < 0:=of_decide_eq_false h1
  have h2:¬ cmpI y.name z.name < 0:=of_decide_eq_false h2
  refine decide_eq_false fun h3=>?_
  have h3:cmpI x.name z.name < 0:=h3
  rcases Int.lt_trichotomy (cmpI x.name y.name) 0 with h | h | h
  ·exact h1 h
  ·have e:x.name=y.name:=(cmpI_eq _ _).1 h
   rw [e] at h3;exact h2 h3
  ·have h4:less y.name x.name=true:=(cmpI_gt _ _).1 h
   exact h2 ((cmpI_lt _ _).2 (less_trans h4 ((cmpI_lt _ _).1 h3)))
theorem holds_own [Inhabited Mem] {base:Nat} {w:World} {g c:Nat} {l:List Mem} (h:Own base w (.slice (some ⟨g,0,none⟩) l.length c) l):HoldsK Mem.cs 5 w g 0 l.toArray:=by
 rcases h.2 with ⟨h1,_⟩ | ⟨g',c',cur,h1,hbg,hg,hnc,hcm,hcs,htake⟩
 ·cases h1
 ·simp only [Value.slice.injEq,Option.some.injEq,Addr.mk.injEq] at h1
  obtain ⟨⟨rfl,_,_⟩,_,_⟩:=h1
  intro j hj
  rw [size_flatK] at hj
  have hj':j < l.length * 5:=by simpa using hj
  refine ⟨?_,frozen_of hg _⟩
  rw [cellsAt hg,Nat.zero_add,get_flatK Mem.cs 5 l.toArray j (by simpa using hj')]
  have e1:=fl_get l (j / 5) (by omega) (j%5) (by omega)
  rw [show j / 5 * 5+j%5=j by omega] at e1
  have e2:cur[j]?=(fl l)[j]?:=by rw [← htake,List.getElem?_take_of_lt (by omega)];simp
  rw [e2,e1]
  have e3:l.toArray[j / 5]! = l.getD (j / 5) dm:=by
   have hlt:j / 5 < l.length:=by omega
   simp [List.getD,hlt]
  rw [e3]
  have hl:j%5 < (l.getD (j / 5) dm).cs.length:=by rw [cs_len];omega
  rw [List.getElem?_eq_getElem hl,getElem!_pos (l.getD (j / 5) dm).cs (j%5) hl]
  rfl
theorem block_sortK [Inhabited Mem] {w:World} {g m:Nat} {d:Array Mem} {os:Array Obj} {cur:Array Value} {T:TypeId} {fr:Nat × Nat} (hg:w.heap[g]?=some (.cells cur T fr)) :
 (sortWorldK Mem.cs 5 w g 0 m d os).heap[g]?=some (.cells (putCells id 0 (flatK Mem.cs 5 d) cur) T fr):=by
 have hlt:g < w.heap.size:=(Array.getElem?_eq_some_iff.1 hg).1
 have hlt2:g < (putRowK Mem.cs 5 (Sort.ahead w m) g 0 d).heap.size:=by
  show g < (putRow id (Sort.ahead w m) g 0 _).heap.size
  rw [size_putRow];exact hlt
 show ((putRowK Mem.cs 5 (Sort.ahead w m) g 0 d).heap++os)[g]?=_
 rw [Array.getElem?_append_left hlt2]
 show (w.heap.modify g (onCells (putCells id 0 (flatK Mem.cs 5 d))))[g]?=_
 rw [Array.getElem?_modify,if_pos rfl,hg]
 rfl
theorem own_sorted [Inhabited Mem] {base:Nat} {w:World} {g c m:Nat} {l:List Mem} {os:Array Obj} (h:Own base w (.slice (some ⟨g,0,none⟩) l.length c) l) (d:Array Mem) (hs:d.size=l.length) :
 Own base (sortWorldK Mem.cs 5 w g 0 m d os) (.slice (some ⟨g,0,none⟩) l.length c) d.toList:=by
 rcases h.2 with ⟨h1,_⟩ | ⟨g',c',cur,h1,hbg,hg,hnc,hcm,hcs,htake⟩
 ·cases h1
 ·simp only [Value.slice.injEq,Option.some.injEq,Addr.mk.injEq] at h1
  obtain ⟨⟨rfl,_,_⟩,_,rfl⟩:=h1
  have hl:d.toList.length=l.length:=by simpa using hs
  have ho:Own base (sortWorldK Mem.cs 5 w g 0 m d os) (.slice (some ⟨g,0,none⟩) d.toList.length c) d.toList:=by
   refine own_of hbg (block_sortK hg) (by simp [putCells,hcs]) (by omega) hcm ?_
   apply List.ext_getElem?
   intro t
   by_cases ht:t < d.toList.length * 5
   ·have htc:t < cur.size:=by rw [hcs];have:l.length * 5≤c * 5:=Nat.mul_le_mul_right 5 hnc;omega
    rw [List.getElem?_take_of_lt ht]
    have e1:=fl_get d.toList (t / 5) (by omega) (t%5) (by omega)
    rw [show t / 5 * 5+t%5=t by omega] at e1
    rw [e1]
    have hsz:t < d.size * 5:=by simpa using ht
    have e2:(putCells id 0 (flatK Mem.cs 5 d) cur).toList[t]?=some (flatK Mem.cs 5 d)[t]! := by
     simp only [putCells,Array.getElem?_toList,Array.getElem?_mapIdx,Array.getElem?_eq_getElem htc,Option.map_some]
     rw [if_pos ⟨Nat.zero_le _,by rw [size_flatK];omega⟩]
     rfl
    rw [e2,get_flatK Mem.cs 5 d t hsz]
    have e3:d[t / 5]! = d.toList.getD (t / 5) dm:=by
     have hlt:t / 5 < d.size:=by omega
     simp [List.getD,hlt]
    rw [e3]
    have hl2:t%5 < (d.toList.getD (t / 5) dm).cs.length:=by rw [cs_len];omega
    rw [List.getElem?_eq_getElem hl2,getElem!_pos (d.toList.getD (t / 5) dm).cs (t%5) hl2]
   ·rw [List.getElem?_eq_none (by rw [List.length_take];omega),List.getElem?_eq_none (by rw [fl_len];omega)]
  rw [← hl];exact ho
theorem hlenM (n:Nat) (W:World) (h:n≤12):Calls Tryz.prog 144 #[.int .u64 n] W fun e w'=>(∃ l:Int,e=.returned (.int .i64 l))∧w'=W:=
 (Tryz.bits_Len n W (by omega) (by omega)).mono fun _ _ ⟨he,hw⟩=>⟨⟨_,he⟩,hw⟩
theorem below_sortK [Inhabited Mem] {B:Nat} {w:World} {g n:Nat} {d:Array Mem} {os:Array Obj} (hg:B≤g) (hB:B≤w.heap.size):Go.RowKit.Below B w (sortWorldK Mem.cs 5 w g 0 n d os):=by
 refine ⟨rfl,rfl,rfl,by simp [sortWorldK,putRowK,putRow,mapBlock,Go.Sort.ahead,grow],fun k hk=>?_⟩
 unfold sortWorldK
 rw [heap_grow_old _ _ (by simp [putRowK,putRow,mapBlock,Go.Sort.ahead];omega)]
 have:g≠k:=by omega
 simp [putRowK,putRow,mapBlock,Go.Sort.ahead,Array.getElem?_modify,this]
theorem sh_sortK [Inhabited Mem] {w:World} {g n:Nat} {d:Array Mem} {os:Array Obj}:Sh (fun k=>k=g) w (sortWorldK Mem.cs 5 w g 0 n d os):=by
 refine ⟨rfl,rfl,rfl,by simp [sortWorldK,putRowK,putRow,mapBlock,Go.Sort.ahead,grow],fun k hk hne=>?_⟩
 unfold sortWorldK
 rw [heap_grow_old _ _ (by simp [putRowK,putRow,mapBlock,Go.Sort.ahead];omega)]
 have:g≠k:=fun e=>hne e.symm
 simp [putRowK,putRow,mapBlock,Go.Sort.ahead,Array.getElem?_modify,this]
def SortM (l:List Mem):Prop:=∀ i j,i < j→j < l.length→0≤cmpI (l.getD j dm).name (l.getD i dm).name
set_option maxHeartbeats 1600000 in
theorem sortM_some (base:Nat) (l:List Mem) (g c:Nat) (w:World) (h:Own base w (.slice (some ⟨g,0,none⟩) l.length c) l) (hb:base≤w.heap.size) (hl:l.length≤12) :
 Calls Tryz.prog 97 #[.slice (some ⟨g,0,none⟩) l.length c,.func (.func 98) #[] #[]] w fun e w'=>e=.returned (.tuple #[])∧∃ l':List Mem,l'.Perm l∧SortM l'∧Own base w' (.slice (some ⟨g,0,none⟩) l.length c) l'∧Go.RowKit.Below base w w'∧Sh (fun k=>k=g) w w':=by
 have eg:∀ args w,(callFunc 98 args).run Tryz.prog w=.ok (.enter 98 args) w:=enters_of Tryz.func98 (by kernel_rfl) rfl
 have hgl:=h.lt g rfl
 have hinh:Inhabited Mem:=⟨dm⟩
 have hcon:=AnyQ.slices_SortFunc_small_sorted Tryz.sortM 5 Tryz.isAgg56 Tryz.sizeOf56 Mem.cs cs_len cs_one cfM 98 #[] swoM g 0 c l.toArray w eg (cmpLaysM g 0 _ w) (holds_own h) hgl.2 (by simpa using hl) hlenM
 rw [List.size_toArray] at hcon
 refine Calls.mono hcon ?_
 rintro e w' ⟨rfl,d,n,os,hp,hs,rfl⟩
 obtain ⟨p1,_,p3⟩:=hp
 have hsz:d.size=l.length:=by simpa using p1
 refine ⟨rfl,d.toList,?_,fun i j hij hj=>?_,own_sorted h d hsz,below_sortK hgl.1 hb,sh_sortK⟩
 ·have e1:d.extract 0 l.length=d:=by rw [← hsz];simp
  have e2:l.toArray.extract 0 l.length=l.toArray:=by simp
  rw [e1,e2] at p3
  simpa using p3
 ·have hj':j < d.size:=by simpa using hj
  have h2:=hs i j (Nat.zero_le _) hij (by rw [← hsz];exact hj')
  have h3:¬ cmpI (d[j]!).name (d[i]!).name < 0:=of_decide_eq_false h2
  have e1:d[j]! = d.toList.getD j dm:=by simp [List.getD,hj']
  have e2:d[i]! = d.toList.getD i dm:=by simp [List.getD,show i < d.size by omega]
  rw [e1,e2] at h3
  omega
set_option maxHeartbeats 800000 in
theorem insM_none (f:Value) (w:World) :
 Calls Tryz.prog 212 #[.slice none 0 0,.int .i64 0,.int .i64 0,f] w fun e w'=>e=.returned (.tuple #[])∧w'=w:=by
 go_enter Tryz.func212,Tryz.ntmps212
 go_wp2_with fail
 refine wp_loop_rounds 1 ?_
 rw [rounds_succ]
 go_wp2_with fail
 go_end0
 exact ⟨rfl,rfl⟩
set_option maxHeartbeats 1600000 in
theorem pdqM_none (k:Int) (f:Value) (w:World) :
 Calls Tryz.prog 148 #[.slice none 0 0,.int .i64 0,.int .i64 0,.int .i64 k,f] w fun e w'=>e=.returned (.tuple #[])∧w'=w:=by
 go_enter Tryz.func148,Tryz.ntmps148
 go_wp2_with fail
 refine wp_loop_rounds 1 ?_
 rw [rounds_succ]
 go_wp2_with (go_at_call 212;refine (insM_none _ _).mono ?_;rintro e w' ⟨rfl,rfl⟩)
 (try simp only [Exit.inBlock,Exit.then]);refine bodyPost_ret (results_none rfl _ _ _) rfl ?_
 exact ⟨rfl,rfl⟩
set_option maxHeartbeats 800000 in
theorem sortM_none (f:Value) (w:World) :
 Calls Tryz.prog 97 #[.slice none 0 0,f] w fun e w'=>e=.returned (.tuple #[])∧w'=w:=by
 go_enter Tryz.func97,Tryz.ntmps97
 go_wp2_with (go_at_call 144;refine (Tryz.bits_Len _ _ (by omega) (by omega)).mono ?_;rintro e w' ⟨rfl,rfl⟩)
 refine (pdqM_none _ _ _).mono ?_
 rintro e w' ⟨rfl,rfl⟩
 go_wp2_with fail
 go_end0
 exact ⟨rfl,rfl⟩
theorem sortM_any (base:Nat) (l:List Mem) (v:Value) (w:World) (h:Own base w v l) (hb:base≤w.heap.size) (hl:l.length≤12) :
 Calls Tryz.prog 97 #[v,.func (.func 98) #[] #[]] w fun e w'=>e=.returned (.tuple #[])∧∃ l':List Mem,l'.Perm l∧SortM l'∧Own base w' v l'∧Go.RowKit.Below base w w'∧Sh (fun k=>v.ownBlock=some k) w w':=by
 rcases h.2 with ⟨h1,h2⟩ | ⟨g,c,cur,h1,_⟩
 ·subst h1
  have he:l=[]:=List.eq_nil_of_length_eq_zero h2
  subst he
  refine (sortM_none _ w).mono ?_
  rintro e w' ⟨rfl,rfl⟩
  exact ⟨rfl,[],.refl _,fun i j _ hj=>by simp at hj,own_nil _ _,Go.RowKit.Below.refl _ _,Sh.refl _ _⟩
 ·subst h1
  refine (sortM_some base l g c w h hb hl).mono ?_
  rintro e w' ⟨rfl,l',h1,h2,h3,h4,h5⟩
  exact ⟨rfl,l',h1,h2,h3,h4,h5.mono (fun k hk=>by rw [hk];rfl)⟩
end Go.Proofs.YtffdoiokmiklgaaGreatDoor
namespace Go.Proofs.YtffdoiokmiklgaaGreatDoor
open Go.RowKit Go.Sort Go.Shelf Go.Lib
set_option maxHeartbeats 1600000 in
theorem turns_none (v:Value) (w:World) (hv:RSl w v []) :
 Calls Tryz.prog 145 #[v] w fun e w'=>e=.returned (.slice none 0 0)∧Below w.heap.size w w':=by
 obtain ⟨pa,ca,rfl,_,_⟩:=hv
 simp only [List.length_nil]
 have hs:=fun (fv:Value) (W:World)=>AnyF.slices_SortFunc_none (P:=Tryz.prog) (ρ:=Tryz.sortI_ren) { Tryz.sortI with } none 0 fv W
 have HS:Hid (∀ (fv:Value) (W:World),Calls Tryz.prog 208 #[.slice none 0 0,fv] W fun e w'=>e=.returned (.tuple #[])∧w'=W):=hs
 clear hs
 have hB0:Below w.heap.size w (w.alloc (.cells #[.slice pa 0 ca] 46)):=(Below.refl _ _).alloc (Nat.le_refl _) _
 go_enter Tryz.func145,Tryz.ntmps145
 go_wp2_with fail
 refine wp_loop_rounds 1 ?_
 rw [rounds_succ]
 go_wp2_with fail
 refine (HS.out _ _).mono ?_
 rintro e w' ⟨rfl,rfl⟩
 go_wp2_with fail
 go_ret
 exact ⟨rfl,hB0⟩
set_option maxHeartbeats 1600000 in
theorem indexFunc_none (p:Option Addr) (c:Nat) (fv:Value) (w:World) :
 Calls Tryz.prog 189 #[.slice p 0 c,fv] w fun e w'=>e=.returned (.int .i64 (-1))∧w'=w:=by
 go_enter Tryz.func189,Tryz.ntmps189
 go_wp2_with fail
 refine wp_loop_rounds 1 ?_
 rw [rounds_succ]
 go_wp2_with fail
 go_ret
 exact ⟨rfl,rfl⟩
set_option maxHeartbeats 1600000 in
theorem deleteFunc_none (p:Option Addr) (c:Nat) (fv:Value) (w:World) :
 Calls Tryz.prog 146 #[.slice p 0 c,fv] w fun e w'=>e=.returned (.slice p 0 c)∧w'=w:=by
 go_enter Tryz.func146,Tryz.ntmps146
 go_wp2_with fail
 refine (indexFunc_none _ _ _ _).mono ?_
 rintro e w' ⟨rfl,rfl⟩
 go_wp2_with fail
 go_ret
 exact ⟨rfl,rfl⟩
set_option maxHeartbeats 1600000 in
theorem take_none (v:Value) (most times:Int) (w:World) (hv:RSl w v []) (h0:chkR []=0) (hm:within most 1 20=true) (ht:within times 1 100=true) :
 Calls Tryz.prog 96 #[v,.int .i64 most,.int .i64 times] w fun e w'=>∃ v1 v2,e=.returned (.tuple #[v1,v2,.int .i64 0])∧Own w.heap.size w' v1 []∧ROwn w.heap.size w' v2 []∧Below w.heap.size w w':=by
 have HV:Hid (RSl w v []):=hv
 have hm1:1≤most∧most≤20:=by simp [within] at hm;omega
 obtain ⟨hm1,hm2⟩:=hm1
 have hchk:=fun (w:World) (h:RSl w v [])=>checkR_any [] v w h
 rw [h0] at hchk
 obtain ⟨pa,ca,rfl,_,_⟩:=hv
 simp only [List.length_nil] at *
 have hB0:Below w.heap.size w (w.alloc (.cells #[.int .i64 times] 3)):=(Below.refl _ _).alloc (Nat.le_refl _) _
 go_enter Tryz.func96,Tryz.ntmps96
 go_wp2_with fail
 refine (hchk _ (HV.out.below hB0)).mono ?_
 rintro e w1 ⟨rfl,hb1⟩
 have c1:w1.cell? ⟨w.heap.size,0,none⟩=some (.int .i64 times):=by
  rw [hb1.cell (p:=⟨w.heap.size,0,none⟩) (by simp)];exact cell_top' rfl
 have HB1:Hid (Below w.heap.size w w1):=hB0.trans (hb1.mono (by simp))
 clear hb1 hB0 hchk
 go_wp2_with (go_at_call 76;refine (within_any _ _ _ _).mono ?_;rintro e w' ⟨rfl,rfl⟩;first | rw [hm] | rw [ht])
 refine (rclone_any [] _ _ (HV.out.below HB1.out) (by simp)).mono ?_
 rintro e w3 ⟨v3,rfl,ho3,hb3⟩
 have HO3:Hid (ROwn w.heap.size w3 v3 []):=ho3.base HB1.out.size
 have HB3:Hid (Below w.heap.size w w3):=HB1.out.trans (hb3.mono HB1.out.size)
 clear hb3 ho3 c1
 go_wp2_with fail
 refine (turns_none _ _ (HV.out.below HB3.out)).mono ?_
 rintro e w4 ⟨rfl,hb4⟩
 have HB4:Hid (Below w.heap.size w w4):=HB3.out.trans (hb4.mono HB3.out.size)
 have HO4:Hid (ROwn w.heap.size w4 v3 []):=HO3.out.below hb4
 clear hb4 HO3
 obtain ⟨g,c,hv3⟩:∃ g c,v3=.slice g 0 c:=by
  rcases HO4.out.2 with ⟨h,_⟩ | ⟨g,c,cur,h,_⟩
  ·exact ⟨_,_,h⟩
  ·exact ⟨_,_,h⟩
 subst hv3
 have hmin:min most 0=0:=by omega
 go_wp2_with fail
 refine wp_loop_rounds 1 ?_
 rw [rounds_succ]
 go_wp2_with fail
 refine (deleteFunc_none _ _ _ _).mono ?_
 rintro e w' ⟨rfl,rfl⟩
 go_wp2_with fail
 go_ret3
 exact ⟨_,_,rfl,own_nil _ _,HO4.out,HB4.out⟩
end Go.Proofs.YtffdoiokmiklgaaGreatDoor
namespace Go.Proofs.YtffdoiokmiklgaaGreatDoor
open Go.RowKit
def TakeIs (rs:List Rum) (times:Int) (told:List Mem) (rest:List Rum):Prop:=
 (rs=[]∧told=[]∧rest=[])∨(0 < rs.length∧∃ ord,IsOrd rs ord∧told=toldL rs ord (min 5 rs.length)∧rest=(bump rs ord (min 5 rs.length)).filter (keepR times))
theorem takeIs_len {rs:List Rum} {times:Int} {told:List Mem} {rest:List Rum} (h:TakeIs rs times told rest):told.length≤5:=by
 rcases h with ⟨_,rfl,_⟩ | ⟨_,ord,_,rfl,_⟩
 ·simp
 ·unfold toldL;rw [List.length_map,List.length_take];omega
theorem toldL_mem {rs:List Rum} {ord:List Nat} {k:Nat} (h:IsOrd rs ord) {m:Mem} (hm:m∈toldL rs ord k):∃ r∈rs,r.m=m:=by
 unfold toldL at hm
 obtain ⟨i,hi,rfl⟩:=List.mem_map.1 hm
 have hb:=h.bd i (List.mem_of_mem_take hi)
 refine ⟨rs[i],List.getElem_mem _,?_⟩
 simp [List.getD,List.getElem?_eq_getElem hb]
theorem bump_mem (rs:List Rum):∀ (is:List Nat) (r:Rum),r∈is.foldl bumpOne rs→(∃ x∈rs,x.m=r.m)∨r.m=dm
 | [],r,h=>.inl ⟨r,h,rfl⟩
 | i :: is,r,h=>by
   rw [List.foldl_cons] at h
   rcases bump_mem (bumpOne rs i) is r h with ⟨x,hx,e⟩ | e
   ·unfold bumpOne at hx
    rcases List.mem_or_eq_of_mem_set hx with hx | rfl
    ·exact .inl ⟨x,hx,e⟩
    ·by_cases hi:i < rs.length
     ·exact .inl ⟨rs[i],List.getElem_mem _,by rw [← e];simp [List.getD,List.getElem?_eq_getElem hi]⟩
     ·exact .inr (by rw [← e];simp [List.getD,List.getElem?_eq_none (Nat.le_of_not_lt hi),dr])
   ·exact .inr e
theorem takeIs_ok {rs:List Rum} {times:Int} {told:List Mem} {rest:List Rum} (h:TakeIs rs times told rest) (hr:∀ r∈rs,r.m.name.size≤maxLen):(∀ m∈told,m.name.size≤maxLen)∧∀ r∈rest,r.m.name.size≤maxLen:=by
 rcases h with ⟨_,rfl,rfl⟩ | ⟨_,ord,ho,rfl,rfl⟩
 ·exact ⟨fun m hm=>by simp at hm,fun m hm=>by simp at hm⟩
 ·refine ⟨fun m hm=>?_,fun r hrr=>?_⟩
  ·obtain ⟨r,h1,rfl⟩:=toldL_mem ho hm;exact hr r h1
  ·have h1:=(List.mem_filter.1 hrr).1
   rcases bump_mem rs _ r h1 with ⟨x,hx,e⟩ | e
   ·rw [← e];exact hr x hx
   ·rw [e];simp [dm]
theorem take5_any (rs:List Rum) (v:Value) (times:Int) (w:World) (hv:RSl w v rs) (h0:chkR rs=0) (ht:within times 1 100=true) :
 Calls Tryz.prog 96 #[v,.int .i64 5,.int .i64 times] w fun e w'=>∃ a k c a2 k2 c2 told rest,e=.returned (.tuple #[.slice a k c,.slice a2 k2 c2,.int .i64 0])∧Hid (TakeIs rs times told rest)∧Own w.heap.size w' (.slice a k c) told∧ROwn w.heap.size w' (.slice a2 k2 c2) rest∧Below w.heap.size w w':=by
 by_cases hp:0 < rs.length
 ·have hT:TurnsSays rs v:=turns_some rs v (rs.length - 1) (by omega) (by have:=(chkR_e0 h0).1;omega)
  refine (take_some rs v 5 times w hv h0 rfl ht hp hT).mono ?_
  rintro e w' ⟨v1,v2,ord,rfl,ho,h1,h2,hb⟩
  obtain ⟨a,c,rfl,_⟩:=own_slice h1
  obtain ⟨a2,c2,rfl,_⟩:=own_slice h2
  exact ⟨a,_,c,a2,_,c2,_,_,rfl,.inr ⟨hp,ord,ho,rfl,rfl⟩,h1,h2,hb⟩
 ·have he:rs=[]:=List.eq_nil_of_length_eq_zero (by omega)
  subst he
  refine (take_none v 5 times w hv h0 rfl ht).mono ?_
  rintro e w' ⟨v1,v2,rfl,h1,h2,hb⟩
  obtain ⟨a,c,rfl,_⟩:=own_slice h1
  obtain ⟨a2,c2,rfl,_⟩:=own_slice h2
  exact ⟨a,_,c,a2,_,c2,_,_,rfl,.inl ⟨rfl,rfl,rfl⟩,h1,h2,hb⟩
def tmN (n:Nd):Int:=max (3 * (Lib.bitLen (liveL n.ms).length:Nat)) 1
def TellIs (n:Nd) (l:List Mem) (rest:List Rum):Prop:=∃ told,TakeIs n.rs (tmN n) told rest∧l.Perm told∧SortM l
theorem live_len {ms:List Mem} (h:ms.length≤20):(liveL ms).length≤20:=by
 unfold liveL
 rw [List.length_map]
 exact Nat.le_trans (List.length_filter_le _ _) h
set_option maxHeartbeats 12800000 in
set_option maxRecDepth 100000 in
theorem Wk.pk {L b c:Nat} {W:World} {n:Nd} (h:Wk L W b n) (hc:∃ cs,W.heap[c]?=some (.cells cs 67 (0,0))) (i:Nat) (x:Value):Wk L (W.setCell ⟨c,i,none⟩ x) b n∧∃ cs,(W.setCell ⟨c,i,none⟩ x).heap[c]?=some (.cells cs 67 (0,0)):=by
 obtain ⟨cs,hc⟩:=hc
 obtain ⟨vm,vr,vs,vg,vw,h1,h2,h3,h4⟩:=h
 have hne:b≠c:=by
  intro e
  rw [e,hc] at h1
  injection h1 with h1
  injection h1 with _ h1
  exact absurd h1 (by decide)
 exact ⟨⟨vm,vr,vs,vg,vw,(Below.heap_setCell W _ x b hne).trans h1,⟨ownsRow_setCell_other h2.ms (own_block_ne h2.ms hc (by decide)) _,ownsRow_setCell_other h2.rs (own_block_ne h2.rs hc (by decide)) _,ownsRow_setCell_other h2.sv (own_block_ne h2.sv hc (by decide)) _,ownsRow_setCell_other h2.gw (own_block_ne h2.gw hc (by decide)) _,ownsRow_setCell_other h2.wh (own_block_ne h2.wh hc (by decide)) _⟩,h3,h4⟩,_,Joins.block_setCell (i:=i) hc x⟩
theorem wtell_any (L b:Nat) (n:Nd) (w:World) (h:Wk L w b n) (hL:L≤b) (hsp:Sp n) :
 Calls Tryz.prog 67 #[.pointer (some ⟨b,0,none⟩)] w fun e w'=>∃ a k c l rest,e=.returned (.agg #[.string n.name,.bool false,.slice a k c,.slice none 0 0,.slice none 0 0,.slice none 0 0])∧Hid (TellIs n l rest)∧Own (w.heap.size+1) w' (.slice a k c) l∧Sh (fun k=>k=b) w w'∧Wk L w' b { n with rs:=rest }:=by
 have HWK:Hid (Wk L w b n):=h
 have hbl:=h.lt
 have HSP:Hid (Sp n):=hsp
 obtain ⟨vm,vr,vs,vg,vw,h1,h2,h3,h4⟩:=h
 have HIS:Hid (NdIs w n vm vr vs vg vw):=h2.is h4
 obtain ⟨am,cm,hvm,_⟩:=own_slice h2.ms
 obtain ⟨ar,cr,hvr,_⟩:=own_slice h2.rs
 subst hvm hvr
 have hml:=(chk_zero hsp.ms).1
 have HLL:Hid ((liveL n.ms).length≤20):=live_len hml
 have HX:Hid (∀ W,Below w.heap.size w W→W.heap[b]?=some (.cells (ndA n (.slice am n.ms.length cm) (.slice ar n.rs.length cr) vs vg vw) 133 (0,0))):=fun W hW=>(hW.block _ hbl).trans h1
 have HOKR:Hid (∀ r∈n.rs,r.m.name.size≤maxLen):=h4.rs
 obtain ⟨W0,hW0⟩:∃ W0,W0=w.alloc (.cells #[.string ⟨#[]⟩,.bool false,.slice none 0 0,.slice none 0 0,.slice none 0 0,.slice none 0 0] 67):=⟨_,rfl⟩
 have hb0:Below w.heap.size w W0:=by rw [hW0];exact (Below.refl _ _).alloc (Nat.le_refl _) _
 have hz0:W0.heap[w.heap.size]?=some (.cells #[.string ⟨#[]⟩,.bool false,.slice none 0 0,.slice none 0 0,.slice none 0 0,.slice none 0 0] 67 (0,0)):=by rw [hW0];exact heap_alloc_new w _
 have hs0:W0.heap.size=w.heap.size+1:=by rw [hW0];simp
 have y2:W0.cell? ⟨b,2,none⟩=some (.slice am n.ms.length cm):=cellsAt (HX.out W0 hb0) 2
 have HB0:Hid (Below w.heap.size w W0):=hb0
 have HZ0:Hid (W0.heap[w.heap.size]?=some (.cells #[.string ⟨#[]⟩,.bool false,.slice none 0 0,.slice none 0 0,.slice none 0 0,.slice none 0 0] 67 (0,0))):=hz0
 clear h1 h2 h3 h4 hsp
 go_enter Tryz.func67,Tryz.ntmps67
 go_upto_region 1 with fail
 rw [← hW0]
 clear hW0
 go_wp2_with fail
 refine (live_good n.ms _ W0 (HIS.out.ms.below HB0.out) HSP.out.ms).mono ?_
 rintro e w1 ⟨v1,rfl,ho1,hb1⟩
 obtain ⟨a1,c1,hv1,_⟩:=own_slice ho1.out
 subst hv1
 have HB1:Hid (Below W0.heap.size W0 w1):=hb1
 have HBW1:Hid (Below w.heap.size w w1):=HB0.out.trans (hb1.mono (by omega))
 clear ho1 hb1 y2 hb0 hz0
 have hw20:within ((liveL n.ms).length:Int) 0 20=true:=within_iff.2 ⟨by omega,by have:=HLL.out;omega⟩
 go_wp2_with fail
 refine (times_any _ w1 hw20).mono ?_
 rintro e w2 ⟨rfl,hw2⟩
 have hw3:=hw2.symm
 subst hw3
 have y3:w1.cell? ⟨b,3,none⟩=some (.slice ar n.rs.length cr):=cellsAt (HX.out w1 HBW1.out) 3
 go_wp2_with fail
 have htm:within (tmN n) 1 100=true:=by
  have hbl:∀ m,m < 21→Lib.bitLen m≤5:=by decide
  have h1:=hbl (liveL n.ms).length (by have:=HLL.out;omega)
  refine within_iff.2 ⟨?_,?_⟩<;>(unfold tmN;omega)
 refine (take5_any n.rs _ (tmN n) w1 (HIS.out.rs.below HBW1.out) HSP.out.rs htm).mono ?_
 rintro e w3 ⟨a3,k3,c3,a4,k4,c4,told,rest,rfl,HT,ho3,ho4,hb3⟩
 have HO3:Hid (Own w1.heap.size w3 (.slice a3 k3 c3) told):=ho3
 have HO4:Hid (ROwn w1.heap.size w3 (.slice a4 k4 c4) rest):=ho4
 have HB3:Hid (Below w1.heap.size w1 w3):=hb3
 have hs13:w1.heap.size≤w3.heap.size:=hb3.size
 clear ho3 ho4 hb3 y3
 go_wp2_with fail
 refine (sortM_any w1.heap.size told _ w3 HO3.out hs13 (by have:=takeIs_len HT.out;omega)).mono ?_
 rintro e w4 ⟨rfl,l,hp,hs,ho5,hb5,hsh5⟩
 have HO5:Hid (Own w1.heap.size w4 (.slice a3 k3 c3) l):=ho5
 have HTL:Hid (TellIs n l rest):=⟨told,HT.out,hp,hs⟩
 have HB5:Hid (Below w1.heap.size w1 w4):=HB3.out.trans hb5
 have HBW5:Hid (Below w.heap.size w w4):=HBW1.out.trans (HB5.out.mono HBW1.out.size)
 have HO6:Hid (ROwn w1.heap.size w4 (.slice a4 k4 c4) rest):=by
  rcases HO4.out.2 with hq | ⟨g,c,cur,e1,e2,e3,e4⟩
  ·exact ⟨HO4.out.1,.inl hq⟩
  ·refine ⟨HO4.out.1,.inr ⟨g,c,cur,e1,e2,(hsh5.block g (Array.getElem?_eq_some_iff.1 e3).1 (fun e=>?_)).trans e3,e4⟩⟩
   exact own_block_ne HO3.out e3 (by decide) e
 have hL2:L≤w.heap.size:=by omega
 have hs1:w.heap.size+1≤w1.heap.size:=by have:=HB1.out.size;omega
 have hz4:w4.heap[w.heap.size]?=_:=(HB5.out.block _ (by omega)).trans ((HB1.out.block _ (by omega)).trans HZ0.out)
 have HZ4:Hid (w4.heap[w.heap.size]?=some (.cells #[.string ⟨#[]⟩,.bool false,.slice none 0 0,.slice none 0 0,.slice none 0 0,.slice none 0 0] 67 (0,0))):=hz4
 have hx4:=HX.out w4 HBW5.out
 have x0:w4.cell? ⟨b,0,none⟩=some (.string n.name):=cellsAt hx4 0
 have x3:w4.cell? ⟨b,3,none⟩=_:=cellsAt hx4 3
 have xz3:w4.frozen? ⟨b,3,none⟩=false:=frozen_of hx4 3
 have hbs:b < w4.heap.size:=by have:=HBW5.out.size;omega
 have hne:b≠w.heap.size:=by omega
 have hne':w.heap.size≠b:=by omega
 have hlt4:w.heap.size < w4.heap.size:=by have:=HB5.out.size;omega
 obtain ⟨q0,q1,q2,q3,q4,q5⟩:=cells6 hz4
 obtain ⟨qz0,qz1,qz2,qz3,qz4,qz5⟩:=frz6 hz4
 clear hz4 hx4 ho5 hb5 hsh5 hp hs
 go_wp2_with fail
 refine bodyPost_ret (v:=.agg #[.string n.name,.bool false,.slice a3 k3 c3,.slice none 0 0,.slice none 0 0,.slice none 0 0]) ?_ rfl ?_
 ·simp [results,Tryz.results67,go_sem,q0,q1,q2,q3,q4,q5]
 ·have k0:=HWK.out.set_rs hL2 HBW5.out (v:=.slice a4 k4 c4) (l:=rest) (HO6.out.base (by omega)) (takeIs_ok HT.out HOKR.out).2
  have z0:∃ cs,(w4.setCell ⟨b,3,none⟩ (.slice a4 k4 c4)).heap[w.heap.size]?=some (.cells cs 67 (0,0)):=⟨_,(Below.heap_setCell w4 _ _ w.heap.size hne').trans HZ4.out⟩
  obtain ⟨k1,z1⟩:=k0.pk z0 0 (.string n.name)
  obtain ⟨k2,z2⟩:=k1.pk z1 1 (.bool false)
  obtain ⟨k3',z3⟩:=k2.pk z2 2 (.slice a3 k3 c3)
  obtain ⟨k4',z4⟩:=k3'.pk z3 3 (.slice none 0 0)
  obtain ⟨k5,z5⟩:=k4'.pk z4 4 (.slice none 0 0)
  obtain ⟨k6,z6⟩:=k5.pk z5 5 (.slice none 0 0)
  have hb6:Below w.heap.size (w4.setCell ⟨b,3,none⟩ (.slice a4 k4 c4)) _:=(((((((Below.refl w.heap.size (w4.setCell ⟨b,3,none⟩ (.slice a4 k4 c4))).setCell (p:=⟨w.heap.size,0,none⟩) (by simp) (.string n.name)).setCell (p:=⟨w.heap.size,1,none⟩) (by simp) (.bool false)).setCell (p:=⟨w.heap.size,2,none⟩) (by simp) (.slice a3 k3 c3)).setCell (p:=⟨w.heap.size,3,none⟩) (by simp) (.slice none 0 0)).setCell (p:=⟨w.heap.size,4,none⟩) (by simp) (.slice none 0 0)).setCell (p:=⟨w.heap.size,5,none⟩) (by simp) (.slice none 0 0))
  have s0:Sh (fun k=>k=b) w (w4.setCell ⟨b,3,none⟩ (.slice a4 k4 c4)):=Sh.setCell (S:=fun k=>k=b) (Sh.of HBW5.out) (b:=b) (i:=3) rfl _
  refine ⟨a3,k3,c3,l,rest,rfl,HTL,?_,⟨hb6.os.trans s0.os,hb6.tape.trans s0.tape,hb6.output.trans s0.output,Nat.le_trans s0.size hb6.size,fun i hi hn=>(hb6.block i hi).trans (s0.block i hi hn)⟩,k6⟩
  exact (ownsRow_setCell_below (ownsRow_setCell_below (ownsRow_setCell_below (ownsRow_setCell_below (ownsRow_setCell_below (ownsRow_setCell_below (ownsRow_setCell_below (HO5.out.mono hs1) (a:=⟨b,3,none⟩) (by simp only;omega) _) (a:=⟨w.heap.size,0,none⟩) (by simp only;omega) _) (a:=⟨w.heap.size,1,none⟩) (by simp only;omega) _) (a:=⟨w.heap.size,2,none⟩) (by simp only;omega) _) (a:=⟨w.heap.size,3,none⟩) (by simp only;omega) _) (a:=⟨w.heap.size,4,none⟩) (by simp only;omega) _) (a:=⟨w.heap.size,5,none⟩) (by simp only;omega) _)
set_option maxHeartbeats 3200000 in
theorem tellC_any (L b tb:Nat) (n:Nd) (w:World) (h:Wk L w b n) (hL:L≤b) (hsp:Sp n) (hc:w.heap[tb]?=some (.cells #[.string ⟨#[]⟩,.bool false,.slice none 0 0,.slice none 0 0,.slice none 0 0,.slice none 0 0] 67 (0,0))) :
 Calls Tryz.prog 66 #[.pointer (some ⟨b,0,none⟩),.pointer (some ⟨tb,0,none⟩)] w fun e w'=>e=.returned (.int .i64 0)∧Sh (fun k=>k=b∨k=tb) w w'∧∃ a k c l rest,Hid (TellIs n l rest)∧w'.heap[tb]?=some (.cells #[.string n.name,.bool false,.slice a k c,.slice none 0 0,.slice none 0 0,.slice none 0 0] 67 (0,0))∧Own (w.heap.size+1) w' (.slice a k c) l∧Wk L w' b { n with rs:=rest }:=by
 have HC:=wtell_any L b n w h hL hsp
 have htb:tb < w.heap.size:=(Array.getElem?_eq_some_iff.1 hc).1
 have hne:tb≠b:=by
  intro e
  obtain ⟨_,_,_,_,_,h1,_⟩:=h
  rw [← e,hc] at h1
  injection h1 with h1
  injection h1 with _ h1
  exact absurd h1 (by decide)
 have HCB:Hid (w.heap[tb]?=some (.cells #[.string ⟨#[]⟩,.bool false,.slice none 0 0,.slice none 0 0,.slice none 0 0,.slice none 0 0] 67 (0,0))):=hc
 clear h hsp hc
 go_enter Tryz.func66,Tryz.ntmps66
 go_wp2_with fail
 refine HC.mono ?_
 rintro e w1 ⟨a,k,c,l,rest,rfl,HT,ho,hs,hk⟩
 have hz1:w1.heap[tb]?=some (.cells #[.string ⟨#[]⟩,.bool false,.slice none 0 0,.slice none 0 0,.slice none 0 0,.slice none 0 0] 67 (0,0)):=(hs.block _ htb hne).trans HCB.out
 have HZ1:Hid (w1.heap[tb]?=some (.cells #[.string ⟨#[]⟩,.bool false,.slice none 0 0,.slice none 0 0,.slice none 0 0,.slice none 0 0] 67 (0,0))):=hz1
 have HO:Hid (Own (w.heap.size+1) w1 (.slice a k c) l):=ho
 have HSH:Hid (Sh (fun k=>k=b) w w1):=hs
 have HK:Hid (Wk L w1 b { n with rs:=rest }):=hk
 have hlt1:tb < w1.heap.size:=(Array.getElem?_eq_some_iff.1 hz1).1
 obtain ⟨q0,q1,q2,q3,q4,q5⟩:=cells6 hz1
 obtain ⟨qz0,qz1,qz2,qz3,qz4,qz5⟩:=frz6 hz1
 clear hz1 ho hs hk HC
 go_wp2_with fail
 go_ret
 have g0:=HK.out
 have z0:∃ cs,w1.heap[tb]?=some (.cells cs 67 (0,0)):=⟨_,HZ1.out⟩
 obtain ⟨g1,z1⟩:=g0.pk z0 0 (.string n.name)
 obtain ⟨g2,z2⟩:=g1.pk z1 1 (.bool false)
 obtain ⟨g3,z3⟩:=g2.pk z2 2 (.slice a k c)
 obtain ⟨g4,z4⟩:=g3.pk z3 3 (.slice none 0 0)
 obtain ⟨g5,z5⟩:=g4.pk z4 4 (.slice none 0 0)
 obtain ⟨g6,z6⟩:=g5.pk z5 5 (.slice none 0 0)
 exact ⟨rfl,(Sh.setCell (S:=fun k=>k=b∨k=tb) (Sh.setCell (S:=fun k=>k=b∨k=tb) (Sh.setCell (S:=fun k=>k=b∨k=tb) (Sh.setCell (S:=fun k=>k=b∨k=tb) (Sh.setCell (S:=fun k=>k=b∨k=tb) (Sh.setCell (S:=fun k=>k=b∨k=tb) (HSH.out.mono (fun k hk=>.inl hk)) (b:=tb) (i:=0) (.inr rfl) (.string n.name)) (b:=tb) (i:=1) (.inr rfl) (.bool false)) (b:=tb) (i:=2) (.inr rfl) (.slice a k c)) (b:=tb) (i:=3) (.inr rfl) (.slice none 0 0)) (b:=tb) (i:=4) (.inr rfl) (.slice none 0 0)) (b:=tb) (i:=5) (.inr rfl) (.slice none 0 0)),a,k,c,l,rest,HT,(Joins.block_setCell (i:=5) (Joins.block_setCell (i:=4) (Joins.block_setCell (i:=3) (Joins.block_setCell (i:=2) (Joins.block_setCell (i:=1) (Joins.block_setCell (i:=0) HZ1.out (.string n.name)) (.bool false)) (.slice a k c)) (.slice none 0 0)) (.slice none 0 0)) (.slice none 0 0)),(ownsRow_setCell_below ((ownsRow_setCell_below ((ownsRow_setCell_below ((ownsRow_setCell_below ((ownsRow_setCell_below ((ownsRow_setCell_below (HO.out) (a:=⟨tb,0,none⟩) (by simp only;omega) (.string n.name))) (a:=⟨tb,1,none⟩) (by simp only;omega) (.bool false))) (a:=⟨tb,2,none⟩) (by simp only;omega) (.slice a k c))) (a:=⟨tb,3,none⟩) (by simp only;omega) (.slice none 0 0))) (a:=⟨tb,4,none⟩) (by simp only;omega) (.slice none 0 0))) (a:=⟨tb,5,none⟩) (by simp only;omega) (.slice none 0 0)),g6⟩
end Go.Proofs.YtffdoiokmiklgaaGreatDoor
