import Derived.Test.YtikgjgmgbfjcgaaGreatQ30
import Derived.Shelf.SlSortCmp.NoneTotal
import Derived.Test.YtikgjgmgbfjcgaaGreatProg
import Derived.Shelf.SlSortFunc.HeapSort
import Derived.Test.YtikgjgmgbfjcgaaGreatQ24
namespace Go.Proofs.YtikgjgmgbfjcgaaGreat
open Go.RowKit
def TurnsSays (rs:List Rum) (v:Value):Prop:=∀ w,RSl w v rs→Calls Tryz.prog 159 #[v] w fun e w'=>∃ (g c:Nat) (ord:List Nat),e=.returned (.slice (some ⟨g,0,none⟩) rs.length c)∧IsOrd rs ord∧(∀ j,j < rs.length→w'.cell? ⟨g,j,none⟩=some (.int .i64 (ord.getD j 0:Nat)))∧rs.length≤c∧w.heap.size≤g∧Below w.heap.size w w'
theorem wrs_told {rs:List Rum} {p:Nat} (hp:p < rs.length) (t:Int):(flR rs).set (p * 6+5) (.int .i64 t)=flR (rs.set p ⟨(rs.getD p dr).m,t⟩):=by
 apply List.ext_getElem?
 intro k
 by_cases hk:k < rs.length * 6
 ·have h2:=flR_get (rs.set p ⟨(rs.getD p dr).m,t⟩) (k / 6) (by rw [List.length_set];omega) (k%6) (by omega)
  rw [show k / 6 * 6+k%6=k by omega] at h2
  have h4:=flR_get rs (k / 6) (by omega) (k%6) (by omega)
  rw [show k / 6 * 6+k%6=k by omega] at h4
  rw [h2]
  by_cases hkp:k / 6=p
  ·rw [show (rs.set p ⟨(rs.getD p dr).m,t⟩).getD (k / 6) dr=⟨(rs.getD p dr).m,t⟩ by rw [hkp];simp [List.getD,List.getElem?_set_self hp]]
   rw [hkp] at h4
   by_cases h5:k%6=5
   ·rw [show p * 6+5=k by omega,List.getElem?_set_self (by rw [flR_len];omega),h5]
    rfl
   ·rw [List.getElem?_set_ne (by omega),h4]
    have h6:k%6 < 5:=by omega
    generalize k%6=q at h6
    match q,h6 with
    | 0,_=>rfl
    | 1,_=>rfl
    | 2,_=>rfl
    | 3,_=>rfl
    | 4,_=>rfl
  ·rw [show (rs.set p ⟨(rs.getD p dr).m,t⟩).getD (k / 6) dr=rs.getD (k / 6) dr by simp [List.getD,List.getElem?_set_ne (Ne.symm hkp)],List.getElem?_set_ne (by omega),h4]
 ·rw [List.getElem?_eq_none (by rw [List.length_set,flR_len];omega),List.getElem?_eq_none (by rw [flR_len,List.length_set];omega)]
theorem within_bd {n a b:Int} (h:within n a b=true):a≤n∧n≤b:=by simpa [within] using h
theorem Own.base {b b':Nat} {w:World} {v:Value} {ms:List Mem} (h:Own b w v ms) (hb:b'≤b):Own b' w v ms:=by
 obtain ⟨h1,h2⟩:=h
 refine ⟨h1,?_⟩
 rcases h2 with h2 | ⟨g,c,cur,hv,hbg,hr⟩
 ·exact .inl h2
 ·exact .inr ⟨g,c,cur,hv,Nat.le_trans hb hbg,hr⟩
theorem own_snoc' {base:Nat} {w:World} {v:Value} {L:List Mem} {m:Mem} (h:w.ownsRow base 37 5 v (L.length+1) (fl L++m.cs)):Own base w v (L++[m]):=by
 have e:fl (L++[m])=fl L++m.cs:=by rw [fl_append,fl_cons];simp [fl]
 show w.ownsRow base 37 5 v (L++[m]).length (fl (L++[m]))
 rw [e,List.length_append]
 exact h
theorem Own.slice {base:Nat} {w:World} {v:Value} {ms:List Mem} (h:Own base w v ms):∃ a c,v=.slice a ms.length c:=by
 rcases h.2 with ⟨rfl,h0⟩ | ⟨g,c,cur,rfl,_⟩
 ·exact ⟨none,0,by rw [h0]⟩
 ·exact ⟨_,c,rfl⟩
set_option maxHeartbeats 6400000 in
set_option maxRecDepth 100000 in
theorem take_some (rs:List Rum) (v:Value) (most times:Int) (w:World) (hv:RSl w v rs) (h0:chkR rs=0) (hm:within most 1 20=true) (ht:within times 1 100=true) (hpos:0 < rs.length) (hT:TurnsSays rs v) :
 Calls Tryz.prog 112 #[v,.int .i64 most,.int .i64 times] w fun e w'=>∃ (v1 v2:Value) (ord:List Nat),e=.returned (.tuple #[v1,v2,.int .i64 0])∧IsOrd rs ord∧Own w.heap.size w' v1 (toldL rs ord (min most.toNat rs.length))∧ROwn w.heap.size w' v2 ((bump rs ord (min most.toNat rs.length)).filter (keepR times))∧Below w.heap.size w w':=by
 obtain ⟨j0,hj0,hk0,hks,hkb⟩:=info_parts Tryz.info37
 have HV:Hid (RSl w v rs):=hv
 have HTT:Hid (TurnsSays rs v):=hT
 have hm1:1≤most∧most≤20:=by simp [within] at hm;omega
 obtain ⟨hm1,hm2⟩:=hm1
 obtain ⟨hn20,_,htold,_⟩:=chkR_zero h0
 have HTO:Hid (AllTold rs):=htold
 have hchk:=fun (w:World) (h:RSl w v rs)=>checkR_any rs v w h
 rw [h0] at hchk
 clear h0 hT htold
 obtain ⟨pa,ca,rfl,_,_⟩:=hv
 generalize hN:rs.length=n at *
 have HN:Hid (rs.length=n):=hN
 clear hN
 have hB0:Below w.heap.size w (w.alloc (.cells #[.int .i64 times] 3)):=(Below.refl _ _).alloc (Nat.le_refl _) _
 go_enter Tryz.func112,Tryz.ntmps112
 go_wp2_with fail
 refine (hchk _ (HV.out.below hB0)).mono ?_
 rintro e w1 ⟨rfl,hb1⟩
 have c1:w1.cell? ⟨w.heap.size,0,none⟩=some (.int .i64 times):=by
  rw [hb1.cell (p:=⟨w.heap.size,0,none⟩) (by simp)];exact cell_top' rfl
 have HB1:Hid (Below w.heap.size w w1):=hB0.trans (hb1.mono (by simp))
 have hz1:w.heap.size < w1.heap.size:=by have:=hb1.size;simp at this;omega
 clear hb1 hB0 hchk
 go_wp2_with (go_at_call 97;refine (within_any _ _ _ _).mono ?_;rintro e w' ⟨rfl,rfl⟩;first | rw [hm] | rw [ht])
 refine (rclone_any rs _ _ (HV.out.below HB1.out) (by rw [HN.out];omega)).mono ?_
 rintro e w3 ⟨v3,rfl,ho3,hb3⟩
 have HO3:Hid (ROwn (w.heap.size+1) w3 v3 rs):=ho3.base hz1
 have c3:w3.cell? ⟨w.heap.size,0,none⟩=some (.int .i64 times):=by
  rw [hb3.cell (p:=⟨w.heap.size,0,none⟩) (by simp only;omega)];exact c1
 have HB3:Hid (Below w.heap.size w w3):=HB1.out.trans (hb3.mono HB1.out.size)
 have hz3:w.heap.size < w3.heap.size:=by have:=hb3.size;omega
 clear hb3 ho3 c1
 go_wp2_with fail
 refine (HTT.out _ (HV.out.below HB3.out)).mono ?_
 rintro e w4 ⟨gt,ct,ord,rfl,hord,hct,hcc,hgt3,hb4⟩
 have HORD:Hid (IsOrd rs ord):=hord
 have HCT:Hid (∀ j,j < rs.length→w4.cell? ⟨gt,j,none⟩=some (.int .i64 (ord.getD j 0:Nat))):=hct
 have HB4:Hid (Below w.heap.size w w4):=HB3.out.trans (hb4.mono HB3.out.size)
 have C4:Hid (w4.cell? ⟨w.heap.size,0,none⟩=some (.int .i64 times)):=by
  have h:=hb4.cell (p:=⟨w.heap.size,0,none⟩) (by simp only;omega)
  exact h.trans c3
 have HO4:Hid (ROwn (w.heap.size+1) w4 v3 rs):=HO3.out.below hb4
 have HG3:Hid (∀ k,v3.ownBlock=some k→k < w3.heap.size):=fun k hk=>(HO3.out.lt k hk).2
 have hz4:w3.heap.size≤w4.heap.size:=hb4.size
 clear hb4 c3 HO3 hct hord
 obtain ⟨g,c,hv3⟩:∃ g c,v3=.slice (some ⟨g,0,none⟩) n c:=by
  rcases HO4.out.2 with ⟨_,h0⟩ | ⟨g,c,cur,h,_⟩
  ·have:=HN.out;omega
  ·exact ⟨g,c,by rw [h,HN.out]⟩
 subst hv3
 obtain ⟨hgl,hgh⟩:=HO4.out.lt g rfl
 have hg3:g < w3.heap.size:=HG3.out g rfl
 rw [HN.out] at hcc ⊢
 have HGT:Hid (gt < w4.heap.size):=World.block_lt_of_cell? w4 ⟨gt,0,none⟩ (HCT.out 0 (by rw [HN.out];exact hpos))
 obtain ⟨q,hq⟩:∃ q:Nat,q=min most.toNat n:=⟨_,rfl⟩
 have hmin:min most (n:Int)=(q:Int):=by omega
 have hqn:q≤n:=by omega
 go_wp2_with fail
 go_loopw [11,37] (fun o i wr=>∃ k:Nat,k≤q∧i=.int .i64 k∧Hid (Own w4.heap.size wr o (toldL rs ord k))∧Hid (ROwn (w.heap.size+1) wr (.slice (some ⟨g,0,none⟩) n c) (bump rs ord k))∧Hid (wr.cell? ⟨w.heap.size,0,none⟩=some (.int .i64 times))∧Hid (∀ j,j < rs.length→wr.cell? ⟨gt,j,none⟩=some (.int .i64 (ord.getD j 0:Nat)))∧Hid (Below w.heap.size w wr)∧w4.heap.size≤wr.heap.size) (fun _ i _=>q - (intOf i).toNat)
 case atStart=>exact ⟨0,Nat.zero_le _,rfl,(by rw [toldL_zero];exact own_nil _ _),(by rw [bump_zero];exact HO4.out),C4,HCT,HB4,Nat.le_refl _⟩
 case round=>
  obtain ⟨k,hk,rfl,HTO2,HRO,HCC,HCT2,HB,hsz⟩:=hrel
  by_cases hlt:k < q
  ·have hkn:k < rs.length:=by rw [HN.out];omega
   have oc:=HCT2.out k hkn
   have hat:ord.getD k 0 < n:=by have:=HORD.out.lt hkn;rwa [HN.out] at this
   have hbl:(bump rs ord k).length=n:=by rw [bump_len];exact HN.out
   obtain ⟨d0,d1,d2,d3,d4,d5⟩:=rown_row HRO.out (ord.getD k 0) (by rw [hbl];exact hat)
   rw [bump_fresh HORD.out hkn] at d0 d1 d2 d3 d4 d5
   have hRO:wr.ownsRow (w.heap.size+1) 82 6 (.slice (some ⟨g,0,none⟩) n c) n (flR (bump rs ord k)):=by
    have h2:wr.ownsRow (w.heap.size+1) 82 6 (.slice (some ⟨g,0,none⟩) n c) (bump rs ord k).length (flR (bump rs ord k)):=HRO.out
    rw [hbl] at h2;exact h2
   have hfz:∀ o,wr.frozen? ⟨g,o,none⟩=false:=fun o=>World.ownsRow.frozenAt hRO o
   have htold:within (rs.getD (ord.getD k 0) dr).told 0 100=true:=HTO.out _ (HORD.out.lt hkn)
   obtain ⟨ht3,ht4⟩:=within_bd htold
   have HRO2:Hid (ROwn (w.heap.size+1) (wr.setCell ⟨g,ord.getD k 0 * 6+5,none⟩ (.int .i64 ((rs.getD (ord.getD k 0) dr).told+1))) (.slice (some ⟨g,0,none⟩) n c) (bump rs ord (k+1))):=by
    have h3:=(World.ownsRow.stored hRO (ord.getD k 0 * 6+5) (.int .i64 ((rs.getD (ord.getD k 0) dr).told+1))).1
    rw [wrs_told (by rw [hbl];exact hat),bump_fresh HORD.out hkn] at h3
    show World.ownsRow _ _ _ _ _ (bump rs ord (k+1)).length _
    rw [bump_len,HN.out,bump_succ (by rw [HORD.out.len];exact hkn),bumpOne,bump_fresh HORD.out hkn]
    exact h3
   have HTS:Hid (toldL rs ord (k+1)=toldL rs ord k++[(rs.getD (ord.getD k 0) dr).m]):=toldL_succ (by rw [HORD.out.len];exact hkn)
   have htl:(toldL rs ord k).length≤20:=by unfold toldL;rw [List.length_map,List.length_take];omega
   obtain ⟨oa,ocp,hvo⟩:=HTO2.out.slice
   subst hvo
   clear hRO htold
   generalize ord.getD k 0=at1 at *
   generalize hrk:rs.getD at1 dr=rk at *
   clear hrk
   obtain ⟨⟨nm,st,lf,ad,sv⟩,td⟩:=rk
   simp only at d0 d1 d2 d3 d4 d5 ht3 ht4 HRO2 HTS
   simp only [Nat.zero_add] at d0 d1 d2 d3 d4 d5
   generalize toldL rs ord k=TL at *
   have HOT:Hid (∀ ob,((wr.setCell ⟨g,at1 * 6+5,none⟩ (.int .i64 (td+1))).alloc ob).ownsRow w4.heap.size 37 5 (.slice oa TL.length ocp) TL.length (fl TL)):=fun ob=>
    Own.below (ms:=TL) (ownsRow_setCell_below HTO2.out (a:=⟨g,at1 * 6+5,none⟩) hgh _) ((Below.refl _ _).alloc (Nat.le_refl _) ob)
   have HLT:Hid (∀ j,(Value.slice oa TL.length ocp).ownBlock=some j→w4.heap.size≤j):=fun j hj=>(HTO2.out.lt j hj).1
   clear HTO2 HRO
   go_wp2_with (at_builtin;refine wpList_append_own _ rfl _ _ 22 rfl w4.heap.size 37 j0 _ 5 48 Tryz.underlying22 hj0 hk0 hks hkb rfl (by omega) _ TL.length (fl TL) rfl ?hown ⟨wr.heap.size,0,none⟩ 1 1 (Mem.mk nm st lf ad sv).cs rfl rfl ?hnews (cs_one _) ?h63 ?hbytes ?hbase ?_)
   case hown=>exact HOT.out _
   case hnews=>(intro j u hj;rw [Addr.add_lit];exact (cell_top' (by simp)).trans (by simpa [Mem.cs] using hj))
   case h63=>(unfold maxLen;omega)
   case hbytes=>omega
   case hbase=>(simp;omega)
   intro v' w5 r1 r2 r3
   have hb5:Below w4.heap.size (wr.setCell ⟨g,at1 * 6+5,none⟩ (.int .i64 (td+1))) w5:=
    ((Below.refl w4.heap.size (wr.setCell ⟨g,at1 * 6+5,none⟩ (.int .i64 (td+1)))).alloc (by simpa using hsz) _).grown r2 (by simp;omega) (fun j hj=>HLT.out j hj)
   have R1:Hid (Own w4.heap.size w5 v' (TL++[⟨nm,st,lf,ad,sv⟩])):=own_snoc' r1
   have hgr:(wr.setCell ⟨g,at1 * 6+5,none⟩ (.int .i64 (td+1))).heap[g]?=w5.heap[g]?:=(hb5.block g hgh).symm
   have R2:Hid (ROwn (w.heap.size+1) w5 (.slice (some ⟨g,0,none⟩) n c) (bump rs ord (k+1))):=by
    obtain ⟨h1,h2⟩:=HRO2.out
    refine ⟨h1,?_⟩
    rcases h2 with h2 | ⟨g',c',cur,hv,hbg,hg,hr⟩
    ·exact .inl h2
    ·have hgg:g'=g:=by simp only [Value.slice.injEq,Option.some.injEq,Addr.mk.injEq,and_true] at hv;exact hv.1.symm
     subst hgg
     exact .inr ⟨g',c',cur,hv,hbg,by rw [← hgr];exact hg,hr⟩
   have R3:Hid (w5.cell? ⟨w.heap.size,0,none⟩=some (.int .i64 times)):=by
    have h1:=hb5.cell (p:=⟨w.heap.size,0,none⟩) (by simp only;omega)
    have h2:(wr.setCell ⟨g,at1 * 6+5,none⟩ (.int .i64 (td+1))).cell? ⟨w.heap.size,0,none⟩=wr.cell? ⟨w.heap.size,0,none⟩:=World.cell?_setCell_far _ _ _ _ (by simp only;omega)
    exact h1.trans (h2.trans HCC.out)
   have R4:Hid (∀ j,j < rs.length→w5.cell? ⟨gt,j,none⟩=some (.int .i64 (ord.getD j 0:Nat))):=fun j hj=>by
    have h1:=hb5.cell (p:=⟨gt,j,none⟩) HGT.out
    have h2:(wr.setCell ⟨g,at1 * 6+5,none⟩ (.int .i64 (td+1))).cell? ⟨gt,j,none⟩=wr.cell? ⟨gt,j,none⟩:=World.cell?_setCell_far _ _ _ _ (by simp only;omega)
    exact h1.trans (h2.trans (HCT2.out j hj))
   have R5:Hid (Below w.heap.size w w5):=(HB.out.setCell (p:=⟨g,at1 * 6+5,none⟩) (by simp only;omega) _).trans (hb5.mono (by omega))
   have hsz5:w4.heap.size≤w5.heap.size:=by have:=hb5.size;simp at this;omega
   clear r1 r2 r3 hb5 hgr HRO2 HOT HLT d0 d1 d2 d3 d4 d5 oc
   go_wp2_with fail
   exact ⟨⟨k+1,by omega,by go_num,(by rw [HTS.out];exact R1.out),R2.out,R3.out,R4.out,R5.out,hsz5⟩,by simp [intOf];omega⟩
  ·have hkq:k=q:=by omega
   subst hkq
   have hbl:(bump rs ord k).length=n:=by rw [bump_len];exact HN.out
   clear HCT2
   go_wp2_with fail
   refine (deleteFunc_any (bump rs ord k) n g c w.heap.size (w.heap.size+1) times _ hbl (by omega) HRO.out (by omega) (by omega) HCC.out).mono ?_
   rintro e w6 ⟨m,rfl,ho6,hb6,hf6⟩
   have S1:Hid (Own w.heap.size w6 u11 (toldL rs ord k)):=by
    obtain ⟨h1,h2⟩:=HTO2.out
    refine ⟨h1,?_⟩
    rcases h2 with h2 | ⟨g',c',cur,hv,hbg,hg,hr⟩
    ·exact .inl h2
    ·exact .inr ⟨g',c',cur,hv,by omega,by rw [hf6.2 g' (Array.getElem?_eq_some_iff.1 hg).1 (by omega)];exact hg,hr⟩
   have S2:Hid (ROwn w.heap.size w6 (.slice (some ⟨g,0,none⟩) m c) ((bump rs ord k).filter (keepR times))):=ho6.base (by omega)
   have S3:Hid (Below w.heap.size w w6):=HB.out.trans (hb6.mono (by omega))
   clear ho6 hb6 hf6 HTO2 HRO HCC
   go_wp2_with fail
   go_ret3
   exact ⟨_,_,ord,rfl,HORD.out,by rw [← hq];exact S1.out,by rw [← hq];exact S2.out,S3.out⟩
end Go.Proofs.YtikgjgmgbfjcgaaGreat
namespace Go.Proofs
open Go.Shelf
def Tryz.sortI_ren:Go.Shelf.Ren:=⟨fun | 6=>192 | 15=>158 | 14=>221 | 28=>190 | 29=>191 | 20=>238 | 21=>239 | 22=>240 | 23=>241 | 24=>242 | 25=>243 | 26=>244 | 27=>245 | 46=>254 | 47=>224 | 48=>225 | 49=>255 | 50=>256 | 57=>261 | n=>n,fun | 22=>177 | 24=>3 | 25=>204 | 3=>3 | 39=>176 | 0=>0 | 53=>200 | 55=>202 | 4=>4 | 46=>207 | 45=>206 | 50=>184 | 5=>5 | 9=>9 | 66=>229 | 70=>233 | 76=>245 | 77=>246 | n=>n,fun | n=>n⟩
theorem Tryz.sortI:Go.Proofs.SlLaysF.n6 Tryz.prog Tryz.sortI_ren:={
 mixed:=by kernel_rfl
 f6:=⟨Tryz.f192.name,by decide,Tryz.func192.trans (congrArg some (by kernel_rfl))⟩
 f14:=⟨Tryz.f221.name,by decide,Tryz.func221.trans (congrArg some (by kernel_rfl))⟩
 f15:=Tryz.func158.trans (congrArg some (by kernel_rfl))
 f20:=⟨Tryz.f238.name,by decide,Tryz.func238.trans (congrArg some (by kernel_rfl))⟩
 f21:=⟨Tryz.f239.name,by decide,Tryz.func239.trans (congrArg some (by kernel_rfl))⟩
 f22:=⟨Tryz.f240.name,by decide,Tryz.func240.trans (congrArg some (by kernel_rfl))⟩
 f23:=⟨Tryz.f241.name,by decide,Tryz.func241.trans (congrArg some (by kernel_rfl))⟩
 f24:=⟨Tryz.f242.name,by decide,Tryz.func242.trans (congrArg some (by kernel_rfl))⟩
 f25:=⟨Tryz.f243.name,by decide,Tryz.func243.trans (congrArg some (by kernel_rfl))⟩
 f26:=⟨Tryz.f244.name,by decide,Tryz.func244.trans (congrArg some (by kernel_rfl))⟩
 f27:=⟨Tryz.f245.name,by decide,Tryz.func245.trans (congrArg some (by kernel_rfl))⟩
 f28:=Tryz.func190.trans (congrArg some (by kernel_rfl))
 f29:=Tryz.func191.trans (congrArg some (by kernel_rfl))
 f46:=⟨Tryz.f254.name,by decide,Tryz.func254.trans (congrArg some (by kernel_rfl))⟩
 f47:=Tryz.func224.trans (congrArg some (by kernel_rfl))
 f48:=Tryz.func225.trans (congrArg some (by kernel_rfl))
 f49:=⟨Tryz.f255.name,by decide,Tryz.func255.trans (congrArg some (by kernel_rfl))⟩
 f50:=⟨Tryz.f256.name,by decide,Tryz.func256.trans (congrArg some (by kernel_rfl))⟩
 f57:=⟨Tryz.f261.name,by decide,Tryz.func261.trans (congrArg some (by kernel_rfl))⟩
 t0:=Tryz.underlying0
 a0:=Tryz.isAgg0
 z0:=Tryz.sizeOf0
 v0:=Tryz.zeroValue0
 t3:=Tryz.underlying3
 a3:=Tryz.isAgg3
 z3:=Tryz.sizeOf3
 v3:=Tryz.zeroValue3
 t4:=Tryz.underlying4
 a4:=Tryz.isAgg4
 z4:=Tryz.sizeOf4
 v4:=Tryz.zeroValue4
 t5:=Tryz.underlying5
 a5:=Tryz.isAgg5
 z5:=Tryz.sizeOf5
 v5:=Tryz.zeroValue5
 t9:=Tryz.underlying9
 a9:=Tryz.isAgg9
 z9:=Tryz.sizeOf9
 v9:=Tryz.zeroValue9
 t22:=Tryz.underlying177
 a22:=Tryz.isAgg177
 z22:=Tryz.sizeOf177
 v22:=Tryz.zeroValue177
 a24:=Tryz.isAgg3
 z24:=Tryz.sizeOf3
 t25:=Tryz.underlying204
 a25:=Tryz.isAgg204
 z25:=Tryz.sizeOf204
 v25:=Tryz.zeroValue204
 t39:=Tryz.underlying176
 a39:=Tryz.isAgg176
 z39:=Tryz.sizeOf176
 v39:=Tryz.zeroValue176
 t45:=Tryz.underlying206
 a45:=Tryz.isAgg206
 z45:=Tryz.sizeOf206
 v45:=Tryz.zeroValue206
 t46:=Tryz.underlying207
 a46:=Tryz.isAgg207
 z46:=Tryz.sizeOf207
 v46:=Tryz.zeroValue207
 t50:=Tryz.underlying184
 a50:=Tryz.isAgg184
 z50:=Tryz.sizeOf184
 v50:=Tryz.zeroValue184
 t53:=Tryz.underlying200
 a53:=Tryz.isAgg200
 z53:=Tryz.sizeOf200
 v53:=Tryz.zeroValue200
 t55:=Tryz.underlying202
 a55:=Tryz.isAgg202
 z55:=Tryz.sizeOf202
 v55:=Tryz.zeroValue202
 t66:=Tryz.underlying229
 a66:=Tryz.isAgg229
 z66:=Tryz.sizeOf229
 v66:=Tryz.zeroValue229
 t70:=Tryz.underlying233
 a70:=Tryz.isAgg233
 z70:=Tryz.sizeOf233
 v70:=Tryz.zeroValue233
 t76:=Tryz.underlying245
 a76:=Tryz.isAgg245
 z76:=Tryz.sizeOf245
 v76:=Tryz.zeroValue245
 t77:=Tryz.underlying246
 a77:=Tryz.isAgg246
 z77:=Tryz.sizeOf246
 v77:=Tryz.zeroValue246 }
end Go.Proofs
namespace Go.Proofs.YtikgjgmgbfjcgaaGreat
open Go.RowKit Go.Sort Go.Shelf Go.Lib
theorem cfR_neg (rs:List Rum) (i k:Nat):cfR rs i k < 0↔(rs.getD i dr).told < (rs.getD k dr).told∨((rs.getD i dr).told=(rs.getD k dr).told∧k < i):=by
 unfold cfR orZ cmpZ
 generalize (rs.getD i dr).told=a
 generalize (rs.getD k dr).told=b
 repeat' split
 all_goals omega
def cfF (rs:List Rum) (m:Nat) (x y:Fin (m+1)):Int:=cfR rs x.val y.val
theorem ltF (rs:List Rum) (m:Nat) (x y:Fin (m+1)):ltOf (cfF rs m) x y=true↔(rs.getD x.val dr).told < (rs.getD y.val dr).told∨((rs.getD x.val dr).told=(rs.getD y.val dr).told∧y.val < x.val):=by
 unfold ltOf cfF
 rw [decide_eq_true_iff,cfR_neg]
theorem ltF_false (rs:List Rum) (m:Nat) (x y:Fin (m+1)):ltOf (cfF rs m) x y=false↔¬ ((rs.getD x.val dr).told < (rs.getD y.val dr).told∨((rs.getD x.val dr).told=(rs.getD y.val dr).told∧y.val < x.val)):=by
 rw [← ltF,Bool.not_eq_true]
theorem swoF (rs:List Rum) (m:Nat):SWO (ltOf (cfF rs m)) where
 irrefl x:=by rw [ltF_false];omega
 trans x y z h1 h2:=by rw [ltF] at *;omega
 ntrans x y z h1 h2:=by rw [ltF_false] at *;omega
def encF (m:Nat) (x:Fin (m+1)):Value:=.int .i64 (x.val:Nat)
def allF (m:Nat):Array (Fin (m+1)):=Array.ofFn (fun x=>x)
theorem allF_size (m:Nat):(allF m).size=m+1:=by simp [allF]
theorem allF_get (m j:Nat) (hj:j < m+1):(allF m)[j]! = ⟨j,hj⟩:=by
 rw [getElem!_pos _ j (by rw [allF_size];exact hj)]
 simp [allF]
theorem allF_vals (m:Nat):(allF m).toList.map (·.val)=List.range (m+1):=by
 apply List.ext_getElem
 ·simp [allF]
 ·intro j h1 h2
  rw [List.getElem_map,List.getElem_range,Array.getElem_toList]
  simp only [allF,Array.getElem_ofFn]
theorem alloc_grow (W:World) (o:Obj):(W.alloc o).drew=grow (W.drewN 1) #[o]:=by
 simp only [grow,World.alloc,World.drew,World.drewN,Array.push_eq_append]
theorem cmpF (rs:List Rum) (m lb b off ca g:Nat) (w:World) (hn:rs.length=m+1) (hr:RRow w b off rs) (hl:w.cell? ⟨lb,0,none⟩=some (.slice (some ⟨b,off,none⟩) (m+1) ca)) (h1:lb≠g) (h2:b≠g) (hb:b < w.heap.size) :
 CmpLays1 Tryz.prog 193 #[.pointer (some ⟨lb,0,none⟩)] (encF m) (cfF rs m) g 0 (allF m).size w:=by
 intro q os dk hs x y
 have hlb:lb < w.heap.size:=World.block_lt_of_cell? w _ hl
 have c1:=(cell?_sortWorld_other (encF m) w g 0 q dk os ⟨lb,0,none⟩ h1 hlb).trans hl
 have c2:=(cell?_sortWorld_other (encF m) w g 0 q dk os ⟨b,off+x.val * 6+5,none⟩ h2 hb).trans (hr x.val (by rw [hn];exact x.isLt)).2.2.2.2.2
 have c3:=(cell?_sortWorld_other (encF m) w g 0 q dk os ⟨b,off+y.val * 6+5,none⟩ h2 hb).trans (hr y.val (by rw [hn];exact y.isLt)).2.2.2.2.2
 refine (turnF_any _ _ lb b off (m+1) ca x.val y.val _ c1 x.isLt y.isLt c2 c3).mono ?_
 rintro e w' ⟨rfl,rfl⟩
 exact ⟨rfl,1,_,alloc_grow _ _⟩
theorem isOrd_of {rs:List Rum} {m:Nat} {d':Array (Fin (m+1))} (hn:rs.length=m+1) (hp:PermIn 0 (allF m).size (allF m) d') (hs:SortedIn (ltOf (cfF rs m)) 0 (allF m).size d'):IsOrd rs (d'.toList.map (·.val)):=by
 obtain ⟨hsz,_,hperm⟩:=hp
 rw [Array.extract_size,show d'.extract 0 (allF m).size=d' by rw [← hsz,Array.extract_size]] at hperm
 have hP:(d'.toList.map (·.val)).Perm (List.range rs.length):=by
  rw [hn,← allF_vals]
  exact hperm.map _
 have hlen:(d'.toList.map (·.val)).length=m+1:=by rw [hP.length_eq,hn];simp
 have hnd:(d'.toList.map (·.val)).Nodup:=hP.nodup_iff.2 List.nodup_range
 refine ⟨hP,fun i j hij hj=>?_⟩
 have hds:d'.size=m+1:=by rw [hsz,allF_size]
 have hj':j < d'.size:=by rw [hds];omega
 have hi':i < d'.size:=by omega
 have e1:(d'.toList.map (·.val)).getD i 0=d'[i].val:=by rw [ord_get (by omega)];simp
 have e2:(d'.toList.map (·.val)).getD j 0=d'[j].val:=by rw [ord_get hj];simp
 have hne:(d'.toList.map (·.val))[i]'(by omega)≠(d'.toList.map (·.val))[j]'hj:=List.pairwise_iff_getElem.1 hnd i j (by omega) hj hij
 simp only [List.getElem_map,Array.getElem_toList] at hne
 have h:=hs i j (by omega) hij (by rw [allF_size];omega)
 rw [getElem!_pos d' j hj',getElem!_pos d' i hi',ltF_false] at h
 rw [e1,e2,cfR_neg]
 omega
abbrev intL (k:Nat):List Value:=(List.range k).map (fun j=>Value.int .i64 (j:Nat))
theorem intL_succ (k:Nat):intL (k+1)=intL k++[.int .i64 (k:Nat)]:=by simp [intL,List.range_succ]
theorem below_sortWorld {m:Nat} {B:Nat} {w:World} {g off n:Nat} {d:Array (Fin (m+1))} {os:Array Obj} (hg:B≤g) (hB:B≤w.heap.size):Below B w (sortWorld (encF m) w g off n d os):=by
 refine ⟨rfl,rfl,rfl,by simp [sortWorld,putRow,mapBlock,Go.Sort.ahead,grow],fun k hk=>?_⟩
 unfold sortWorld
 rw [heap_grow_old _ _ (by simp [putRow,mapBlock,Go.Sort.ahead];omega)]
 have:g≠k:=by omega
 simp [putRow,mapBlock,Go.Sort.ahead,Array.getElem?_modify,this]
set_option maxHeartbeats 3200000 in
set_option maxRecDepth 100000 in
theorem turns_some (rs:List Rum) (v:Value) (m:Nat) (hn:rs.length=m+1) (hsm:m < 1000):TurnsSays rs v:=by
 intro w hv
 obtain ⟨i0,hi0,hz0,hzs,hzb⟩:=info_parts Tryz.infoI
 obtain ⟨pa,ca,rfl,_,ha⟩:=hv
 obtain ⟨b,off,hpa,hlb,hr⟩:∃ b off,pa=some ⟨b,off,none⟩∧b < w.heap.size∧RRow w b off rs:=by
  rcases ha with h | h
  ·rw [h] at hn;simp at hn
  ·exact h
 subst hpa
 have HR:Hid (RRow w b off rs):=hr
 have HN:Hid (rs.length=m+1):=hn
 rw [hn]
 clear ha hr hn
 have eg:∀ args w,(callFunc 193 args).run Tryz.prog w=.ok (.enter 193 args) w:=enters_of Tryz.func193 (by kernel_rfl) rfl
 have HEG:Hid (∀ args w,(callFunc 193 args).run Tryz.prog w=.ok (.enter 193 args) w):=eg
 clear eg
 go_enter Tryz.func159,Tryz.ntmps159
 go_wp2_with fail
 go_loopw [3,7] (fun o i wr=>∃ k:Nat,k≤m+1∧i=.int .i64 k∧Hid (wr.ownsRow (w.heap.size+1) 3 1 o k (intL k))∧Hid (Below (w.heap.size+1) (w.alloc (.cells #[.slice (some ⟨b,off,none⟩) (m+1) ca] 23)) wr)) (fun _ i _=>m+1 - (intOf i).toNat)
 case atStart=>exact ⟨0,Nat.zero_le _,rfl,World.ownsRow_nil _ _ _ _,Below.refl _ _⟩
 case round=>
  obtain ⟨k,hk,rfl,HO,HB⟩:=hrel
  have hsz:w.heap.size+1≤wr.heap.size:=by have:=HB.out.size;simpa using this
  by_cases hlt:k < m+1
  ·have HO2:Hid (∀ ob,(wr.alloc ob).ownsRow (w.heap.size+1) 3 1 u3 k (intL k)):=fun ob=>by
    obtain ⟨h1,h2⟩:=HO.out
    refine ⟨h1,?_⟩
    rcases h2 with h2 | ⟨g,c,cur,hv,hbg,hg,hr⟩
    ·exact .inl h2
    ·exact .inr ⟨g,c,cur,hv,hbg,by rw [((Below.refl wr.heap.size wr).alloc (Nat.le_refl _) ob).block g (Array.getElem?_eq_some_iff.1 hg).1];exact hg,hr⟩
   have HLT:Hid (∀ j,u3.ownBlock=some j→w.heap.size+1≤j):=fun j hj=>(World.ownsRow.lt HO.out j hj).1
   clear HO
   go_wp2_with (at_builtin;refine wpList_append_own _ rfl _ _ 177 rfl (w.heap.size+1) 3 i0 _ 1 8 Tryz.underlying177 hi0 hz0 hzs hzb rfl (by omega) _ k (intL k) rfl ?hown ⟨wr.heap.size,0,none⟩ 1 1 [.int .i64 k] rfl rfl ?hnews (by simp [Value.oneCell']) ?h63 ?hbytes ?hbase ?_)
   case hown=>exact HO2.out _
   case hnews=>(intro j u hj;rw [Addr.add_lit];exact (cell_top' rfl).trans (by simpa using hj))
   case h63=>(unfold maxLen;omega)
   case hbytes=>omega
   case hbase=>(simp;omega)
   intro v' w2 r1 r2 r3
   have R1:Hid (w2.ownsRow (w.heap.size+1) 3 1 v' (k+1) (intL (k+1))):=by rw [intL_succ];exact r1
   have R2:Hid (Below (w.heap.size+1) (w.alloc (.cells #[.slice (some ⟨b,off,none⟩) (m+1) ca] 23)) w2):=
    (HB.out.alloc hsz _).grown r2 (by simp;omega) (fun j hj=>HLT.out j hj)
   clear r1 r2 r3
   go_wp2_with fail
   exact ⟨⟨k+1,by omega,by go_num,R1.out,R2.out⟩,by simp [intOf];omega⟩
  ·have hkn:k=m+1:=by omega
   subst hkn
   obtain ⟨g,c,hu3,hbg,hcm,hcell,hfz⟩:∃ g c,u3=.slice (some ⟨g,0,none⟩) (m+1) c∧w.heap.size+1≤g∧m+1≤c∧(∀ j,j < m+1→wr.cell? ⟨g,j,none⟩=some (.int .i64 (j:Nat)))∧(∀ j,wr.frozen? ⟨g,j,none⟩=false):=by
    have hO:=HO.out
    rcases HO.out.2 with ⟨_,h0⟩ | ⟨g,c,cur,hv,hbg,hg,hnc,hcm,hcs,htake⟩
    ·omega
    ·subst hv
     refine ⟨g,c,rfl,hbg,hnc,fun j hj=>?_,fun j=>World.ownsRow.frozenAt hO j⟩
     rw [World.ownsRow.cellAt hO j (by omega)]
     simp [intL,hj]
   subst hu3
   have hgw:g < wr.heap.size:=World.block_lt_of_cell? wr ⟨g,0,none⟩ (hcell 0 (by omega))
   have hlbx:wr.cell? ⟨w.heap.size,0,none⟩=some (.slice (some ⟨b,off,none⟩) (m+1) ca):=by
    rw [HB.out.cell (p:=⟨w.heap.size,0,none⟩) (by simp only;omega)];exact cell_top' rfl
   have hrow:RRow wr b off rs:=(HR.out.below ((Below.refl w.heap.size w).alloc (Nat.le_refl _) _) hlb).below HB.out (by omega)
   have hcon:=Any.slices_SortFunc Tryz.sortI (encF m) (fun _=>rfl) (cfF rs m) (swoF rs m) 193 #[.pointer (some ⟨w.heap.size,0,none⟩)] g 0 c (allF m) wr HEG.out (cmpF rs m w.heap.size b off ca g wr HN.out hrow hlbx (by omega) (by omega) (by omega)) (fun j hj=>by
    rw [allF_size] at hj
    rw [allF_get m j hj,Nat.zero_add]
    exact ⟨hcell j hj,hfz j⟩) hgw (by rw [allF_size];omega)
   have hcon2:Calls Tryz.prog 192 #[.slice (some ⟨g,0,none⟩) (m+1) c,.func (.func 193) #[] #[.pointer (some ⟨w.heap.size,0,none⟩)]] wr fun e w'=>e=.returned (.tuple #[])∧∃ d' n os,PermIn 0 (allF m).size (allF m) d'∧SortedIn (ltOf (cfF rs m)) 0 (allF m).size d'∧w'=sortWorld (encF m) wr g 0 n d' os:=by
    have h:=hcon
    rw [show Value.slice (some ⟨g,0,none⟩) (allF m).size c=Value.slice (some ⟨g,0,none⟩) (m+1) c by rw [allF_size]] at h
    exact h
   have HHH:Hid (Holds (encF m) wr g 0 (allF m)):=fun j hj=>by
    rw [allF_size] at hj
    rw [allF_get m j hj,Nat.zero_add]
    exact ⟨hcell j hj,hfz j⟩
   clear hcon hcell hfz hrow HO
   go_wp2_with fail
   refine hcon2.mono ?_
   rintro e w2 ⟨rfl,d',nd,os,hp,hs,hw2⟩
   have HORD:Hid (IsOrd rs (d'.toList.map (·.val))):=isOrd_of HN.out hp hs
   have hds:d'.size=m+1:=by rw [hp.1,allF_size]
   have HCT:Hid (∀ j,j < m+1→w2.cell? ⟨g,j,none⟩=some (.int .i64 ((d'.toList.map (·.val)).getD j 0:Nat))):=fun j hj=>by
    have h1:=cell?_putRow (encF m) (Go.Sort.ahead wr nd) g 0 (allF m) d' (show Holds (encF m) (Go.Sort.ahead wr nd) g 0 (allF m) from HHH.out) hp.1 j (by omega)
    have h2:w2.cell? ⟨g,0+j,none⟩=(putRow (encF m) (Go.Sort.ahead wr nd) g 0 d').cell? ⟨g,0+j,none⟩:=by
     rw [hw2]
     exact cell?_grow _ _ _ (by
      have h3:=World.block_lt_of_cell? (putRow (encF m) (Go.Sort.ahead wr nd) g 0 d') ⟨g,0+j,none⟩ h1
      exact h3)
    rw [Nat.zero_add] at h1 h2
    rw [h2,h1,getElem!_pos d' j (by omega)]
    simp [encF,List.getD,hds,hj]
   have HBB:Hid (Below w.heap.size w w2):=by
    rw [hw2]
    exact (((Below.refl w.heap.size w).alloc (Nat.le_refl _) _).trans (HB.out.mono (Nat.le_succ _))).trans (below_sortWorld (by omega) (by omega))
   clear HHH hp hs hw2
   go_wp2_with fail
   go_ret
   exact ⟨g,c,d'.toList.map (·.val),rfl,HORD.out,HCT.out,hcm,by omega,HBB.out⟩
set_option maxHeartbeats 1600000 in
theorem turns_none (v:Value) (w:World) (hv:RSl w v []) :
 Calls Tryz.prog 159 #[v] w fun e w'=>e=.returned (.slice none 0 0)∧Below w.heap.size w w':=by
 obtain ⟨pa,ca,rfl,_,_⟩:=hv
 simp only [List.length_nil]
 have hs:=fun (fv:Value) (W:World)=>AnyF.slices_SortFunc_none (P:=Tryz.prog) (ρ:=Tryz.sortI_ren) { Tryz.sortI with } none 0 fv W
 have HS:Hid (∀ (fv:Value) (W:World),Calls Tryz.prog 192 #[.slice none 0 0,fv] W fun e w'=>e=.returned (.tuple #[])∧w'=W):=hs
 clear hs
 have hB0:Below w.heap.size w (w.alloc (.cells #[.slice pa 0 ca] 23)):=(Below.refl _ _).alloc (Nat.le_refl _) _
 go_enter Tryz.func159,Tryz.ntmps159
 go_wp2_with fail
 refine wp_loop_rounds 1 ?_
 rw [rounds_succ]
 go_wp2_with fail
 refine (HS.out _ _).mono ?_
 rintro e w' ⟨rfl,rfl⟩
 go_wp2_with fail
 go_ret
 exact ⟨rfl,hB0⟩
set_option maxHeartbeats 1600000 in
theorem indexFunc_none (p:Option Addr) (c:Nat) (fv:Value) (w:World) :
 Calls Tryz.prog 156 #[.slice p 0 c,fv] w fun e w'=>e=.returned (.int .i64 (-1))∧w'=w:=by
 go_enter Tryz.func156,Tryz.ntmps156
 go_wp2_with fail
 refine wp_loop_rounds 1 ?_
 rw [rounds_succ]
 go_wp2_with fail
 go_ret
 exact ⟨rfl,rfl⟩
set_option maxHeartbeats 1600000 in
theorem deleteFunc_none (p:Option Addr) (c:Nat) (fv:Value) (w:World) :
 Calls Tryz.prog 160 #[.slice p 0 c,fv] w fun e w'=>e=.returned (.slice p 0 c)∧w'=w:=by
 go_enter Tryz.func160,Tryz.ntmps160
 go_wp2_with fail
 refine (indexFunc_none _ _ _ _).mono ?_
 rintro e w' ⟨rfl,rfl⟩
 go_wp2_with fail
 go_ret
 exact ⟨rfl,rfl⟩
set_option maxHeartbeats 1600000 in
theorem take_none (v:Value) (most times:Int) (w:World) (hv:RSl w v []) (h0:chkR []=0) (hm:within most 1 20=true) (ht:within times 1 100=true) :
 Calls Tryz.prog 112 #[v,.int .i64 most,.int .i64 times] w fun e w'=>∃ v1 v2,e=.returned (.tuple #[v1,v2,.int .i64 0])∧Own w.heap.size w' v1 []∧ROwn w.heap.size w' v2 []∧Below w.heap.size w w':=by
 have HV:Hid (RSl w v []):=hv
 have hm1:1≤most∧most≤20:=by simp [within] at hm;omega
 obtain ⟨hm1,hm2⟩:=hm1
 have hchk:=fun (w:World) (h:RSl w v [])=>checkR_any [] v w h
 rw [h0] at hchk
 obtain ⟨pa,ca,rfl,_,_⟩:=hv
 simp only [List.length_nil] at *
 have hB0:Below w.heap.size w (w.alloc (.cells #[.int .i64 times] 3)):=(Below.refl _ _).alloc (Nat.le_refl _) _
 go_enter Tryz.func112,Tryz.ntmps112
 go_wp2_with fail
 refine (hchk _ (HV.out.below hB0)).mono ?_
 rintro e w1 ⟨rfl,hb1⟩
 have c1:w1.cell? ⟨w.heap.size,0,none⟩=some (.int .i64 times):=by
  rw [hb1.cell (p:=⟨w.heap.size,0,none⟩) (by simp)];exact cell_top' rfl
 have HB1:Hid (Below w.heap.size w w1):=hB0.trans (hb1.mono (by simp))
 clear hb1 hB0 hchk
 go_wp2_with (go_at_call 97;refine (within_any _ _ _ _).mono ?_;rintro e w' ⟨rfl,rfl⟩;first | rw [hm] | rw [ht])
 refine (rclone_any [] _ _ (HV.out.below HB1.out) (by simp)).mono ?_
 rintro e w3 ⟨v3,rfl,ho3,hb3⟩
 have HO3:Hid (ROwn w.heap.size w3 v3 []):=ho3.base HB1.out.size
 have HB3:Hid (Below w.heap.size w w3):=HB1.out.trans (hb3.mono HB1.out.size)
 clear hb3 ho3 c1
 go_wp2_with fail
 refine (turns_none _ _ (HV.out.below HB3.out)).mono ?_
 rintro e w4 ⟨rfl,hb4⟩
 have HB4:Hid (Below w.heap.size w w4):=HB3.out.trans (hb4.mono HB3.out.size)
 have HO4:Hid (ROwn w.heap.size w4 v3 []):=HO3.out.below hb4
 clear hb4 HO3
 obtain ⟨g,c,hv3⟩:∃ g c,v3=.slice g 0 c:=by
  rcases HO4.out.2 with ⟨h,_⟩ | ⟨g,c,cur,h,_⟩
  ·exact ⟨_,_,h⟩
  ·exact ⟨_,_,h⟩
 subst hv3
 have hmin:min most 0=0:=by omega
 go_wp2_with fail
 refine wp_loop_rounds 1 ?_
 rw [rounds_succ]
 go_wp2_with fail
 refine (deleteFunc_none _ _ _ _).mono ?_
 rintro e w' ⟨rfl,rfl⟩
 go_wp2_with fail
 go_ret3
 exact ⟨_,_,rfl,own_nil _ _,HO4.out,HB4.out⟩
end Go.Proofs.YtikgjgmgbfjcgaaGreat
