import Derived.Test.YtffdoiokmiklgaaGreatDoorX20
import Derived.Shelf.RegionOpen
import Derived.Test.YtffdoiokmiklgaaGreatDoorX25
import Derived.Test.YtffdoiokmiklgaaGreatDoorX28
import Derived.Test.YtffdoiokmiklgaaGreatDoorX1
import Derived.Test.YtffdoiokmiklgaaGreatDoorX3
import Derived.Laws.StructEq
import Derived.Test.YtffdoiokmiklgaaGreatDoorX4
import Derived.Test.YtffdoiokmiklgaaGreatDoorX9
import Derived.Lib.SmallJoins
import Derived.Deep.Cut
import Derived.Below
import Derived.Test.YtffdoiokmiklgaaGreatDoorX27
import Derived.Test.YtffdoiokmiklgaaGreatDoorX2
import Derived.Test.YtffdoiokmiklgaaGreatDoorX12
namespace Go.Proofs.YtffdoiokmiklgaaGreatDoor
open Go.RowKit
theorem Tryz.cellsByte:Tryz.prog.cellsOf 5=1:=by kernel_rfl
set_option maxHeartbeats 1000000 in
set_option maxRecDepth 100000 in
theorem string_any (B b:Nat) (l:List UInt8) (w:World) (h:IsW B b (Lib.byteCells l) w) (h0:l≠[]) :
 Calls Tryz.prog 252 #[.pointer (some ⟨b,0,none⟩)] w fun e w'=>e=.returned (.string ⟨l.toArray⟩)∧Below B w w':=by
 obtain ⟨p,hB,v,hbk,hown,hne⟩:∃ p,WAt B b p (Lib.byteCells l) w:=by
  rcases h with h | h
  ·exact ⟨_,h⟩
  ·exact ⟨_,h⟩
 have hl0:l.length≠0:=by simpa using h0
 rw [Lib.byteCells_length] at hown
 obtain ⟨g,cap,cur,rfl,hbg,hg,hnc,hcm,hcs,htake⟩:∃ g cap cur,v=.slice (some ⟨g,0,none⟩) l.length cap∧B≤g∧w.heap[g]?=some (.cells cur 5 (0,0))∧l.length≤cap∧cap≤maxLen∧cur.size=cap * 1∧cur.toList.take (l.length * 1)=Lib.byteCells l:=by
  rcases hown.2 with ⟨_,hz⟩ | ⟨g,cap,cur,hv,r⟩
  ·exact absurd hz hl0
  ·exact ⟨g,cap,cur,hv,r⟩
 have c1:w.drew.cell? ⟨b,1,none⟩=some (.slice (some ⟨g,0,none⟩) l.length cap):=by
  have:w.drew.heap[b]?=some (.cells #[p,.slice (some ⟨g,0,none⟩) l.length cap] 272 (0,0)):=hbk
  rw [Lib.cell_of_heap this];rfl
 have hSD:(Builtin.unsafeSliceData_ #[157] 307 #[.slice (some ⟨g,0,none⟩) l.length cap]).run Tryz.prog w.drew=.ok (.pointer (some ⟨g,0,none⟩)) w.drew:=
  Lib.run_unsafeSliceData_row _ _ _ _ _ _ (by omega)
 have hUS:(Builtin.unsafeString_ #[307,3] 9 #[.pointer (some ⟨g,0,none⟩),.int .i64 l.length]).run Tryz.prog w.drew=.ok (.string ⟨l.toArray⟩) (w.drew.freeze ⟨g,0,none⟩ l.length):=by
  refine Lib.run_unsafeString_row w.drew 307 3 9 5 Tryz.underlying307 Tryz.cellsByte g cur.size (by have hg':w.drew.heap[g]?=some (.cells cur 5 (0,0)):=hg;simp [World.shape?,hg']) l h0 (by omega) (by unfold maxLen at hcm;omega) ?_
  intro j x hx
  have:=hown.cells (g:=g) rfl j (.int .u8 x.toNat) (by simp [Lib.byteCells,hx])
  exact this
 have mixed:Tryz.prog.follows .mixedOrders=true:=by kernel_rfl
 go_enter Tryz.func252,Tryz.ntmps252
 go_wp2_with fail
 go_region_o
 all_goals (go_wp2;go_ret;exact ⟨rfl,Lib.below_freeze (Below.drew (Below.refl B w)) (p:=⟨g,0,none⟩) hbg _⟩)
theorem lab_size {s:ByteArray} (h:labB s=true):s.size≤1000:=by
 unfold labB at h
 simp only [Bool.and_eq_true,decide_eq_true_eq] at h
 have:=h.1.2
 omega
theorem tag_size {s:ByteArray} (h:Sv.tagB s=true):s.size≤1000:=by
 unfold Sv.tagB at h
 rw [Bool.or_eq_true,decide_eq_true_eq] at h
 rcases h with rfl | h
 ·show 0≤1000;omega
 ·exact lab_size h
theorem within_in {n a b:Int} (h:within n a b=true) (ha : -9223372036854775808≤a) (hb:b≤9223372036854775807):In63 n:=by
 unfold within at h
 rw [Bool.and_eq_true,decide_eq_true_eq,decide_eq_true_eq] at h
 exact ⟨by omega,by omega⟩
theorem wokM {m:Mem} (h:m.e=0):wok m:=by
 unfold Mem.e oneE at h
 split at h
 ·rename_i h1
  split at h
  ·rename_i h2
   split at h
   ·rename_i h3
    split at h
    ·rename_i h4
     exact ⟨lab_size h1,within_in h2 (by omega) (by omega),within_in h3 (by omega) (by omega),within_in h4 (by omega) (by omega)⟩
    ·cases h
   ·cases h
  ·cases h
 ·cases h
theorem wokS {m:Sv.Svc} (h:m.e=0):Sv.wok m:=by
 unfold Sv.Svc.e at h
 split at h
 ·rename_i h1
  split at h
  ·rename_i h2
   simp only [Bool.and_eq_true] at h1 h2
   exact ⟨lab_size h1.1,lab_size h1.2.1,lab_size h1.2.2.1,tag_size h1.2.2.2,within_in h2.1 (by omega) (by omega),within_in h2.2.1 (by omega) (by omega),within_in h2.2.2 (by omega) (by omega)⟩
  ·cases h
 ·cases h
theorem wokG {m:Gw.Gwy} (h:m.e=0):Gw.wok m:=by
 unfold Gw.Gwy.e at h
 split at h
 ·rename_i h1
  split at h
  ·rename_i h2
   split at h
   ·rename_i h3
    exact ⟨lab_size h1,within_in h2 (by omega) (by omega),within_in h3 (by omega) (by omega)⟩
   ·cases h
  ·cases h
 ·cases h
theorem wokW {m:Wh.Whe} (h:m.e=0):Wh.wok m:=by
 unfold Wh.Whe.e at h
 split at h
 ·rename_i h1
  obtain ⟨a0,a1,a2,a3,a4,a5,a6,a7,a8,a9⟩:=(okP_iff _).1 h
  simp only at a0 a1 a2 a3 a4 a5 a6 a7 a8 a9
  exact ⟨lab_size h1,⟨by omega,by omega⟩,⟨by omega,by omega⟩,⟨by omega,by omega⟩,⟨by omega,by omega⟩,⟨by omega,by omega⟩⟩
 ·cases h
theorem chk_firstE {ms:List Mem} (h:chk ms=0):firstE ms=0:=(chk_zero h).2.2
theorem pk_wok {p:Pk} (h:p.e=0):p.Wok:=by
 unfold Pk.e at h
 split at h
 ·rename_i h0
  rw [Bool.and_eq_true] at h0
  split at h
  ·rename_i h1
   have hm:p.ms.length≤20∧∀ m∈p.ms,wok m:=by
    unfold Pk.mE at h1
    split at h1
    ·exact ⟨(chk_zero h1).1,fun m hm=>wokM (firstE_mem _ (chk_firstE h1) m hm)⟩
    ·obtain ⟨a,b,_⟩:=chkT_zero h1
     exact ⟨by omega,fun m hm=>wokM (firstE_mem _ b m hm)⟩
   split at h
   ·rename_i h2
    split at h
    ·rename_i h3
     exact ⟨lab_size h0.1,hm,⟨(Sv.chk_zero h2).1,fun m hm=>wokS (Sv.firstE_mem _ (Sv.chk_zero h2).2.2 m hm)⟩,⟨(Gw.chk_zero h3).1,fun m hm=>wokG (Gw.firstE_mem _ (Gw.chk_zero h3).2.2 m hm)⟩,⟨(Wh.chk_zero h).1,fun m hm=>wokW (Wh.firstE_mem _ (Wh.chk_zero h).2.2 m hm)⟩⟩
    ·rename_i h3;exact absurd h h3
   ·rename_i h2;exact absurd h h2
  ·rename_i h1;exact absurd h h1
 ·cases h
def Pk.T (p:Pk):ByteArray:=if p.e=0 then ⟨p.B.toArray⟩ else ⟨#[]⟩
theorem Pk.B_ne (p:Pk):p.B≠[]:=by
 unfold Pk.B txtB numB
 simp
set_option maxHeartbeats 3200000 in
set_option maxRecDepth 100000 in
theorem pwrite_any (p:Pk) (zm zs zg zw:Value) (w:World) (hx:PkIs w p zm zs zg zw) (hlen:p.whole=true∨p.sv.length+p.gw.length+p.wh.length≤4611686018427387904) (hT:Tab w.heap.size w) :
 Calls Tryz.prog 221 #[.agg #[.string p.frm,.bool p.whole,zm,zs,zg,zw]] w fun e w'=>e=.returned (.tuple #[.string p.T,.int .i64 p.e])∧Below w.heap.size w w':=by
 have HCK:Hid (∀ W,Below w.heap.size w W→Calls Tryz.prog 88 #[.agg #[.string p.frm,.bool p.whole,zm,zs,zg,zw]] W fun e w'=>e=.returned (.int .i64 p.e)∧Below W.heap.size W w'):=fun W hW=>pcheck_any p zm zs zg zw W (hx.below hW) hlen
 have HWP:Hid (p.e=0→∀ W b,Below w.heap.size w W→IsW w.heap.size b [] W→Calls Tryz.prog 251 #[.pointer (some ⟨b,0,none⟩),.agg #[.string p.frm,.bool p.whole,zm,zs,zg,zw]] W fun e w'=>e=.returned (.tuple #[])∧IsW w.heap.size b (Lib.byteCells p.B) w'∧Kp w.heap.size b W w'):=fun h0 W b hW hI=>by
  have h:=wpacket_any w.heap.size b p zm zs zg zw w W hI hx rfl hW hW.size (hT.below hW) (pk_wok h0)
  rw [p.L_eq] at h
  exact h
 have HPT:Hid (p.T=if p.e=0 then ⟨p.B.toArray⟩ else ⟨#[]⟩):=rfl
 have HNE:Hid (p.B≠[]):=p.B_ne
 generalize p.B=PB at *
 generalize p.T=PT at *
 generalize p.e=pe at *
 obtain ⟨frm,whole,ms,sv,gw,wh⟩:=p
 obtain ⟨⟨pm,cm,rfl,_,_⟩,⟨ps,cs,rfl,_,_⟩,⟨pg,cg,rfl,_,_⟩,⟨ph,ch,rfl,_,_⟩,_,_⟩:=hx
 simp only at HCK HWP ⊢
 generalize ms.length=nm at *
 generalize sv.length=ns at *
 generalize gw.length=ng at *
 generalize wh.length=nh at *
 clear hlen hT
 obtain ⟨W0,hW0⟩:∃ W0,W0=w.alloc (.cells #[.string frm,.bool whole,.slice pm nm cm,.slice ps ns cs,.slice pg ng cg,.slice ph nh ch] 67):=⟨_,rfl⟩
 have hb0:Below w.heap.size w W0:=by rw [hW0];exact (Below.refl _ _).alloc (Nat.le_refl _) _
 have hg0:W0.heap[w.heap.size]?=some (.cells #[.string frm,.bool whole,.slice pm nm cm,.slice ps ns cs,.slice pg ng cg,.slice ph nh ch] 67 (0,0)):=by rw [hW0];exact heap_alloc_new w _
 have HB0:Hid (Below w.heap.size w W0):=hb0
 have HG0:Hid (W0.heap[w.heap.size]?=some (.cells #[.string frm,.bool whole,.slice pm nm cm,.slice ps ns cs,.slice pg ng cg,.slice ph nh ch] 67 (0,0))):=hg0
 have p0:W0.cell? ⟨w.heap.size,0,none⟩=_:=cellsAt hg0 0
 have p1:W0.cell? ⟨w.heap.size,1,none⟩=_:=cellsAt hg0 1
 have p2:W0.cell? ⟨w.heap.size,2,none⟩=_:=cellsAt hg0 2
 have p3:W0.cell? ⟨w.heap.size,3,none⟩=_:=cellsAt hg0 3
 have p4:W0.cell? ⟨w.heap.size,4,none⟩=_:=cellsAt hg0 4
 have p5:W0.cell? ⟨w.heap.size,5,none⟩=_:=cellsAt hg0 5
 clear hb0 hg0
 go_enter Tryz.func221,Tryz.ntmps221
 go_upto_region 1 with fail
 rw [← hW0]
 clear hW0
 go_wp2_with fail
 refine (HCK.out W0 HB0.out).mono ?_
 rintro e w1 ⟨rfl,hb1⟩
 have HB1:Hid (Below w.heap.size w w1):=HB0.out.trans (hb1.mono HB0.out.size)
 have hg1:w1.heap[w.heap.size]?=some (.cells #[.string frm,.bool whole,.slice pm nm cm,.slice ps ns cs,.slice pg ng cg,.slice ph nh ch] 67 (0,0)):=(hb1.block _ (Array.getElem?_eq_some_iff.1 HG0.out).1).trans HG0.out
 have HG1:Hid (w1.heap[w.heap.size]?=some (.cells #[.string frm,.bool whole,.slice pm nm cm,.slice ps ns cs,.slice pg ng cg,.slice ph nh ch] 67 (0,0))):=hg1
 clear hb1 hg1 p0 p1 p2 p3 p4 p5
 by_cases h0:pe=0
 rotate_left
 ·have HT2:Hid (PT=⟨#[]⟩):=HPT.out.trans (if_neg h0)
  have h1:(pe != 0)=true:=by simpa using h0
  clear h0
  go_wp2_with fail
  refine bodyPost_ret (v:=.tuple #[.string ⟨#[]⟩,.int .i64 pe]) ?_ rfl ?_
  ·simp [results,Tryz.results221,go_sem]
  ·exact ⟨by rw [HT2.out],HB1.out⟩
 ·subst h0
  have HT2:Hid (PT=⟨PB.toArray⟩):=HPT.out.trans (if_pos rfl)
  have HWQ:=HWP.out rfl
  have HWR:Hid _:=HWQ
  clear HWQ HWP HPT
  obtain ⟨W2,hW2⟩:∃ W2,W2=w1.alloc (.cells #[.pointer none,.slice none 0 0] 272):=⟨_,rfl⟩
  have hb2:Below w1.heap.size w1 W2:=by rw [hW2];exact (Below.refl _ _).alloc (Nat.le_refl _) _
  have hw2:W2.heap[w1.heap.size]?=some (.cells #[.pointer none,.slice none 0 0] 272 (0,0)):=by rw [hW2];exact heap_alloc_new w1 _
  have HI2:Hid (IsW w.heap.size w1.heap.size [] W2):=.inl ⟨HB1.out.size,.slice none 0 0,hw2,⟨by simp,.inl ⟨rfl,rfl⟩⟩,by simp [Value.ownBlock]⟩
  have hbw2:Below w.heap.size w W2:=HB1.out.trans (hb2.mono HB1.out.size)
  have HBW2:Hid (Below w.heap.size w W2):=hbw2
  have hg2:W2.heap[w.heap.size]?=some (.cells #[.string frm,.bool whole,.slice pm nm cm,.slice ps ns cs,.slice pg ng cg,.slice ph nh ch] 67 (0,0)):=(hb2.block _ (Array.getElem?_eq_some_iff.1 HG1.out).1).trans HG1.out
  have p0:W2.cell? ⟨w.heap.size,0,none⟩=_:=cellsAt hg2 0
  have p1:W2.cell? ⟨w.heap.size,1,none⟩=_:=cellsAt hg2 1
  have p2:W2.cell? ⟨w.heap.size,2,none⟩=_:=cellsAt hg2 2
  have p3:W2.cell? ⟨w.heap.size,3,none⟩=_:=cellsAt hg2 3
  have p4:W2.cell? ⟨w.heap.size,4,none⟩=_:=cellsAt hg2 4
  have p5:W2.cell? ⟨w.heap.size,5,none⟩=_:=cellsAt hg2 5
  clear hb2 hw2 hg2 hbw2
  go_upto_region 5 with fail
  rw [← hW2]
  clear hW2
  go_wp2_with fail
  refine (HWR.out W2 w1.heap.size HBW2.out HI2.out).mono ?_
  rintro e w3 ⟨rfl,h3,hk3⟩
  have HI3:Hid (IsW w.heap.size w1.heap.size (Lib.byteCells PB) w3):=h3
  have HB3:Hid (Below w.heap.size w w3):=HBW2.out.trans hk3.bel
  clear h3 hk3 p0 p1 p2 p3 p4 p5
  go_wp2_with fail
  refine (string_any w.heap.size w1.heap.size PB w3 HI3.out HNE.out).mono ?_
  rintro e w4 ⟨rfl,hb4⟩
  have HB4:Hid (Below w.heap.size w w4):=HB3.out.trans hb4
  clear hb4
  go_wp2_with fail
  refine bodyPost_ret (v:=.tuple #[.string ⟨PB.toArray⟩,.int .i64 0]) ?_ rfl ?_
  ·simp [results,Tryz.results221,go_sem]
  ·exact ⟨by rw [HT2.out],HB4.out⟩
theorem dg_nat {d:Nat} (h:d < 10):(UInt8.ofNat (48+d)).toNat=48+d:=by
 rw [UInt8.toNat_ofNat']
 omega
theorem pu_dec (u:Nat) (hu:u < 18446744073709551616) (t:List UInt8):Lib.parseUint10 0 (Lib.decDigits u++t)=Lib.parseUint10 u t:=by
 induction u using Nat.strongRecOn generalizing t with
 | _ u ih=>
   rw [Lib.decDigits]
   split
   ·rename_i h
    rw [List.singleton_append,Lib.parseUint10,dg_nat h,if_pos (by omega),if_neg (by omega),if_neg (by omega)]
    congr 1
    omega
   ·rename_i h
    rw [List.append_assoc,ih (u / 10) (by omega) (by omega),List.singleton_append,Lib.parseUint10,dg_nat (by omega),if_pos (by omega),if_neg (by omega),if_neg (by omega)]
    congr 1
    omega
theorem dec_all (u:Nat):∀ c∈Lib.decDigits u,48≤c.toNat∧c.toNat≤57:=by
 induction u using Nat.strongRecOn with
 | _ u ih=>
   intro c hc
   rw [Lib.decDigits] at hc
   split at hc
   ·rename_i h
    rw [List.mem_singleton.1 hc,dg_nat h]
    omega
   ·rename_i h
    rcases List.mem_append.1 hc with hc | hc
    ·exact ih (u / 10) (by omega) c hc
    ·rw [List.mem_singleton.1 hc,dg_nat (by omega)]
     omega
theorem dec_ne (u:Nat):Lib.decDigits u≠[]:=by
 rw [Lib.decDigits]
 split<;>simp
theorem pm_dec {u:Nat} (hu:u < 18446744073709551616):Lib.parseMag (Lib.decDigits u)=.ok u:=by
 unfold Lib.parseMag
 rw [if_neg (dec_ne u)]
 have:=pu_dec u hu []
 rw [List.append_nil] at this
 rw [this];rfl
theorem atoi_itoa {n:Int} (h:In63 n):Lib.atoiAll (Lib.itoa n)=.ok n:=by
 unfold Lib.itoa
 obtain ⟨h1,h2⟩:=h
 split
 ·rw [Lib.atoiAll_minus,pm_dec (by omega)]
  unfold Lib.signed
  simp only
  rw [if_neg (by omega)]
  congr 1
  omega
 ·cases hd:Lib.decDigits n.toNat with
  | nil=>exact absurd hd (dec_ne _)
  | cons c r=>
    have hc:=dec_all n.toNat c (by rw [hd];exact List.mem_cons_self)
    rw [Lib.atoiAll_plain c r (by omega) (by omega),← hd,pm_dec (by omega)]
    unfold Lib.signless
    simp only
    rw [if_neg (by omega)]
    congr 1
    omega
theorem itoa_no59 (n:Int):∀ c∈Lib.itoa n,c≠59:=by
 intro c hc
 unfold Lib.itoa at hc
 split at hc
 ·rcases List.mem_cons.1 hc with rfl | hc
  ·decide
  ·have:=dec_all _ c hc
   intro e
   subst e
   have:(59:UInt8).toNat=59:=rfl
   omega
 ·have:=dec_all _ c hc
  intro e
  subst e
  have:(59:UInt8).toNat=59:=rfl
  omega
theorem ix_at:∀ (l r:List UInt8),(∀ c∈l,c≠59)→Lib.indexByte (l++59 :: r) 59=(l.length:Int)
 | [],r,_=>by
   unfold Lib.indexByte
   simp
 | x :: l,r,h=>by
   have ih:=ix_at l r (fun c hc=>h c (List.mem_cons_of_mem _ hc))
   have hx:=h x List.mem_cons_self
   rw [List.cons_append,Lib.indexByte,if_neg (by simpa using hx),ih,if_neg (by simp)]
   rw [List.length_cons];omega
theorem ix_byte (c:UInt8):∀ {l:List UInt8} {i:Nat},Lib.indexByte l c=(i:Int)→l=l.take i++c :: l.drop (i+1)
 | [],i,h=>by unfold Lib.indexByte at h;omega
 | x :: r,i,h=>by
   unfold Lib.indexByte at h
   split at h
   ·rename_i hx
    have hi:i=0:=by omega
    subst hi
    have:x=c:=by simpa using hx
    rw [this];simp
   ·split at h
    ·omega
    ·rename_i h2
     have hg:=Lib.indexByte_ge r c
     obtain ⟨j,rfl⟩:∃ j,i=j+1:=⟨i - 1,by have:Lib.indexByte r c ≠ -1:=by simpa using h2
                                         omega⟩
     have:=ix_byte c (l:=r) (i:=j) (by omega)
     rw [List.take_succ_cons,List.drop_succ_cons,List.cons_append,← this]
theorem rdN_num {n:Int} (h:In63 n) (r:List UInt8):rdN (numB n++r)=some (n,r):=by
 unfold rdN numB
 rw [List.append_assoc,List.singleton_append,ix_at _ r (itoa_no59 n),if_neg (by omega),Int.toNat_natCast,List.take_left,atoi_itoa h]
 simp only [if_true]
 congr 2
 have e:Lib.itoa n++59 :: r=(Lib.itoa n++[59])++r:=by simp
 rw [e,List.drop_left' (by simp)]
theorem rdN_eq {l r:List UInt8} {n:Int} (h:rdN l=some (n,r)):l=numB n++r∧In63 n:=by
 have hin:=(rdN_in h).1
 unfold rdN at h
 split at h
 ·simp at h
 rename_i hne
 obtain ⟨i,hi⟩:∃ i:Nat,Lib.indexByte l 59=(i:Int):=⟨(Lib.indexByte l 59).toNat,by have:=Lib.indexByte_ge l 59;omega⟩
 rw [hi] at h
 simp only [Int.toNat_natCast] at h
 split at h
 case h_2=>simp at h
 rename_i m hm
 split at h
 case isFalse=>simp at h
 rename_i hd
 simp only [Option.some.injEq,Prod.mk.injEq] at h
 obtain ⟨rfl,rfl⟩:=h
 refine ⟨?_,hin⟩
 unfold numB
 rw [hd,List.append_assoc,List.singleton_append]
 exact ix_byte 59 hi
theorem rdT_txt {s:ByteArray} (h:s.size≤140737488355328) (r:List UInt8):rdT (txtB s++r)=some (s,r):=by
 unfold rdT txtB
 rw [List.append_assoc,rdN_num ⟨by omega,by omega⟩]
 simp only
 have hl:s.data.toList.length=s.size:=rfl
 rw [if_pos ⟨by omega,by rw [List.length_append];omega⟩,Int.toNat_natCast,List.take_left' hl,List.drop_left' hl]
 rfl
theorem rdT_eq {l r:List UInt8} {s:ByteArray} (h:rdT l=some (s,r)):l=txtB s++r:=by
 unfold rdT at h
 split at h
 case h_2=>simp at h
 rename_i n r' hn
 split at h
 case isFalse=>simp at h
 rename_i hk
 simp only [Option.some.injEq,Prod.mk.injEq] at h
 obtain ⟨rfl,rfl⟩:=h
 have e:=(rdN_eq hn).1
 unfold txtB
 rw [bstr_size,List.length_take,Nat.min_eq_left (by omega),bstr_list,List.append_assoc,List.take_append_drop,show ((n.toNat:Nat):Int)=n by omega]
 exact e
theorem rdF_flg (y:Bool) (r:List UInt8):rdF (flgB y++r)=some (y,r):=by
 unfold rdF flgB
 rw [rdN_num (by split<;>exact ⟨by omega,by omega⟩)]
 cases y<;>simp
theorem rdF_eq {l r:List UInt8} {y:Bool} (h:rdF l=some (y,r)):l=flgB y++r:=by
 unfold rdF at h
 split at h
 case h_2=>simp at h
 rename_i n r' hn
 have e:=(rdN_eq hn).1
 unfold flgB
 split at h
 ·rename_i h0
  simp only [Option.some.injEq,Prod.mk.injEq] at h
  obtain ⟨rfl,rfl⟩:=h
  rw [e,h0];simp
 ·split at h
  ·rename_i h1
   simp only [Option.some.injEq,Prod.mk.injEq] at h
   obtain ⟨rfl,rfl⟩:=h
   rw [e,h1];simp
  ·simp at h
theorem rdP_nums {x y z u v:Int} (h1:In63 x) (h2:In63 y) (h3:In63 z) (h4:In63 u) (h5:In63 v) (r:List UInt8):rdP ([x,y,z,u,v].flatMap numB++r)=some ((x,y,z,u,v),r):=by
 unfold rdP
 simp only [List.flatMap_cons,List.flatMap_nil,List.append_nil,List.append_assoc,rdN_num h1,rdN_num h2,rdN_num h3,rdN_num h4,rdN_num h5,Option.bind_some]
theorem rdP_eq {l r:List UInt8} {x y z u v:Int} (h:rdP l=some ((x,y,z,u,v),r)):l=[x,y,z,u,v].flatMap numB++r:=by
 unfold rdP at h
 simp only [Option.bind_eq_some_iff,Option.some.injEq,Prod.mk.injEq] at h
 obtain ⟨⟨x',r1⟩,n1,⟨y',r2⟩,n2,⟨z',r3⟩,n3,⟨u',r4⟩,n4,⟨v',r5⟩,n5,⟨rfl,rfl,rfl,rfl,rfl⟩,rfl⟩:=h
 simp only at n1 n2 n3 n4 n5 ⊢
 have e1:=(rdN_eq n1).1
 have e2:=(rdN_eq n2).1
 have e3:=(rdN_eq n3).1
 have e4:=(rdN_eq n4).1
 have e5:=(rdN_eq n5).1
 simp only [List.flatMap_cons,List.flatMap_nil,List.append_nil,List.append_assoc]
 rw [e1,e2,e3,e4,e5]
theorem rdEl_el {m:Mem} (h:wok m) (r:List UInt8):rdEl (elB m++r)=some (m,r):=by
 obtain ⟨h0,h1,h2,h3⟩:=h
 unfold rdEl elB
 simp only [List.flatMap_cons,List.flatMap_nil,List.append_nil,List.append_assoc,rdT_txt (s:=m.name) (by omega),rdN_num h1,rdN_num h2,rdN_num h3,rdF_flg m.server,Option.bind_some]
theorem rdEl_eq {l r:List UInt8} {m:Mem} (h:rdEl l=some (m,r)):l=elB m++r:=by
 unfold rdEl at h
 simp only [Option.bind_eq_some_iff,Option.some.injEq,Prod.mk.injEq] at h
 obtain ⟨⟨x0,r1⟩,n0,⟨x1,r2⟩,n1,⟨x2,r3⟩,n2,⟨x3,r4⟩,n3,⟨x4,r5⟩,n4,rfl,rfl⟩:=h
 simp only at n0 n1 n2 n3 n4 ⊢
 have e0:=rdT_eq n0
 have e1:=(rdN_eq n1).1
 have e2:=(rdN_eq n2).1
 have e3:=(rdN_eq n3).1
 have e4:=rdF_eq n4
 unfold elB
 simp only [List.flatMap_cons,List.flatMap_nil,List.append_nil,List.append_assoc]
 rw [e0,e1,e2,e3,e4]
theorem rdLs_el:∀ (E:List Mem),(∀ m∈E,wok m)→∀ (D:List Mem) (r:List UInt8),rdLs E.length (E.flatMap elB++r) D=some (D++E,r)
 | [],_,D,r=>by simp [rdLs]
 | m :: E,h,D,r=>by
   rw [List.flatMap_cons,List.append_assoc,List.length_cons,rdLs,rdEl_el (h m List.mem_cons_self)]
   simp only
   rw [rdLs_el E (fun x hx=>h x (List.mem_cons_of_mem _ hx)) (D++[m]) r,List.append_assoc];rfl
theorem rdLs_eq:∀ {n:Nat} {l r:List UInt8} {D E:List Mem},rdLs n l D=some (E,r)→∃ X:List Mem,X.length=n∧E=D++X∧l=X.flatMap elB++r
 | 0,l,r,D,E,h=>by
   simp only [rdLs,Option.some.injEq,Prod.mk.injEq] at h
   obtain ⟨rfl,rfl⟩:=h
   exact ⟨[],rfl,by simp,by simp⟩
 | n+1,l,r,D,E,h=>by
   simp only [rdLs] at h
   split at h
   ·cases h
   ·rename_i m r' he
    obtain ⟨X,h1,h2,h3⟩:=rdLs_eq h
    exact ⟨m :: X,by simp [h1],by rw [h2];simp,by rw [rdEl_eq he,h3,List.flatMap_cons,List.append_assoc]⟩
theorem rdList_el {E:List Mem} (hl:E.length≤1000) (h:∀ m∈E,wok m) (r:List UInt8):rdList (numB E.length++E.flatMap elB++r)=some (E,r):=by
 unfold rdList
 rw [List.append_assoc,rdN_num ⟨by omega,by omega⟩,Option.bind_some]
 simp only
 rw [if_pos (by omega),Int.toNat_natCast,rdLs_el E h [] r];rfl
theorem rdList_eq {l r:List UInt8} {E:List Mem} (h:rdList l=some (E,r)):l=numB E.length++E.flatMap elB++r:=by
 unfold rdList at h
 rw [Option.bind_eq_some_iff] at h
 obtain ⟨⟨n,r1⟩,h1,h2⟩:=h
 simp only at h2
 split at h2
 ·rename_i h0
  obtain ⟨X,g1,g2,g3⟩:=rdLs_eq h2
  rw [List.nil_append] at g2
  subst g2
  rw [(rdN_eq h1).1,g3,g1,show ((n.toNat:Nat):Int)=n by omega,List.append_assoc]
 ·cases h2
namespace Sv
theorem rdEl_el {m:Svc} (h:wok m) (r:List UInt8):rdEl (elB m++r)=some (m,r):=by
 obtain ⟨h0,h1,h2,h3,h4,h5,h6⟩:=h
 unfold rdEl elB
 simp only [List.flatMap_cons,List.flatMap_nil,List.append_nil,List.append_assoc,rdT_txt (s:=m.node) (by omega),rdT_txt (s:=m.idn) (by omega),rdT_txt (s:=m.name) (by omega),rdT_txt (s:=m.tag) (by omega),rdN_num h4,rdN_num h5,rdF_flg m.passing,rdN_num h6,rdF_flg m.gone,Option.bind_some]
theorem rdEl_eq {l r:List UInt8} {m:Svc} (h:rdEl l=some (m,r)):l=elB m++r:=by
 unfold rdEl at h
 simp only [Option.bind_eq_some_iff,Option.some.injEq,Prod.mk.injEq] at h
 obtain ⟨⟨x0,r1⟩,n0,⟨x1,r2⟩,n1,⟨x2,r3⟩,n2,⟨x3,r4⟩,n3,⟨x4,r5⟩,n4,⟨x5,r6⟩,n5,⟨x6,r7⟩,n6,⟨x7,r8⟩,n7,⟨x8,r9⟩,n8,rfl,rfl⟩:=h
 simp only at n0 n1 n2 n3 n4 n5 n6 n7 n8 ⊢
 have e0:=rdT_eq n0
 have e1:=rdT_eq n1
 have e2:=rdT_eq n2
 have e3:=rdT_eq n3
 have e4:=(rdN_eq n4).1
 have e5:=(rdN_eq n5).1
 have e6:=rdF_eq n6
 have e7:=(rdN_eq n7).1
 have e8:=rdF_eq n8
 unfold elB
 simp only [List.flatMap_cons,List.flatMap_nil,List.append_nil,List.append_assoc]
 rw [e0,e1,e2,e3,e4,e5,e6,e7,e8]
theorem rdLs_el:∀ (E:List Svc),(∀ m∈E,wok m)→∀ (D:List Svc) (r:List UInt8),rdLs E.length (E.flatMap elB++r) D=some (D++E,r)
 | [],_,D,r=>by simp [rdLs]
 | m :: E,h,D,r=>by
   rw [List.flatMap_cons,List.append_assoc,List.length_cons,rdLs,rdEl_el (h m List.mem_cons_self)]
   simp only
   rw [rdLs_el E (fun x hx=>h x (List.mem_cons_of_mem _ hx)) (D++[m]) r,List.append_assoc];rfl
theorem rdLs_eq:∀ {n:Nat} {l r:List UInt8} {D E:List Svc},rdLs n l D=some (E,r)→∃ X:List Svc,X.length=n∧E=D++X∧l=X.flatMap elB++r
 | 0,l,r,D,E,h=>by
   simp only [rdLs,Option.some.injEq,Prod.mk.injEq] at h
   obtain ⟨rfl,rfl⟩:=h
   exact ⟨[],rfl,by simp,by simp⟩
 | n+1,l,r,D,E,h=>by
   simp only [rdLs] at h
   split at h
   ·cases h
   ·rename_i m r' he
    obtain ⟨X,h1,h2,h3⟩:=rdLs_eq h
    exact ⟨m :: X,by simp [h1],by rw [h2];simp,by rw [rdEl_eq he,h3,List.flatMap_cons,List.append_assoc]⟩
theorem rdList_el {E:List Svc} (hl:E.length≤1000) (h:∀ m∈E,wok m) (r:List UInt8):rdList (numB E.length++E.flatMap elB++r)=some (E,r):=by
 unfold rdList
 rw [List.append_assoc,rdN_num ⟨by omega,by omega⟩,Option.bind_some]
 simp only
 rw [if_pos (by omega),Int.toNat_natCast,rdLs_el E h [] r];rfl
theorem rdList_eq {l r:List UInt8} {E:List Svc} (h:rdList l=some (E,r)):l=numB E.length++E.flatMap elB++r:=by
 unfold rdList at h
 rw [Option.bind_eq_some_iff] at h
 obtain ⟨⟨n,r1⟩,h1,h2⟩:=h
 simp only at h2
 split at h2
 ·rename_i h0
  obtain ⟨X,g1,g2,g3⟩:=rdLs_eq h2
  rw [List.nil_append] at g2
  subst g2
  rw [(rdN_eq h1).1,g3,g1,show ((n.toNat:Nat):Int)=n by omega,List.append_assoc]
 ·cases h2
end Sv
namespace Gw
theorem rdEl_el {m:Gwy} (h:wok m) (r:List UInt8):rdEl (elB m++r)=some (m,r):=by
 obtain ⟨h0,h1,h2⟩:=h
 unfold rdEl elB
 simp only [List.flatMap_cons,List.flatMap_nil,List.append_nil,List.append_assoc,rdT_txt (s:=m.centre) (by omega),rdN_num h1,rdN_num h2,Option.bind_some]
theorem rdEl_eq {l r:List UInt8} {m:Gwy} (h:rdEl l=some (m,r)):l=elB m++r:=by
 unfold rdEl at h
 simp only [Option.bind_eq_some_iff,Option.some.injEq,Prod.mk.injEq] at h
 obtain ⟨⟨x0,r1⟩,n0,⟨x1,r2⟩,n1,⟨x2,r3⟩,n2,rfl,rfl⟩:=h
 simp only at n0 n1 n2 ⊢
 have e0:=rdT_eq n0
 have e1:=(rdN_eq n1).1
 have e2:=(rdN_eq n2).1
 unfold elB
 simp only [List.flatMap_cons,List.flatMap_nil,List.append_nil,List.append_assoc]
 rw [e0,e1,e2]
theorem rdLs_el:∀ (E:List Gwy),(∀ m∈E,wok m)→∀ (D:List Gwy) (r:List UInt8),rdLs E.length (E.flatMap elB++r) D=some (D++E,r)
 | [],_,D,r=>by simp [rdLs]
 | m :: E,h,D,r=>by
   rw [List.flatMap_cons,List.append_assoc,List.length_cons,rdLs,rdEl_el (h m List.mem_cons_self)]
   simp only
   rw [rdLs_el E (fun x hx=>h x (List.mem_cons_of_mem _ hx)) (D++[m]) r,List.append_assoc];rfl
theorem rdLs_eq:∀ {n:Nat} {l r:List UInt8} {D E:List Gwy},rdLs n l D=some (E,r)→∃ X:List Gwy,X.length=n∧E=D++X∧l=X.flatMap elB++r
 | 0,l,r,D,E,h=>by
   simp only [rdLs,Option.some.injEq,Prod.mk.injEq] at h
   obtain ⟨rfl,rfl⟩:=h
   exact ⟨[],rfl,by simp,by simp⟩
 | n+1,l,r,D,E,h=>by
   simp only [rdLs] at h
   split at h
   ·cases h
   ·rename_i m r' he
    obtain ⟨X,h1,h2,h3⟩:=rdLs_eq h
    exact ⟨m :: X,by simp [h1],by rw [h2];simp,by rw [rdEl_eq he,h3,List.flatMap_cons,List.append_assoc]⟩
theorem rdList_el {E:List Gwy} (hl:E.length≤1000) (h:∀ m∈E,wok m) (r:List UInt8):rdList (numB E.length++E.flatMap elB++r)=some (E,r):=by
 unfold rdList
 rw [List.append_assoc,rdN_num ⟨by omega,by omega⟩,Option.bind_some]
 simp only
 rw [if_pos (by omega),Int.toNat_natCast,rdLs_el E h [] r];rfl
theorem rdList_eq {l r:List UInt8} {E:List Gwy} (h:rdList l=some (E,r)):l=numB E.length++E.flatMap elB++r:=by
 unfold rdList at h
 rw [Option.bind_eq_some_iff] at h
 obtain ⟨⟨n,r1⟩,h1,h2⟩:=h
 simp only at h2
 split at h2
 ·rename_i h0
  obtain ⟨X,g1,g2,g3⟩:=rdLs_eq h2
  rw [List.nil_append] at g2
  subst g2
  rw [(rdN_eq h1).1,g3,g1,show ((n.toNat:Nat):Int)=n by omega,List.append_assoc]
 ·cases h2
end Gw
namespace Wh
theorem rdEl_el {m:Whe} (h:wok m) (r:List UInt8):rdEl (elB m++r)=some (m,r):=by
 obtain ⟨h0,h1,h2,h3,h4,h5⟩:=h
 unfold rdEl elB
 rw [List.append_assoc,rdT_txt (s:=m.node) (by omega),Option.bind_some]
 simp only
 rw [rdP_nums h1 h2 h3 h4 h5,Option.bind_some]
theorem rdEl_eq {l r:List UInt8} {m:Whe} (h:rdEl l=some (m,r)):l=elB m++r:=by
 unfold rdEl at h
 simp only [Option.bind_eq_some_iff,Option.some.injEq,Prod.mk.injEq] at h
 obtain ⟨⟨x0,r1⟩,n0,⟨⟨x1,x2,x3,x4,x5⟩,r2⟩,n1,rfl,rfl⟩:=h
 simp only at n0 n1 ⊢
 unfold elB
 rw [rdT_eq n0,rdP_eq n1,List.append_assoc]
theorem rdLs_el:∀ (E:List Whe),(∀ m∈E,wok m)→∀ (D:List Whe) (r:List UInt8),rdLs E.length (E.flatMap elB++r) D=some (D++E,r)
 | [],_,D,r=>by simp [rdLs]
 | m :: E,h,D,r=>by
   rw [List.flatMap_cons,List.append_assoc,List.length_cons,rdLs,rdEl_el (h m List.mem_cons_self)]
   simp only
   rw [rdLs_el E (fun x hx=>h x (List.mem_cons_of_mem _ hx)) (D++[m]) r,List.append_assoc];rfl
theorem rdLs_eq:∀ {n:Nat} {l r:List UInt8} {D E:List Whe},rdLs n l D=some (E,r)→∃ X:List Whe,X.length=n∧E=D++X∧l=X.flatMap elB++r
 | 0,l,r,D,E,h=>by
   simp only [rdLs,Option.some.injEq,Prod.mk.injEq] at h
   obtain ⟨rfl,rfl⟩:=h
   exact ⟨[],rfl,by simp,by simp⟩
 | n+1,l,r,D,E,h=>by
   simp only [rdLs] at h
   split at h
   ·cases h
   ·rename_i m r' he
    obtain ⟨X,h1,h2,h3⟩:=rdLs_eq h
    exact ⟨m :: X,by simp [h1],by rw [h2];simp,by rw [rdEl_eq he,h3,List.flatMap_cons,List.append_assoc]⟩
theorem rdList_el {E:List Whe} (hl:E.length≤1000) (h:∀ m∈E,wok m) (r:List UInt8):rdList (numB E.length++E.flatMap elB++r)=some (E,r):=by
 unfold rdList
 rw [List.append_assoc,rdN_num ⟨by omega,by omega⟩,Option.bind_some]
 simp only
 rw [if_pos (by omega),Int.toNat_natCast,rdLs_el E h [] r];rfl
theorem rdList_eq {l r:List UInt8} {E:List Whe} (h:rdList l=some (E,r)):l=numB E.length++E.flatMap elB++r:=by
 unfold rdList at h
 rw [Option.bind_eq_some_iff] at h
 obtain ⟨⟨n,r1⟩,h1,h2⟩:=h
 simp only at h2
 split at h2
 ·rename_i h0
  obtain ⟨X,g1,g2,g3⟩:=rdLs_eq h2
  rw [List.nil_append] at g2
  subst g2
  rw [(rdN_eq h1).1,g3,g1,show ((n.toNat:Nat):Int)=n by omega,List.append_assoc]
 ·cases h2
end Wh
theorem rdPk_B {p:Pk} (h:p.Wok) (r:List UInt8):rdPk (p.B++r)=some (p,r):=by
 unfold rdPk Pk.B
 rw [List.append_assoc,List.append_assoc,List.append_assoc,List.append_assoc,List.append_assoc,rdT_txt (by have:=h.frm;omega),Option.bind_some]
 simp only
 rw [rdF_flg,Option.bind_some]
 simp only
 rw [rdList_el (by have:=h.ms.1;omega) h.ms.2,Option.bind_some]
 simp only
 rw [Sv.rdList_el (by have:=h.sv.1;omega) h.sv.2,Option.bind_some]
 simp only
 rw [Gw.rdList_el (by have:=h.gw.1;omega) h.gw.2,Option.bind_some]
 simp only
 rw [Wh.rdList_el (by have:=h.wh.1;omega) h.wh.2,Option.bind_some]
theorem rdPk_eq {l r:List UInt8} {p:Pk} (h:rdPk l=some (p,r)):l=p.B++r:=by
 unfold rdPk at h
 simp only [Option.bind_eq_some_iff,Option.some.injEq,Prod.mk.injEq] at h
 obtain ⟨⟨x0,r1⟩,n0,⟨x1,r2⟩,n1,⟨x2,r3⟩,n2,⟨x3,r4⟩,n3,⟨x4,r5⟩,n4,⟨x5,r6⟩,n5,rfl,rfl⟩:=h
 simp only at n0 n1 n2 n3 n4 n5 ⊢
 have e0:=rdT_eq n0
 have e1:=rdF_eq n1
 have e2:=rdList_eq n2
 have e3:=Sv.rdList_eq n3
 have e4:=Gw.rdList_eq n4
 have e5:=Wh.rdList_eq n5
 unfold Pk.B
 simp only [List.append_assoc] at e2 e3 e4 e5 ⊢
 rw [e0,e1,e2,e3,e4,e5]
def rdR (l:List UInt8):Option Pk:=(rdPk l).bind fun a=>if a.2=[]∧a.1.e=0 then some a.1 else none
theorem rdR_some {l:List UInt8} {p:Pk}:rdR l=some p↔l=p.B∧p.e=0:=by
 unfold rdR
 rw [Option.bind_eq_some_iff]
 constructor
 ·rintro ⟨⟨q,r⟩,h1,h2⟩
  simp only at h2
  split at h2
  ·rename_i h3
   simp only [Option.some.injEq] at h2
   subst h2
   have:=rdPk_eq h1
   rw [h3.1,List.append_nil] at this
   exact ⟨this,h3.2⟩
  ·cases h2
 ·rintro ⟨rfl,he⟩
  have:=rdPk_B (pk_wok he) []
  rw [List.append_nil] at this
  exact ⟨(p,[]),this,by simp [he]⟩
structure Nt where
 ns:List Nd
 ls:List Lt.Ltr
def ndZ:Nd:=⟨⟨#[]⟩,⟨#[]⟩,[],[],[],[],⟨0,0,0,0,0⟩,[]⟩
def ApartN (ns:List Nd):Prop:=∀ i j,i < j→j < ns.length→(ns.getD i ndZ).name≠(ns.getD j ndZ).name
def apN (ns:List Nd):Bool:=(List.range ns.length).all fun j=>(List.range j).all fun i=>decide ((ns.getD i ndZ).name≠(ns.getD j ndZ).name)
theorem apN_iff (ns:List Nd):apN ns=true↔ApartN ns:=by
 simp only [apN,List.all_eq_true,List.mem_range,decide_eq_true_eq]
 exact ⟨fun h i j hij hj=>h j hj i hij,fun h j hj i hij=>h i j hij hj⟩
def fstE {α:Type} (f:α→Int):List α→Int
 | []=>0
 | x :: r=>if f x=0 then fstE f r else f x
theorem fstE_at {α:Type} (f:α→Int) (d:α):∀ (l:List α) (k:Nat),k < l.length→(∀ j,j < k→f (l.getD j d)=0)→f (l.getD k d)≠0→fstE f l=f (l.getD k d)
 | [],k,hk,_,_=>by simp at hk
 | x :: r,0,_,_,hne=>by
   have:f x≠0:=by simpa using hne
   simp only [fstE]
   rw [if_neg this];simp
 | x :: r,k+1,hk,hz,hne=>by
   have h0:f x=0:=by simpa using hz 0 (by omega)
   simp only [fstE]
   rw [if_pos h0,fstE_at f d r k (by simpa using hk) (fun j hj=>by simpa using hz (j+1) (by omega)) (by simpa using hne)]
   simp
theorem fstE_zero {α:Type} (f:α→Int) (d:α):∀ (l:List α),(∀ j,j < l.length→f (l.getD j d)=0)→fstE f l=0
 | [],_=>rfl
 | x :: r,h=>by
   have h0:f x=0:=by simpa using h 0 (by simp)
   simp only [fstE]
   rw [if_pos h0]
   exact fstE_zero f d r (fun j hj=>by simpa using h (j+1) (by simpa using hj))
theorem fstE_mem {α:Type} (f:α→Int):∀ {l:List α},fstE f l=0→∀ x∈l,f x=0
 | y :: r,h,x,hx=>by
   simp only [fstE] at h
   split at h
   ·rename_i h0
    rcases List.mem_cons.1 hx with rfl | hx
    ·exact h0
    ·exact fstE_mem f h x hx
   ·rename_i h0;exact absurd h h0
def ltE (k:Nat) (l:Lt.Ltr):Int:=if within l.to 0 ((k:Int) - 1)=true then (if (rdR l.text.data.toList).isSome=true then 0 else 1) else 3
def chkN (ns:List Nd):Int:=if fstE Nd.e ns=0 then (if apN ns=true then 0 else 6) else fstE Nd.e ns
def Nt.e (t:Nt):Int:=if 6 < t.ns.length∨20 < t.ls.length then 2 else if chkN t.ns=0 then fstE (ltE t.ns.length) t.ls else chkN t.ns
theorem chkN_e {ns:List Nd} {k:Nat} (hk:k < ns.length) (hz:∀ j,j < k→(ns.getD j ndZ).e=0) (hne:(ns.getD k ndZ).e≠0):chkN ns=(ns.getD k ndZ).e:=by
 have h:=fstE_at Nd.e ndZ ns k hk hz hne
 rw [chkN,h,if_neg hne]
theorem chkN_twice {ns:List Nd} (hz:∀ j,j < ns.length→(ns.getD j ndZ).e=0) (hd:¬ ApartN ns):chkN ns=6:=by
 rw [chkN,if_pos (fstE_zero _ ndZ ns hz),if_neg (fun h=>hd ((apN_iff ns).1 h))]
theorem chkN_ok {ns:List Nd} (hz:∀ j,j < ns.length→(ns.getD j ndZ).e=0) (hd:ApartN ns):chkN ns=0:=by
 rw [chkN,if_pos (fstE_zero _ ndZ ns hz),if_pos ((apN_iff ns).2 hd)]
def NRow (w:World) (b off:Nat) (ns:List Nd):Prop:=∀ j,j < ns.length→∃ vm vr vs vg vw,NdIs w (ns.getD j ndZ) vm vr vs vg vw∧∀ i,i < 12→w.cell? ⟨b,off+j * 12+i,none⟩=(ndA (ns.getD j ndZ) vm vr vs vg vw)[i]?
theorem NRow.below {w w':World} {b off:Nat} {ns:List Nd} (h:NRow w b off ns) (hb:Below w.heap.size w w') (hl:b < w.heap.size):NRow w' b off ns:=fun j hj=>by
 obtain ⟨vm,vr,vs,vg,vw,h1,h2⟩:=h j hj
 exact ⟨vm,vr,vs,vg,vw,h1.below hb,fun i hi=>(hb.cell (p:=⟨b,off+j * 12+i,none⟩) hl).trans (h2 i hi)⟩
def NSl (w:World) (v:Value) (ns:List Nd):Prop:=∃ (a:Option Addr) (cap:Nat),v=.slice a ns.length cap∧(ns=[]∨∃ b off,a=some ⟨b,off,none⟩∧b < w.heap.size∧NRow w b off ns)
theorem NSl.below {w w':World} {v:Value} {ns:List Nd} (h:NSl w v ns) (hb:Below w.heap.size w w'):NSl w' v ns:=by
 obtain ⟨a,cap,rfl,h⟩:=h
 refine ⟨a,cap,rfl,?_⟩
 rcases h with h | ⟨b,off,rfl,hl,hr⟩
 ·exact .inl h
 ·exact .inr ⟨b,off,rfl,Nat.lt_of_lt_of_le hl hb.size,hr.below hb hl⟩
theorem NRow.at {w:World} {b off k:Nat} {ns:List Nd} (h:NRow w b off ns) (hk:k < ns.length):∃ vm vr vs vg vw,NdIs w (ns.getD k ndZ) vm vr vs vg vw∧w.cell? ⟨b,off+k * 12,none⟩=some (.string (ns.getD k ndZ).name)∧w.cell? ⟨b,off+k * 12+1,none⟩=some (.string (ns.getD k ndZ).centre)∧w.cell? ⟨b,off+k * 12+2,none⟩=some vm∧w.cell? ⟨b,off+k * 12+3,none⟩=some vr∧w.cell? ⟨b,off+k * 12+4,none⟩=some vs∧w.cell? ⟨b,off+k * 12+5,none⟩=some vg∧w.cell? ⟨b,off+k * 12+6,none⟩=some (.int .i64 (ns.getD k ndZ).p.x)∧w.cell? ⟨b,off+k * 12+7,none⟩=some (.int .i64 (ns.getD k ndZ).p.y)∧w.cell? ⟨b,off+k * 12+8,none⟩=some (.int .i64 (ns.getD k ndZ).p.z)∧w.cell? ⟨b,off+k * 12+9,none⟩=some (.int .i64 (ns.getD k ndZ).p.h)∧w.cell? ⟨b,off+k * 12+10,none⟩=some (.int .i64 (ns.getD k ndZ).p.s)∧w.cell? ⟨b,off+k * 12+11,none⟩=some vw:=by
 obtain ⟨vm,vr,vs,vg,vw,h1,h2⟩:=h k hk
 exact ⟨vm,vr,vs,vg,vw,h1,h2 0 (by omega),h2 1 (by omega),h2 2 (by omega),h2 3 (by omega),h2 4 (by omega),h2 5 (by omega),h2 6 (by omega),h2 7 (by omega),h2 8 (by omega),h2 9 (by omega),h2 10 (by omega),h2 11 (by omega)⟩
theorem newE0n {a b:Mem} (ha:a.e=0) (hb:b.e=0) (hn:a.name=b.name):newE a b=0:=by
 unfold newE
 have h:chkTwo [a] [b]=0:=by
  unfold chkTwo
  rw [chk_oneR,chk_oneR,if_pos ha,hb]
 rw [if_pos h,if_pos hn]
theorem chk_e0 {ms:List Mem} (h:chk ms=0):∀ m∈ms,m.e=0:=by
 obtain ⟨_,_,h3⟩:=chk_zero h
 exact firstE_mem ms h3
theorem chkR_e0 {rs:List Rum} (h:chkR rs=0):rs.length≤20∧(∀ r∈rs,r.m.e=0)∧AllTold rs∧Distinct rs:=by
 unfold chkR at h
 split at h
 ·cases h
 ·rename_i hn
  split at h
  ·rename_i h1
   split at h
   ·rename_i h2
    split at h
    ·rename_i h3
     refine ⟨by omega,fun r hr=>?_,h2,h3⟩
     exact firstE_mem _ h1 r.m (List.mem_map.2 ⟨r,hr,rfl⟩)
    ·cases h
   ·cases h
  ·rename_i h1;exact absurd h h1
theorem aheadP_eq {ms:List Mem} {r:Rum} (h:chk ms=0) (hr:r.m.e=0):aheadP ms r=aheadB ms r:=by
 unfold aheadP aheadB
 rcases hf:fstM ms r.m.name with _ | k
 ·rfl
 ·have hk:=fstM_mem hf
  simp only
  rw [newE0n hr (chk_e0 h k hk.1) hk.2.symm]
  simp
theorem any_ahead {ms:List Mem} {rs:List Rum} (h:chk ms=0) (hr:chkR rs=0):rs.any (aheadP ms)=rs.any (aheadB ms):=by
 have h2:=(chkR_e0 hr).2.1
 clear hr
 induction rs with
 | nil=>rfl
 | cons r l ih=>
   rw [List.any_cons,List.any_cons,aheadP_eq h (h2 r (by simp)),ih (fun x hx=>h2 x (by simp [hx]))]
set_option maxHeartbeats 6400000 in
set_option maxRecDepth 100000 in
theorem checkWhole_any (n:Nd) (b:Nat) (vm vr vs vg vw:Value) (w:World) (h:NdIs w n vm vr vs vg vw) (hg:w.heap[b]?=some (.cells (ndA n vm vr vs vg vw) 133 (0,0))) (hp:n.pE=0) :
 Calls Tryz.prog 87 #[.pointer (some ⟨b,0,none⟩)] w fun e w'=>e=.returned (.int .i64 n.wE)∧Below w.heap.size w w':=by
 have HPT:Hid n.Parts:=Nd.parts hp
 have hb:b < w.heap.size:=(Array.getElem?_eq_some_iff.1 hg).1
 have hml:n.ms.length≤20:=(chk_zero HPT.out.ms).1
 have hrl:n.rs.length≤20:=(chkR_e0 HPT.out.rs).1
 have HWE:Hid (n.wE=match fstM n.ms n.name with
  | none=>5
  | some m=>if m.state=2∨m.state=3 then 4 else if n.rs.any (aheadP n.ms)=true then 4 else 0):=by
  show n.wE=_
  rw [any_ahead HPT.out.ms HPT.out.rs];rfl
 obtain ⟨nm,ct,ms,rs,sv,gw,⟨px,py,pz,ph,pq⟩,wh⟩:=n
 obtain ⟨hms,hrs,_,_,_,_,_⟩:=h
 simp only at hms hrs hg hml hrl HWE
 generalize Nd.wE ⟨nm,ct,ms,rs,sv,gw,⟨px,py,pz,ph,pq⟩,wh⟩=res at *
 obtain ⟨am,cm,rfl,hms1,hms2⟩:=hms
 have hms:Sl w (.slice am ms.length cm) ms:=⟨am,cm,rfl,hms1,hms2⟩
 clear hms1 hms2
 have HX:Hid (∀ W,Below w.heap.size w W→W.cell? ⟨b,0,none⟩=some (.string nm)∧W.cell? ⟨b,2,none⟩=some (.slice am ms.length cm)∧W.cell? ⟨b,3,none⟩=some vr):=fun W hW=>
  have hg':=(hW.block _ hb).trans hg
  ⟨cellsAt hg' 0,cellsAt hg' 2,cellsAt hg' 3⟩
 have HMB:Hid (∀ (W:World) (t:ByteArray),Below w.heap.size w W→Calls Tryz.prog 93 #[.pointer (some ⟨b,0,none⟩),.string t] W fun e w'=>e=.returned (.tuple #[.agg #[.string (mOf ms t).name,.int .i64 (mOf ms t).state,.int .i64 (mOf ms t).life,.int .i64 (mOf ms t).addr,.bool (mOf ms t).server],.bool (fstM ms t).isSome])∧Below W.heap.size W w'):=fun W t hW=>
  wmember_any b am ms.length cm ms t W (HX.out W hW).2.1 (hms.below hW) (by omega)
 have HCF:Hid (∀ W,Below w.heap.size w W→Calls Tryz.prog 130 #[vr,.func (.func 131) #[.pointer (some ⟨b,0,none⟩)] #[]] W fun e w'=>e=.returned (.bool (rs.any (aheadP ms)))∧Below W.heap.size W w'):=fun W hW=>
  contains_any b am ms.length cm ms rs vr W (hrs.below hW) (HX.out W hW).2.1 (hms.below hW) (by omega) (by omega)
 clear hms hrs
 generalize rs.any (aheadP ms)=ab at *
 obtain ⟨y0,y2,y3⟩:=HX.out w (Below.refl _ _)
 clear hg
 go_enter Tryz.func87,Tryz.ntmps87
 go_wp2_with fail
 refine (HMB.out _ nm (Below.refl _ _)).mono ?_
 rintro e w1 ⟨rfl,hb1⟩
 have HB1:Hid (Below w.heap.size w w1):=hb1
 clear hb1 y0 y2 y3
 rcases hf:fstM ms nm with _ | m
 ·have HR:Hid (res=5):=HWE.out.trans (by rw [hf])
  have hmo:mOf ms nm=dm:=mOf_none hf
  rw [hmo]
  clear hf hmo
  go_wp2_with fail
  go_ret
  exact ⟨ret_int HR.out.symm,HB1.out.alloc HB1.out.size _⟩
 ·have HR:Hid (res=if m.state=2∨m.state=3 then 4 else if ab=true then 4 else 0):=HWE.out.trans (by rw [hf])
  have hmo:mOf ms nm=m:=mOf_some hf
  rw [hmo]
  clear hf hmo
  obtain ⟨mn,st,lf,ad,sv2⟩:=m
  simp only at HR
  by_cases h2:st=2
  ·subst h2
   have HR2:Hid (res=4):=HR.out.trans (by simp)
   go_wp2_with fail
   go_ret
   exact ⟨ret_int HR2.out.symm,HB1.out.alloc HB1.out.size _⟩
  ·by_cases h3:st=3
   ·subst h3
    have HR2:Hid (res=4):=HR.out.trans (by simp)
    go_wp2_with fail
    go_ret
    exact ⟨ret_int HR2.out.symm,HB1.out.alloc HB1.out.size _⟩
   ·have HR2:Hid (res=if ab=true then 4 else 0):=HR.out.trans (if_neg (by omega))
    have h2':(st == 2)=false:=by simpa using h2
    have h3':(st == 3)=false:=by simpa using h3
    clear h2 h3 HR
    obtain ⟨W2,hW2⟩:∃ W2,W2=w1.alloc (.cells #[.string mn,.int .i64 st,.int .i64 lf,.int .i64 ad,.bool sv2] 56):=⟨_,rfl⟩
    have HB2:Hid (Below w.heap.size w W2):=by rw [hW2];exact HB1.out.alloc HB1.out.size _
    obtain ⟨y0,y2,y3⟩:=HX.out W2 HB2.out
    rw [hW2] at y0 y2 y3
    go_wp2_with fail
    rw [← hW2]
    refine (HCF.out _ HB2.out).mono ?_
    rintro e w3 ⟨rfl,hb3⟩
    have HB3:Hid (Below w.heap.size w w3):=HB2.out.trans (hb3.mono HB2.out.size)
    clear hb3 y0 y2 y3 hW2
    cases ab
    ·go_wp2_with fail
     go_ret
     exact ⟨ret_int HR2.out.symm,HB3.out⟩
    ·go_wp2_with fail
     go_ret
     exact ⟨ret_int HR2.out.symm,HB3.out⟩
set_option maxHeartbeats 6400000 in
set_option maxRecDepth 100000 in
theorem ncheck_any (n:Nd) (vm vr vs vg vw:Value) (w:World) (h:NdIs w n vm vr vs vg vw) :
 Calls Tryz.prog 60 #[.agg (ndA n vm vr vs vg vw)] w fun e w'=>e=.returned (.int .i64 n.e)∧Below w.heap.size w w':=by
 have HI:Hid (NdIs w n vm vr vs vg vw):=h
 have HE:Hid (n.e=if n.pE=0 then n.wE else n.pE):=rfl
 obtain ⟨W,hW⟩:∃ W,W=(w.alloc (.cells (ndA n vm vr vs vg vw) 51)).alloc (.cells (ndA n vm vr vs vg vw) 133):=⟨_,rfl⟩
 have hbW:Below w.heap.size w W:=by rw [hW];exact ((Below.refl _ _).alloc (Nat.le_refl _) _).alloc (by simp) _
 have hg:W.heap[w.heap.size+1]?=some (.cells (ndA n vm vr vs vg vw) 133 (0,0)):=by
  have h:=heap_alloc_new (w.alloc (.cells (ndA n vm vr vs vg vw) 51)) (.cells (ndA n vm vr vs vg vw) 133)
  rw [hW];simpa using h
 have hsW:W.heap.size=w.heap.size+2:=by rw [hW];simp
 have HBW:Hid (Below w.heap.size w W):=hbW
 have HC:Hid (Calls Tryz.prog 86 #[.pointer (some ⟨w.heap.size+1,0,none⟩)] W fun e w'=>e=.returned (.int .i64 n.pE)∧Below W.heap.size W w'):=checkParts_any n (w.heap.size+1) vm vr vs vg vw W (h.below hbW) hg
 have HD:Hid (n.pE=0→∀ W1,Below W.heap.size W W1→Calls Tryz.prog 87 #[.pointer (some ⟨w.heap.size+1,0,none⟩)] W1 fun e w'=>e=.returned (.int .i64 n.wE)∧Below W1.heap.size W1 w'):=fun hp W1 h1=>
  checkWhole_any n (w.heap.size+1) vm vr vs vg vw W1 ((h.below hbW).below h1) ((h1.block _ (by omega)).trans hg) hp
 obtain ⟨nm,ct,ms,rs,sv,gw,⟨px,py,pz,ph,pq⟩,wh⟩:=n
 obtain ⟨⟨am,cm,rfl,_,_⟩,⟨ar,cr,rfl,_,_⟩,⟨aq,cq,rfl,_,_⟩,⟨ag,cg,rfl,_,_⟩,⟨aw,cw,rfl,_,_⟩,_,_⟩:=h
 generalize Nd.e ⟨nm,ct,ms,rs,sv,gw,⟨px,py,pz,ph,pq⟩,wh⟩=res at *
 generalize Nd.pE ⟨nm,ct,ms,rs,sv,gw,⟨px,py,pz,ph,pq⟩,wh⟩=pe at *
 generalize Nd.wE ⟨nm,ct,ms,rs,sv,gw,⟨px,py,pz,ph,pq⟩,wh⟩=we at *
 simp only [ndA] at hW ⊢
 clear hg hbW
 generalize ms.length=nms at *
 generalize rs.length=nrs at *
 generalize sv.length=nsv at *
 generalize gw.length=ngw at *
 generalize wh.length=nwh at *
 go_enter Tryz.func60,Tryz.ntmps60
 go_wp2_with fail
 rw [← hW]
 refine HC.out.mono ?_
 rintro e w1 ⟨rfl,hb1⟩
 have HB1:Hid (Below W.heap.size W w1):=hb1
 have HBW1:Hid (Below w.heap.size w w1):=HBW.out.trans (hb1.mono (by omega))
 clear hb1
 by_cases hp:pe=0
 ·have HD2:=HD.out hp w1 HB1.out
  have HR:Hid (res=we):=HE.out.trans (if_pos hp)
  subst hp
  clear HD HE
  go_wp2_with fail
  refine HD2.mono ?_
  rintro e w2 ⟨rfl,hb2⟩
  have HBW2:Hid (Below w.heap.size w w2):=HBW1.out.trans (hb2.mono HBW1.out.size)
  clear hb2
  go_wp2_with fail
  go_ret
  exact ⟨ret_int HR.out.symm,HBW2.out⟩
 ·have hp':(pe != 0)=true:=by simpa using hp
  have HR:Hid (res=pe):=HE.out.trans (if_neg hp)
  clear hp HD HE
  go_wp2_with fail
  go_ret
  exact ⟨ret_int HR.out.symm,HBW1.out⟩
end Go.Proofs.YtffdoiokmiklgaaGreatDoor
namespace Go.Proofs.YtffdoiokmiklgaaGreatDoor
namespace Sv
open Go.RowKit
set_option maxHeartbeats 800000 in
theorem clone_any (ms:List Svc) (v:Value) (w:World) (h:Sl w v ms) (hn:ms.length≤1000) :
 Calls Tryz.prog 72 #[v] w fun e w'=>∃ v',e=.returned v'∧Own w.heap.size w' v' ms∧Below w.heap.size w w':=by
 obtain ⟨a,cap,rfl,hs,h⟩:=h
 obtain ⟨i0,hi0,hz0,hzs,hzb⟩:=info_parts Tryz.info42
 cases a with
 | none=>
   have he:ms=[]:=by
    rcases h with h | ⟨b,off,h,_⟩
    ·exact h
    ·cases h
   subst he
   clear h hs
   have hnil:=fun (w:World)=>Lib.run_eql_slice_nil (P:=Tryz.prog) w 47 42 none 0 cap 0 0 Tryz.underlying47
   simp only [List.length_nil,Option.isNone_none] at hnil ⊢
   go_enter Tryz.func72,Tryz.ntmps72
   go_wp2_with fail
   go_ret
   exact ⟨_,rfl,own_nil _ _,Below.refl _ _⟩
 | some a=>
   have hnil:=fun (w:World)=>Lib.run_eql_slice_nil (P:=Tryz.prog) w 47 42 (some a) ms.length cap 0 0 Tryz.underlying47
   simp only [Option.isNone_some] at hnil
   have hnews:Hid (∀ j u,(fl ms)[j]?=some u→(w.alloc (.cells #[] 42)).cell? (a.add j)=some u):=by
    intro j u hj
    rcases h with h | ⟨b,off,h,hb,hr⟩
    ·subst h;simp [fl] at hj
    ·cases h
     have hjl:j < ms.length * 9:=by rw [← fl_len];exact (List.getElem?_eq_some_iff.1 hj).1
     have h1:=fl_get ms (j / 9) (by omega) (j%9) (by omega)
     rw [show j / 9 * 9+j%9=j by omega,hj] at h1
     rw [Addr.add_lit,World.cell?_alloc_past (w:=w) _ b _ hb]
     obtain ⟨c0,c1,c2,c3,c4,c5,c6,c7,c8⟩:=hr (j / 9) (by omega)
     have hcs:j%9=0∨j%9=1∨j%9=2∨j%9=3∨j%9=4∨j%9=5∨j%9=6∨j%9=7∨j%9=8:=by omega
     rcases hcs with e | e | e | e | e | e | e | e | e
     ·rw [show off+j=off+j / 9 * 9 by omega,c0];rw [e] at h1;simpa [Svc.cs] using h1.symm
     ·rw [show off+j=off+j / 9 * 9+1 by omega,c1];rw [e] at h1;simpa [Svc.cs] using h1.symm
     ·rw [show off+j=off+j / 9 * 9+2 by omega,c2];rw [e] at h1;simpa [Svc.cs] using h1.symm
     ·rw [show off+j=off+j / 9 * 9+3 by omega,c3];rw [e] at h1;simpa [Svc.cs] using h1.symm
     ·rw [show off+j=off+j / 9 * 9+4 by omega,c4];rw [e] at h1;simpa [Svc.cs] using h1.symm
     ·rw [show off+j=off+j / 9 * 9+5 by omega,c5];rw [e] at h1;simpa [Svc.cs] using h1.symm
     ·rw [show off+j=off+j / 9 * 9+6 by omega,c6];rw [e] at h1;simpa [Svc.cs] using h1.symm
     ·rw [show off+j=off+j / 9 * 9+7 by omega,c7];rw [e] at h1;simpa [Svc.cs] using h1.symm
     ·rw [show off+j=off+j / 9 * 9+8 by omega,c8];rw [e] at h1;simpa [Svc.cs] using h1.symm
   have HO:Hid ((w.alloc (.cells #[] 42)).ownsRow w.heap.size 42 9 (.slice (some ⟨w.heap.size,0,none⟩) 0 0) 0 []):=World.ownsRow_made w #[] 0 (Nat.le_refl _) (by unfold maxLen;omega) rfl
   clear h hs
   go_enter Tryz.func72,Tryz.ntmps72
   go_wp2_with (at_builtin;refine wpList_append_own _ rfl _ _ 47 rfl w.heap.size 42 i0 _ 9 104 Tryz.underlying47 hi0 hz0 hzs hzb rfl (by omega) _ 0 [] rfl HO.out a ms.length cap (fl ms) rfl (fl_len ms) hnews.out (fl_one ms) (by unfold maxLen;omega) (by omega) (by simp) ?_)
   intro v' w' r1 r2 r3
   go_wp2_with fail
   go_ret
   refine ⟨v',rfl,?_,?_⟩
   ·simpa using r1
   ·exact ((Below.refl _ _).alloc (Nat.le_refl _) _).grown r2 (by simp) (fun k hk=>by simp [Value.ownBlock] at hk;omega)
end Sv
namespace Gw
open Go.RowKit
set_option maxHeartbeats 800000 in
theorem clone_any (ms:List Gwy) (v:Value) (w:World) (h:Sl w v ms) (hn:ms.length≤1000) :
 Calls Tryz.prog 73 #[v] w fun e w'=>∃ v',e=.returned v'∧Own w.heap.size w' v' ms∧Below w.heap.size w w':=by
 obtain ⟨a,cap,rfl,hs,h⟩:=h
 obtain ⟨i0,hi0,hz0,hzs,hzb⟩:=info_parts Tryz.info107
 cases a with
 | none=>
   have he:ms=[]:=by
    rcases h with h | ⟨b,off,h,_⟩
    ·exact h
    ·cases h
   subst he
   clear h hs
   have hnil:=fun (w:World)=>Lib.run_eql_slice_nil (P:=Tryz.prog) w 48 107 none 0 cap 0 0 Tryz.underlying48
   simp only [List.length_nil,Option.isNone_none] at hnil ⊢
   go_enter Tryz.func73,Tryz.ntmps73
   go_wp2_with fail
   go_ret
   exact ⟨_,rfl,own_nil _ _,Below.refl _ _⟩
 | some a=>
   have hnil:=fun (w:World)=>Lib.run_eql_slice_nil (P:=Tryz.prog) w 48 107 (some a) ms.length cap 0 0 Tryz.underlying48
   simp only [Option.isNone_some] at hnil
   have hnews:Hid (∀ j u,(fl ms)[j]?=some u→(w.alloc (.cells #[] 107)).cell? (a.add j)=some u):=by
    intro j u hj
    rcases h with h | ⟨b,off,h,hb,hr⟩
    ·subst h;simp [fl] at hj
    ·cases h
     have hjl:j < ms.length * 3:=by rw [← fl_len];exact (List.getElem?_eq_some_iff.1 hj).1
     have h1:=fl_get ms (j / 3) (by omega) (j%3) (by omega)
     rw [show j / 3 * 3+j%3=j by omega,hj] at h1
     rw [Addr.add_lit,World.cell?_alloc_past (w:=w) _ b _ hb]
     obtain ⟨c0,c1,c2⟩:=hr (j / 3) (by omega)
     have hcs:j%3=0∨j%3=1∨j%3=2:=by omega
     rcases hcs with e | e | e
     ·rw [show off+j=off+j / 3 * 3 by omega,c0];rw [e] at h1;simpa [Gwy.cs] using h1.symm
     ·rw [show off+j=off+j / 3 * 3+1 by omega,c1];rw [e] at h1;simpa [Gwy.cs] using h1.symm
     ·rw [show off+j=off+j / 3 * 3+2 by omega,c2];rw [e] at h1;simpa [Gwy.cs] using h1.symm
   have HO:Hid ((w.alloc (.cells #[] 107)).ownsRow w.heap.size 107 3 (.slice (some ⟨w.heap.size,0,none⟩) 0 0) 0 []):=World.ownsRow_made w #[] 0 (Nat.le_refl _) (by unfold maxLen;omega) rfl
   clear h hs
   go_enter Tryz.func73,Tryz.ntmps73
   go_wp2_with (at_builtin;refine wpList_append_own _ rfl _ _ 48 rfl w.heap.size 107 i0 _ 3 32 Tryz.underlying48 hi0 hz0 hzs hzb rfl (by omega) _ 0 [] rfl HO.out a ms.length cap (fl ms) rfl (fl_len ms) hnews.out (fl_one ms) (by unfold maxLen;omega) (by omega) (by simp) ?_)
   intro v' w' r1 r2 r3
   go_wp2_with fail
   go_ret
   refine ⟨v',rfl,?_,?_⟩
   ·simpa using r1
   ·exact ((Below.refl _ _).alloc (Nat.le_refl _) _).grown r2 (by simp) (fun k hk=>by simp [Value.ownBlock] at hk;omega)
end Gw
end Go.Proofs.YtffdoiokmiklgaaGreatDoor
namespace Go.Proofs.YtffdoiokmiklgaaGreatDoor
open Go.RowKit
theorem cells12 {W:World} {b:Nat} {T:TypeId} {f:Nat × Nat} {c0 c1 c2 c3 c4 c5 c6 c7 c8 c9 c10 c11:Value} (h:W.heap[b]?=some (.cells #[c0,c1,c2,c3,c4,c5,c6,c7,c8,c9,c10,c11] T f)):W.cell? ⟨b,0,none⟩=some c0∧W.cell? ⟨b,1,none⟩=some c1∧W.cell? ⟨b,2,none⟩=some c2∧W.cell? ⟨b,3,none⟩=some c3∧W.cell? ⟨b,4,none⟩=some c4∧W.cell? ⟨b,5,none⟩=some c5∧W.cell? ⟨b,6,none⟩=some c6∧W.cell? ⟨b,7,none⟩=some c7∧W.cell? ⟨b,8,none⟩=some c8∧W.cell? ⟨b,9,none⟩=some c9∧W.cell? ⟨b,10,none⟩=some c10∧W.cell? ⟨b,11,none⟩=some c11:=⟨cellsAt h 0,cellsAt h 1,cellsAt h 2,cellsAt h 3,cellsAt h 4,cellsAt h 5,cellsAt h 6,cellsAt h 7,cellsAt h 8,cellsAt h 9,cellsAt h 10,cellsAt h 11⟩
theorem frz12 {W:World} {b:Nat} {T:TypeId} {cs:Array Value} (h:W.heap[b]?=some (.cells cs T (0,0))):W.frozen? ⟨b,0,none⟩=false∧W.frozen? ⟨b,1,none⟩=false∧W.frozen? ⟨b,2,none⟩=false∧W.frozen? ⟨b,3,none⟩=false∧W.frozen? ⟨b,4,none⟩=false∧W.frozen? ⟨b,5,none⟩=false∧W.frozen? ⟨b,6,none⟩=false∧W.frozen? ⟨b,7,none⟩=false∧W.frozen? ⟨b,8,none⟩=false∧W.frozen? ⟨b,9,none⟩=false∧W.frozen? ⟨b,10,none⟩=false∧W.frozen? ⟨b,11,none⟩=false:=by simp [World.frozen?,h]
theorem cells6 {W:World} {b:Nat} {T:TypeId} {f:Nat × Nat} {c0 c1 c2 c3 c4 c5:Value} (h:W.heap[b]?=some (.cells #[c0,c1,c2,c3,c4,c5] T f)):W.cell? ⟨b,0,none⟩=some c0∧W.cell? ⟨b,1,none⟩=some c1∧W.cell? ⟨b,2,none⟩=some c2∧W.cell? ⟨b,3,none⟩=some c3∧W.cell? ⟨b,4,none⟩=some c4∧W.cell? ⟨b,5,none⟩=some c5:=⟨cellsAt h 0,cellsAt h 1,cellsAt h 2,cellsAt h 3,cellsAt h 4,cellsAt h 5⟩
theorem frz6 {W:World} {b:Nat} {T:TypeId} {cs:Array Value} (h:W.heap[b]?=some (.cells cs T (0,0))):W.frozen? ⟨b,0,none⟩=false∧W.frozen? ⟨b,1,none⟩=false∧W.frozen? ⟨b,2,none⟩=false∧W.frozen? ⟨b,3,none⟩=false∧W.frozen? ⟨b,4,none⟩=false∧W.frozen? ⟨b,5,none⟩=false:=by simp [World.frozen?,h]
theorem cells5 {W:World} {b:Nat} {T:TypeId} {f:Nat × Nat} {c0 c1 c2 c3 c4:Value} (h:W.heap[b]?=some (.cells #[c0,c1,c2,c3,c4] T f)):W.cell? ⟨b,0,none⟩=some c0∧W.cell? ⟨b,1,none⟩=some c1∧W.cell? ⟨b,2,none⟩=some c2∧W.cell? ⟨b,3,none⟩=some c3∧W.cell? ⟨b,4,none⟩=some c4:=⟨cellsAt h 0,cellsAt h 1,cellsAt h 2,cellsAt h 3,cellsAt h 4⟩
theorem below_set12 {B b:Nat} {a w:World} (h:Below B a w) (hb:B≤b) (x0 x1 x2 x3 x4 x5 x6 x7 x8 x9 x10 x11:Value):Below B a ((((((((((((w.setCell ⟨b,0,none⟩ x0).setCell ⟨b,1,none⟩ x1).setCell ⟨b,2,none⟩ x2).setCell ⟨b,3,none⟩ x3).setCell ⟨b,4,none⟩ x4).setCell ⟨b,5,none⟩ x5).setCell ⟨b,6,none⟩ x6).setCell ⟨b,7,none⟩ x7).setCell ⟨b,8,none⟩ x8).setCell ⟨b,9,none⟩ x9).setCell ⟨b,10,none⟩ x10).setCell ⟨b,11,none⟩ x11):=((((((((((((h).setCell (p:=⟨b,0,none⟩) hb _).setCell (p:=⟨b,1,none⟩) hb _).setCell (p:=⟨b,2,none⟩) hb _).setCell (p:=⟨b,3,none⟩) hb _).setCell (p:=⟨b,4,none⟩) hb _).setCell (p:=⟨b,5,none⟩) hb _).setCell (p:=⟨b,6,none⟩) hb _).setCell (p:=⟨b,7,none⟩) hb _).setCell (p:=⟨b,8,none⟩) hb _).setCell (p:=⟨b,9,none⟩) hb _).setCell (p:=⟨b,10,none⟩) hb _).setCell (p:=⟨b,11,none⟩) hb _
theorem owns_set12 {base b n k:Nat} {T:TypeId} {w:World} {v:Value} {xs:List Value} (h:w.ownsRow base T k v n xs) (hb:b < base) (x0 x1 x2 x3 x4 x5 x6 x7 x8 x9 x10 x11:Value):((((((((((((w.setCell ⟨b,0,none⟩ x0).setCell ⟨b,1,none⟩ x1).setCell ⟨b,2,none⟩ x2).setCell ⟨b,3,none⟩ x3).setCell ⟨b,4,none⟩ x4).setCell ⟨b,5,none⟩ x5).setCell ⟨b,6,none⟩ x6).setCell ⟨b,7,none⟩ x7).setCell ⟨b,8,none⟩ x8).setCell ⟨b,9,none⟩ x9).setCell ⟨b,10,none⟩ x10).setCell ⟨b,11,none⟩ x11).ownsRow base T k v n xs:=ownsRow_setCell_below (ownsRow_setCell_below (ownsRow_setCell_below (ownsRow_setCell_below (ownsRow_setCell_below (ownsRow_setCell_below (ownsRow_setCell_below (ownsRow_setCell_below (ownsRow_setCell_below (ownsRow_setCell_below (ownsRow_setCell_below (ownsRow_setCell_below (h) (a:=⟨b,0,none⟩) hb _) (a:=⟨b,1,none⟩) hb _) (a:=⟨b,2,none⟩) hb _) (a:=⟨b,3,none⟩) hb _) (a:=⟨b,4,none⟩) hb _) (a:=⟨b,5,none⟩) hb _) (a:=⟨b,6,none⟩) hb _) (a:=⟨b,7,none⟩) hb _) (a:=⟨b,8,none⟩) hb _) (a:=⟨b,9,none⟩) hb _) (a:=⟨b,10,none⟩) hb _) (a:=⟨b,11,none⟩) hb _
structure NdOwn (B:Nat) (w:World) (n:Nd) (vm vr vs vg vw:Value):Prop where
 ms:Own B w vm n.ms
 rs:ROwn B w vr n.rs
 sv:Sv.Own B w vs n.sv
 gw:Gw.Own B w vg n.gw
 wh:Wh.Own B w vw n.wh
theorem own_slice {base n k:Nat} {T:TypeId} {w:World} {v:Value} {xs:List Value} (h:w.ownsRow base T k v n xs):∃ a c,v=.slice a n c∧n≤c:=by
 rcases h.2 with ⟨h1,h2⟩ | ⟨g,c,cur,h1,_,_,hn,_⟩
 ·subst h2;exact ⟨none,0,h1,Nat.le_refl _⟩
 ·exact ⟨_,c,h1,hn⟩
theorem NdOwn.below {B:Nat} {w w':World} {n:Nd} {vm vr vs vg vw:Value} (h:NdOwn B w n vm vr vs vg vw) (hb:Below w.heap.size w w'):NdOwn B w' n vm vr vs vg vw:=⟨h.ms.below hb,h.rs.below hb,h.sv.below hb,h.gw.below hb,h.wh.below hb⟩
structure NdOk (n:Nd):Prop where
 ms:∀ m∈n.ms,m.name.size≤maxLen
 rs:∀ r∈n.rs,r.m.name.size≤maxLen
 sv:∀ m∈n.sv,m.ok
 gw:∀ m∈n.gw,m.ok
 wh:∀ m∈n.wh,m.ok
 name:n.name.size≤maxLen
 centre:n.centre.size≤maxLen
theorem NdIs.ok {w:World} {n:Nd} {vm vr vs vg vw:Value} (h:NdIs w n vm vr vs vg vw):NdOk n:=by
 obtain ⟨⟨_,_,_,h1,_⟩,⟨_,_,_,h2,_⟩,⟨_,_,_,h3,_⟩,⟨_,_,_,h4,_⟩,⟨_,_,_,h5,_⟩,h6,h7⟩:=h
 exact ⟨ns_mem h1,rns_mem h2,Sv.ns_mem h3,Gw.ns_mem h4,Wh.ns_mem h5,h6,h7⟩
theorem NdOwn.is {B:Nat} {w:World} {n:Nd} {vm vr vs vg vw:Value} (h:NdOwn B w n vm vr vs vg vw) (hk:NdOk n):NdIs w n vm vr vs vg vw:=
 ⟨h.ms.sl (ns_get hk.ms),h.rs.sl (rns_get hk.rs),h.sv.sl (Sv.ns_get hk.sv),h.gw.sl (Gw.ns_get hk.gw),h.wh.sl (Wh.ns_get hk.wh),hk.name,hk.centre⟩
set_option maxHeartbeats 12800000 in
set_option maxRecDepth 100000 in
theorem fresh_any (n:Nd) (vm vr vs vg vw:Value) (w:World) (h:NdIs w n vm vr vs vg vw) (l1:n.ms.length≤1000) (l2:n.rs.length≤1000) (l3:n.sv.length≤1000) (l4:n.gw.length≤1000) (l5:n.wh.length≤1000) :
 Calls Tryz.prog 36 #[.agg (ndA n vm vr vs vg vw)] w fun e w'=>∃ um ur us ug uw,e=.returned (.agg (ndA n um ur us ug uw))∧NdOwn w.heap.size w' n um ur us ug uw∧Below w.heap.size w w':=by
 obtain ⟨nm,ct,ms,rs,sv,gw,⟨px,py,pz,ph,pq⟩,wh⟩:=n
 obtain ⟨hm,hr,hs,hgw,hh,_,_⟩:=h
 simp only at hm hr hs hgw hh l1 l2 l3 l4 l5
 have Hm:Hid (∀ W,Below w.heap.size w W→Calls Tryz.prog 70 #[vm] W fun e w'=>∃ v',e=.returned v'∧Own W.heap.size w' v' ms∧Below W.heap.size W w'):=fun W hW=>clone_any ms vm W (hm.below hW) l1
 have Hr:Hid (∀ W,Below w.heap.size w W→Calls Tryz.prog 71 #[vr] W fun e w'=>∃ v',e=.returned v'∧ROwn W.heap.size w' v' rs∧Below W.heap.size W w'):=fun W hW=>rclone_any rs vr W (hr.below hW) l2
 have Hs:Hid (∀ W,Below w.heap.size w W→Calls Tryz.prog 72 #[vs] W fun e w'=>∃ v',e=.returned v'∧Sv.Own W.heap.size w' v' sv∧Below W.heap.size W w'):=fun W hW=>Sv.clone_any sv vs W (hs.below hW) l3
 have Hg:Hid (∀ W,Below w.heap.size w W→Calls Tryz.prog 73 #[vg] W fun e w'=>∃ v',e=.returned v'∧Gw.Own W.heap.size w' v' gw∧Below W.heap.size W w'):=fun W hW=>Gw.clone_any gw vg W (hgw.below hW) l4
 have Hh:Hid (∀ W,Below w.heap.size w W→Calls Tryz.prog 74 #[vw] W fun e w'=>∃ v',e=.returned v'∧Wh.Own W.heap.size w' v' wh∧Below W.heap.size W w'):=fun W hW=>Wh.clone_any wh vw W (hh.below hW) l5
 obtain ⟨em,cm,rfl,_,_⟩:=hm
 obtain ⟨er,cr,rfl,_,_⟩:=hr
 obtain ⟨es,cs,rfl,_,_⟩:=hs
 obtain ⟨eg,cg,rfl,_,_⟩:=hgw
 obtain ⟨eh,ch,rfl,_,_⟩:=hh
 generalize hNm:ms.length=km at *
 have HNm:Hid (ms.length=km):=hNm
 clear hNm
 generalize hNr:rs.length=kr at *
 have HNr:Hid (rs.length=kr):=hNr
 clear hNr
 generalize hNs:sv.length=ks at *
 have HNs:Hid (sv.length=ks):=hNs
 clear hNs
 generalize hNg:gw.length=kg at *
 have HNg:Hid (gw.length=kg):=hNg
 clear hNg
 generalize hNh:wh.length=kh at *
 have HNh:Hid (wh.length=kh):=hNh
 clear hNh
 simp only [ndA]
 obtain ⟨W0,hW0⟩:∃ W0,W0=(w.alloc (.cells #[.string nm,.string ct,.slice em km cm,.slice er kr cr,.slice es ks cs,.slice eg kg cg,.int .i64 px,.int .i64 py,.int .i64 pz,.int .i64 ph,.int .i64 pq,.slice eh kh ch] 51)).alloc (.cells #[.string ⟨#[]⟩,.string ⟨#[]⟩,.slice none 0 0,.slice none 0 0,.slice none 0 0,.slice none 0 0,.int .i64 0,.int .i64 0,.int .i64 0,.int .i64 0,.int .i64 0,.slice none 0 0] 51):=⟨_,rfl⟩
 have hb0:Below w.heap.size w W0:=by rw [hW0];exact ((Below.refl _ _).alloc (Nat.le_refl _) _).alloc (by simp) _
 have hg0:W0.heap[w.heap.size]?=some (.cells #[.string nm,.string ct,.slice em km cm,.slice er kr cr,.slice es ks cs,.slice eg kg cg,.int .i64 px,.int .i64 py,.int .i64 pz,.int .i64 ph,.int .i64 pq,.slice eh kh ch] 51 (0,0)):=by
  rw [hW0,Below.heap_alloc _ _ _ (by simp)];exact heap_alloc_new w _
 have hz0:W0.heap[w.heap.size+1]?=some (.cells #[.string ⟨#[]⟩,.string ⟨#[]⟩,.slice none 0 0,.slice none 0 0,.slice none 0 0,.slice none 0 0,.int .i64 0,.int .i64 0,.int .i64 0,.int .i64 0,.int .i64 0,.slice none 0 0] 51 (0,0)):=by
  have h:=heap_alloc_new (w.alloc (.cells #[.string nm,.string ct,.slice em km cm,.slice er kr cr,.slice es ks cs,.slice eg kg cg,.int .i64 px,.int .i64 py,.int .i64 pz,.int .i64 ph,.int .i64 pq,.slice eh kh ch] 51)) (.cells #[.string ⟨#[]⟩,.string ⟨#[]⟩,.slice none 0 0,.slice none 0 0,.slice none 0 0,.slice none 0 0,.int .i64 0,.int .i64 0,.int .i64 0,.int .i64 0,.int .i64 0,.slice none 0 0] 51)
  rw [hW0];simpa using h
 have hs0:w.heap.size+1 < W0.heap.size:=by rw [hW0];simp
 have HB0:Hid (Below w.heap.size w W0):=hb0
 have HG0:Hid (W0.heap[w.heap.size]?=some (.cells #[.string nm,.string ct,.slice em km cm,.slice er kr cr,.slice es ks cs,.slice eg kg cg,.int .i64 px,.int .i64 py,.int .i64 pz,.int .i64 ph,.int .i64 pq,.slice eh kh ch] 51 (0,0))):=hg0
 have HZ0:Hid (W0.heap[w.heap.size+1]?=some (.cells #[.string ⟨#[]⟩,.string ⟨#[]⟩,.slice none 0 0,.slice none 0 0,.slice none 0 0,.slice none 0 0,.int .i64 0,.int .i64 0,.int .i64 0,.int .i64 0,.int .i64 0,.slice none 0 0] 51 (0,0))):=hz0
 clear hb0 hg0 hz0
 go_enter Tryz.func36,Tryz.ntmps36
 go_wp2_with fail
 rw [← hW0]
 clear hW0
 refine (Hm.out W0 HB0.out).mono ?_
 rintro e X1 ⟨v',rfl,ho,hx⟩
 obtain ⟨bm,dm',hv',_⟩:=own_slice ho
 rw [HNm.out] at hv'
 subst hv'
 have hgx:X1.heap[w.heap.size]?=some (.cells #[.string nm,.string ct,.slice em km cm,.slice er kr cr,.slice es ks cs,.slice eg kg cg,.int .i64 px,.int .i64 py,.int .i64 pz,.int .i64 ph,.int .i64 pq,.slice eh kh ch] 51 (0,0)):=(hx.block _ (by omega)).trans HG0.out
 obtain ⟨y0,y1,y2,y3,y4,y5,y6,y7,y8,y9,y10,y11⟩:=cells12 hgx
 have z2:X1.frozen? ⟨w.heap.size,2,none⟩=false:=by simp [World.frozen?,hgx]
 have hsx:w.heap.size < X1.heap.size:=by have:=hx.size;omega
 obtain ⟨W1,hW1⟩:∃ W1,W1=X1.setCell ⟨w.heap.size,2,none⟩ (.slice bm km dm'):=⟨_,rfl⟩
 have HG1:Hid (W1.heap[w.heap.size]?=some (.cells #[.string nm,.string ct,.slice bm km dm',.slice er kr cr,.slice es ks cs,.slice eg kg cg,.int .i64 px,.int .i64 py,.int .i64 pz,.int .i64 ph,.int .i64 pq,.slice eh kh ch] 51 (0,0))):=by rw [hW1];exact Joins.block_setCell (i:=2) hgx _
 have HZ1:Hid (W1.heap[w.heap.size+1]?=some (.cells #[.string ⟨#[]⟩,.string ⟨#[]⟩,.slice none 0 0,.slice none 0 0,.slice none 0 0,.slice none 0 0,.int .i64 0,.int .i64 0,.int .i64 0,.int .i64 0,.int .i64 0,.slice none 0 0] 51 (0,0))):=by rw [hW1];exact (Below.heap_setCell _ _ _ _ (by simp)).trans ((hx.block _ (by omega)).trans HZ0.out)
 have HOm1:Hid (Own (w.heap.size+2) W1 (.slice bm km dm') ms):=by rw [hW1];exact ownsRow_setCell_below (ho.mono (by omega)) (by simp) _
 have HB1:Hid (Below w.heap.size w W1):=by rw [hW1];exact (HB0.out.trans (hx.mono HB0.out.size)).setCell (p:=⟨w.heap.size,2,none⟩) (by simp) _
 have hs1:w.heap.size+1 < W1.heap.size:=(Array.getElem?_eq_some_iff.1 HZ1.out).1
 clear ho hx hgx hs0
 go_wp2_with fail
 rw [← hW1]
 clear hW1 y0 y1 y2 y3 y4 y5 y6 y7 y8 y9 y10 y11 z2 hsx
 refine (Hr.out W1 HB1.out).mono ?_
 rintro e X2 ⟨v',rfl,ho,hx⟩
 obtain ⟨br,dr',hv',_⟩:=own_slice ho
 rw [HNr.out] at hv'
 subst hv'
 have hgx:X2.heap[w.heap.size]?=some (.cells #[.string nm,.string ct,.slice bm km dm',.slice er kr cr,.slice es ks cs,.slice eg kg cg,.int .i64 px,.int .i64 py,.int .i64 pz,.int .i64 ph,.int .i64 pq,.slice eh kh ch] 51 (0,0)):=(hx.block _ (by omega)).trans HG1.out
 obtain ⟨y0,y1,y2,y3,y4,y5,y6,y7,y8,y9,y10,y11⟩:=cells12 hgx
 have z3:X2.frozen? ⟨w.heap.size,3,none⟩=false:=by simp [World.frozen?,hgx]
 have hsx:w.heap.size < X2.heap.size:=by have:=hx.size;omega
 obtain ⟨W2,hW2⟩:∃ W2,W2=X2.setCell ⟨w.heap.size,3,none⟩ (.slice br kr dr'):=⟨_,rfl⟩
 have HG2:Hid (W2.heap[w.heap.size]?=some (.cells #[.string nm,.string ct,.slice bm km dm',.slice br kr dr',.slice es ks cs,.slice eg kg cg,.int .i64 px,.int .i64 py,.int .i64 pz,.int .i64 ph,.int .i64 pq,.slice eh kh ch] 51 (0,0))):=by rw [hW2];exact Joins.block_setCell (i:=3) hgx _
 have HZ2:Hid (W2.heap[w.heap.size+1]?=some (.cells #[.string ⟨#[]⟩,.string ⟨#[]⟩,.slice none 0 0,.slice none 0 0,.slice none 0 0,.slice none 0 0,.int .i64 0,.int .i64 0,.int .i64 0,.int .i64 0,.int .i64 0,.slice none 0 0] 51 (0,0))):=by rw [hW2];exact (Below.heap_setCell _ _ _ _ (by simp)).trans ((hx.block _ (by omega)).trans HZ1.out)
 have HOr2:Hid (ROwn (w.heap.size+2) W2 (.slice br kr dr') rs):=by rw [hW2];exact ownsRow_setCell_below (ho.base (by omega)) (by simp) _
 have HOm2:Hid (Own (w.heap.size+2) W2 (.slice bm km dm') ms):=by rw [hW2];exact ownsRow_setCell_below (HOm1.out.below hx) (by simp) _
 have HB2:Hid (Below w.heap.size w W2):=by rw [hW2];exact (HB1.out.trans (hx.mono HB1.out.size)).setCell (p:=⟨w.heap.size,3,none⟩) (by simp) _
 have hs2:w.heap.size+1 < W2.heap.size:=(Array.getElem?_eq_some_iff.1 HZ2.out).1
 clear ho hx hgx hs1
 go_wp2_with fail
 rw [← hW2]
 clear hW2 y0 y1 y2 y3 y4 y5 y6 y7 y8 y9 y10 y11 z3 hsx
 refine (Hs.out W2 HB2.out).mono ?_
 rintro e X3 ⟨v',rfl,ho,hx⟩
 obtain ⟨bs,ds',hv',_⟩:=own_slice ho
 rw [HNs.out] at hv'
 subst hv'
 have hgx:X3.heap[w.heap.size]?=some (.cells #[.string nm,.string ct,.slice bm km dm',.slice br kr dr',.slice es ks cs,.slice eg kg cg,.int .i64 px,.int .i64 py,.int .i64 pz,.int .i64 ph,.int .i64 pq,.slice eh kh ch] 51 (0,0)):=(hx.block _ (by omega)).trans HG2.out
 obtain ⟨y0,y1,y2,y3,y4,y5,y6,y7,y8,y9,y10,y11⟩:=cells12 hgx
 have z4:X3.frozen? ⟨w.heap.size,4,none⟩=false:=by simp [World.frozen?,hgx]
 have hsx:w.heap.size < X3.heap.size:=by have:=hx.size;omega
 obtain ⟨W3,hW3⟩:∃ W3,W3=X3.setCell ⟨w.heap.size,4,none⟩ (.slice bs ks ds'):=⟨_,rfl⟩
 have HG3:Hid (W3.heap[w.heap.size]?=some (.cells #[.string nm,.string ct,.slice bm km dm',.slice br kr dr',.slice bs ks ds',.slice eg kg cg,.int .i64 px,.int .i64 py,.int .i64 pz,.int .i64 ph,.int .i64 pq,.slice eh kh ch] 51 (0,0))):=by rw [hW3];exact Joins.block_setCell (i:=4) hgx _
 have HZ3:Hid (W3.heap[w.heap.size+1]?=some (.cells #[.string ⟨#[]⟩,.string ⟨#[]⟩,.slice none 0 0,.slice none 0 0,.slice none 0 0,.slice none 0 0,.int .i64 0,.int .i64 0,.int .i64 0,.int .i64 0,.int .i64 0,.slice none 0 0] 51 (0,0))):=by rw [hW3];exact (Below.heap_setCell _ _ _ _ (by simp)).trans ((hx.block _ (by omega)).trans HZ2.out)
 have HOs3:Hid (Sv.Own (w.heap.size+2) W3 (.slice bs ks ds') sv):=by rw [hW3];exact ownsRow_setCell_below (ho.mono (by omega)) (by simp) _
 have HOm3:Hid (Own (w.heap.size+2) W3 (.slice bm km dm') ms):=by rw [hW3];exact ownsRow_setCell_below (HOm2.out.below hx) (by simp) _
 have HOr3:Hid (ROwn (w.heap.size+2) W3 (.slice br kr dr') rs):=by rw [hW3];exact ownsRow_setCell_below (HOr2.out.below hx) (by simp) _
 have HB3:Hid (Below w.heap.size w W3):=by rw [hW3];exact (HB2.out.trans (hx.mono HB2.out.size)).setCell (p:=⟨w.heap.size,4,none⟩) (by simp) _
 have hs3:w.heap.size+1 < W3.heap.size:=(Array.getElem?_eq_some_iff.1 HZ3.out).1
 clear ho hx hgx hs2
 go_wp2_with fail
 rw [← hW3]
 clear hW3 y0 y1 y2 y3 y4 y5 y6 y7 y8 y9 y10 y11 z4 hsx
 refine (Hg.out W3 HB3.out).mono ?_
 rintro e X4 ⟨v',rfl,ho,hx⟩
 obtain ⟨bg,dg',hv',_⟩:=own_slice ho
 rw [HNg.out] at hv'
 subst hv'
 have hgx:X4.heap[w.heap.size]?=some (.cells #[.string nm,.string ct,.slice bm km dm',.slice br kr dr',.slice bs ks ds',.slice eg kg cg,.int .i64 px,.int .i64 py,.int .i64 pz,.int .i64 ph,.int .i64 pq,.slice eh kh ch] 51 (0,0)):=(hx.block _ (by omega)).trans HG3.out
 obtain ⟨y0,y1,y2,y3,y4,y5,y6,y7,y8,y9,y10,y11⟩:=cells12 hgx
 have z5:X4.frozen? ⟨w.heap.size,5,none⟩=false:=by simp [World.frozen?,hgx]
 have hsx:w.heap.size < X4.heap.size:=by have:=hx.size;omega
 obtain ⟨W4,hW4⟩:∃ W4,W4=X4.setCell ⟨w.heap.size,5,none⟩ (.slice bg kg dg'):=⟨_,rfl⟩
 have HG4:Hid (W4.heap[w.heap.size]?=some (.cells #[.string nm,.string ct,.slice bm km dm',.slice br kr dr',.slice bs ks ds',.slice bg kg dg',.int .i64 px,.int .i64 py,.int .i64 pz,.int .i64 ph,.int .i64 pq,.slice eh kh ch] 51 (0,0))):=by rw [hW4];exact Joins.block_setCell (i:=5) hgx _
 have HZ4:Hid (W4.heap[w.heap.size+1]?=some (.cells #[.string ⟨#[]⟩,.string ⟨#[]⟩,.slice none 0 0,.slice none 0 0,.slice none 0 0,.slice none 0 0,.int .i64 0,.int .i64 0,.int .i64 0,.int .i64 0,.int .i64 0,.slice none 0 0] 51 (0,0))):=by rw [hW4];exact (Below.heap_setCell _ _ _ _ (by simp)).trans ((hx.block _ (by omega)).trans HZ3.out)
 have HOg4:Hid (Gw.Own (w.heap.size+2) W4 (.slice bg kg dg') gw):=by rw [hW4];exact ownsRow_setCell_below (ho.mono (by omega)) (by simp) _
 have HOm4:Hid (Own (w.heap.size+2) W4 (.slice bm km dm') ms):=by rw [hW4];exact ownsRow_setCell_below (HOm3.out.below hx) (by simp) _
 have HOr4:Hid (ROwn (w.heap.size+2) W4 (.slice br kr dr') rs):=by rw [hW4];exact ownsRow_setCell_below (HOr3.out.below hx) (by simp) _
 have HOs4:Hid (Sv.Own (w.heap.size+2) W4 (.slice bs ks ds') sv):=by rw [hW4];exact ownsRow_setCell_below (HOs3.out.below hx) (by simp) _
 have HB4:Hid (Below w.heap.size w W4):=by rw [hW4];exact (HB3.out.trans (hx.mono HB3.out.size)).setCell (p:=⟨w.heap.size,5,none⟩) (by simp) _
 have hs4:w.heap.size+1 < W4.heap.size:=(Array.getElem?_eq_some_iff.1 HZ4.out).1
 clear ho hx hgx hs3
 go_wp2_with fail
 rw [← hW4]
 clear hW4 y0 y1 y2 y3 y4 y5 y6 y7 y8 y9 y10 y11 z5 hsx
 refine (Hh.out W4 HB4.out).mono ?_
 rintro e X5 ⟨v',rfl,ho,hx⟩
 obtain ⟨bh,dh',hv',_⟩:=own_slice ho
 rw [HNh.out] at hv'
 subst hv'
 have hgx:X5.heap[w.heap.size]?=some (.cells #[.string nm,.string ct,.slice bm km dm',.slice br kr dr',.slice bs ks ds',.slice bg kg dg',.int .i64 px,.int .i64 py,.int .i64 pz,.int .i64 ph,.int .i64 pq,.slice eh kh ch] 51 (0,0)):=(hx.block _ (by omega)).trans HG4.out
 obtain ⟨y0,y1,y2,y3,y4,y5,y6,y7,y8,y9,y10,y11⟩:=cells12 hgx
 have z11:X5.frozen? ⟨w.heap.size,11,none⟩=false:=by simp [World.frozen?,hgx]
 have hsx:w.heap.size < X5.heap.size:=by have:=hx.size;omega
 obtain ⟨W5,hW5⟩:∃ W5,W5=X5.setCell ⟨w.heap.size,11,none⟩ (.slice bh kh dh'):=⟨_,rfl⟩
 have HG5:Hid (W5.heap[w.heap.size]?=some (.cells #[.string nm,.string ct,.slice bm km dm',.slice br kr dr',.slice bs ks ds',.slice bg kg dg',.int .i64 px,.int .i64 py,.int .i64 pz,.int .i64 ph,.int .i64 pq,.slice bh kh dh'] 51 (0,0))):=by rw [hW5];exact Joins.block_setCell (i:=11) hgx _
 have HZ5:Hid (W5.heap[w.heap.size+1]?=some (.cells #[.string ⟨#[]⟩,.string ⟨#[]⟩,.slice none 0 0,.slice none 0 0,.slice none 0 0,.slice none 0 0,.int .i64 0,.int .i64 0,.int .i64 0,.int .i64 0,.int .i64 0,.slice none 0 0] 51 (0,0))):=by rw [hW5];exact (Below.heap_setCell _ _ _ _ (by simp)).trans ((hx.block _ (by omega)).trans HZ4.out)
 have HOh5:Hid (Wh.Own (w.heap.size+2) W5 (.slice bh kh dh') wh):=by rw [hW5];exact ownsRow_setCell_below (ho.mono (by omega)) (by simp) _
 have HOm5:Hid (Own (w.heap.size+2) W5 (.slice bm km dm') ms):=by rw [hW5];exact ownsRow_setCell_below (HOm4.out.below hx) (by simp) _
 have HOr5:Hid (ROwn (w.heap.size+2) W5 (.slice br kr dr') rs):=by rw [hW5];exact ownsRow_setCell_below (HOr4.out.below hx) (by simp) _
 have HOs5:Hid (Sv.Own (w.heap.size+2) W5 (.slice bs ks ds') sv):=by rw [hW5];exact ownsRow_setCell_below (HOs4.out.below hx) (by simp) _
 have HOg5:Hid (Gw.Own (w.heap.size+2) W5 (.slice bg kg dg') gw):=by rw [hW5];exact ownsRow_setCell_below (HOg4.out.below hx) (by simp) _
 have HB5:Hid (Below w.heap.size w W5):=by rw [hW5];exact (HB4.out.trans (hx.mono HB4.out.size)).setCell (p:=⟨w.heap.size,11,none⟩) (by simp) _
 have hs5:w.heap.size+1 < W5.heap.size:=(Array.getElem?_eq_some_iff.1 HZ5.out).1
 have hz5:=HZ5.out
 have q0:W5.cell? ⟨w.heap.size+1,0,none⟩=_:=cellsAt hz5 0
 have p0:W5.cell? ⟨w.heap.size,0,none⟩=_:=cellsAt HG5.out 0
 have zz0:W5.frozen? ⟨w.heap.size+1,0,none⟩=false:=by simp [World.frozen?,hz5]
 have q1:W5.cell? ⟨w.heap.size+1,1,none⟩=_:=cellsAt hz5 1
 have p1:W5.cell? ⟨w.heap.size,1,none⟩=_:=cellsAt HG5.out 1
 have zz1:W5.frozen? ⟨w.heap.size+1,1,none⟩=false:=by simp [World.frozen?,hz5]
 have q2:W5.cell? ⟨w.heap.size+1,2,none⟩=_:=cellsAt hz5 2
 have p2:W5.cell? ⟨w.heap.size,2,none⟩=_:=cellsAt HG5.out 2
 have zz2:W5.frozen? ⟨w.heap.size+1,2,none⟩=false:=by simp [World.frozen?,hz5]
 have q3:W5.cell? ⟨w.heap.size+1,3,none⟩=_:=cellsAt hz5 3
 have p3:W5.cell? ⟨w.heap.size,3,none⟩=_:=cellsAt HG5.out 3
 have zz3:W5.frozen? ⟨w.heap.size+1,3,none⟩=false:=by simp [World.frozen?,hz5]
 have q4:W5.cell? ⟨w.heap.size+1,4,none⟩=_:=cellsAt hz5 4
 have p4:W5.cell? ⟨w.heap.size,4,none⟩=_:=cellsAt HG5.out 4
 have zz4:W5.frozen? ⟨w.heap.size+1,4,none⟩=false:=by simp [World.frozen?,hz5]
 have q5:W5.cell? ⟨w.heap.size+1,5,none⟩=_:=cellsAt hz5 5
 have p5:W5.cell? ⟨w.heap.size,5,none⟩=_:=cellsAt HG5.out 5
 have zz5:W5.frozen? ⟨w.heap.size+1,5,none⟩=false:=by simp [World.frozen?,hz5]
 have q6:W5.cell? ⟨w.heap.size+1,6,none⟩=_:=cellsAt hz5 6
 have p6:W5.cell? ⟨w.heap.size,6,none⟩=_:=cellsAt HG5.out 6
 have zz6:W5.frozen? ⟨w.heap.size+1,6,none⟩=false:=by simp [World.frozen?,hz5]
 have q7:W5.cell? ⟨w.heap.size+1,7,none⟩=_:=cellsAt hz5 7
 have p7:W5.cell? ⟨w.heap.size,7,none⟩=_:=cellsAt HG5.out 7
 have zz7:W5.frozen? ⟨w.heap.size+1,7,none⟩=false:=by simp [World.frozen?,hz5]
 have q8:W5.cell? ⟨w.heap.size+1,8,none⟩=_:=cellsAt hz5 8
 have p8:W5.cell? ⟨w.heap.size,8,none⟩=_:=cellsAt HG5.out 8
 have zz8:W5.frozen? ⟨w.heap.size+1,8,none⟩=false:=by simp [World.frozen?,hz5]
 have q9:W5.cell? ⟨w.heap.size+1,9,none⟩=_:=cellsAt hz5 9
 have p9:W5.cell? ⟨w.heap.size,9,none⟩=_:=cellsAt HG5.out 9
 have zz9:W5.frozen? ⟨w.heap.size+1,9,none⟩=false:=by simp [World.frozen?,hz5]
 have q10:W5.cell? ⟨w.heap.size+1,10,none⟩=_:=cellsAt hz5 10
 have p10:W5.cell? ⟨w.heap.size,10,none⟩=_:=cellsAt HG5.out 10
 have zz10:W5.frozen? ⟨w.heap.size+1,10,none⟩=false:=by simp [World.frozen?,hz5]
 have q11:W5.cell? ⟨w.heap.size+1,11,none⟩=_:=cellsAt hz5 11
 have p11:W5.cell? ⟨w.heap.size,11,none⟩=_:=cellsAt HG5.out 11
 have zz11:W5.frozen? ⟨w.heap.size+1,11,none⟩=false:=by simp [World.frozen?,hz5]
 clear ho hx hgx hs4 hz5
 go_upto_region 6 with fail
 rw [← hW5]
 clear hW5 y0 y1 y2 y3 y4 y5 y6 y7 y8 y9 y10 y11 z11 hsx
 go_wp2_with fail
 refine bodyPost_ret (v:=.agg #[.string nm,.string ct,.slice bm km dm',.slice br kr dr',.slice bs ks ds',.slice bg kg dg',.int .i64 px,.int .i64 py,.int .i64 pz,.int .i64 ph,.int .i64 pq,.slice bh kh dh']) ?_ rfl ⟨.slice bm km dm',.slice br kr dr',.slice bs ks ds',.slice bg kg dg',.slice bh kh dh',rfl,⟨?_,?_,?_,?_,?_⟩,?_⟩
 ·simp [results,Tryz.results36,go_sem,q0,q1,q2,q3,q4,q5,q6,q7,q8,q9,q10,q11]
 ·exact Own.mono (owns_set12 (HOm5.out) (by simp) _ _ _ _ _ _ _ _ _ _ _ _) (by omega)
 ·exact ROwn.base (owns_set12 (HOr5.out) (by simp) _ _ _ _ _ _ _ _ _ _ _ _) (by omega)
 ·exact Sv.Own.mono (owns_set12 (HOs5.out) (by simp) _ _ _ _ _ _ _ _ _ _ _ _) (by omega)
 ·exact Gw.Own.mono (owns_set12 (HOg5.out) (by simp) _ _ _ _ _ _ _ _ _ _ _ _) (by omega)
 ·exact Wh.Own.mono (owns_set12 (HOh5.out) (by simp) _ _ _ _ _ _ _ _ _ _ _ _) (by omega)
 ·exact below_set12 HB5.out (by simp) _ _ _ _ _ _ _ _ _ _ _ _
def dgs:Nat→List UInt8→Nat × Nat
 | n,[]=>(n,0)
 | n,c :: r=>if 48≤c.toNat∧c.toNat≤57∧n < 1099511627776 then ((dgs (10 * n+(c.toNat - 48)) r).1,(dgs (10 * n+(c.toNat - 48)) r).2+1) else (n,0)
theorem dgs_lt:∀ (n:Nat) (l:List UInt8),n < 10995116277760→(dgs n l).1 < 10995116277760
 | _,[],h=>h
 | n,c :: r,h=>by
   rw [dgs]
   split
   ·rename_i hc
    exact dgs_lt _ r (by omega)
   ·exact h
theorem dgs_dec (u:Nat) (hu:u < 10995116277760) (t:List UInt8):dgs 0 (Lib.decDigits u++t)=((dgs u t).1,(dgs u t).2+(Lib.decDigits u).length):=by
 induction u using Nat.strongRecOn generalizing t with
 | _ u ih=>
   rw [Lib.decDigits]
   split
   ·rename_i h
    rw [List.singleton_append,dgs,dg_nat h,if_pos ⟨by omega,by omega,by omega⟩,show 10 * 0+(48+u - 48)=u by omega]
    rfl
   ·rename_i h
    rw [List.append_assoc,ih (u / 10) (by omega) (by omega),List.singleton_append,dgs,dg_nat (by omega),if_pos ⟨by omega,by omega,by omega⟩,show 10 * (u / 10)+(48+u%10 - 48)=u by omega,List.length_append,List.length_singleton]
    simp only [Nat.add_assoc,Nat.add_comm 1]
theorem dgs_end (u:Nat) (r:List UInt8):dgs u (59 :: r)=(u,0):=by
 rw [dgs,if_neg (by rintro ⟨_,h,_⟩;have:(59:UInt8).toNat=59:=rfl;omega)]
def sm (n:Int):Prop:=n.natAbs < 10995116277760
theorem sm_in {n:Int} (h:sm n):In63 n:=by unfold sm at h;exact ⟨by omega,by omega⟩
def dN (l:List UInt8):Option (Int × List UInt8):=(rdN l).bind fun a=>if a.1.natAbs < 10995116277760 then some a else none
theorem dN_some {l r:List UInt8} {n:Int}:dN l=some (n,r)↔l=numB n++r∧sm n:=by
 unfold dN
 rw [Option.bind_eq_some_iff]
 constructor
 ·rintro ⟨⟨m,q⟩,h1,h2⟩
  simp only at h2
  split at h2
  ·rename_i h3
   simp only [Option.some.injEq,Prod.mk.injEq] at h2
   obtain ⟨rfl,rfl⟩:=h2
   exact ⟨(rdN_eq h1).1,h3⟩
  ·cases h2
 ·rintro ⟨rfl,h⟩
  exact ⟨(n,r),rdN_num (sm_in h) r,if_pos h⟩
def ngB (l:List UInt8):Bool:=match l with
 | 45 :: _=>true
 | _=>false
def bhd (l:List UInt8):List UInt8:=if ngB l=true then l.tail else l
def far (l:List UInt8):Nat:=(if ngB l=true then 1 else 0)+(dgs 0 (bhd l)).2
def val (l:List UInt8):Int:=if ngB l=true then -((dgs 0 (bhd l)).1:Int) else ((dgs 0 (bhd l)).1:Int)
theorem val_sm (l:List UInt8):sm (val l):=by
 unfold sm val
 have:=dgs_lt 0 (bhd l) (by omega)
 split<;>omega
theorem dN_yes {l:List UInt8} (h2:l.take (far l+1)=numB (val l)):dN l=some (val l,l.drop (far l+1)):=
 dN_some.2 ⟨by rw [← h2,List.take_append_drop],val_sm l⟩
theorem far_num {n:Int} (h:sm n) (r:List UInt8):far (numB n++r)+1=(numB n).length∧val (numB n++r)=n:=by
 unfold sm at h
 unfold numB Lib.itoa
 split
 ·rename_i hn
  have e:ngB (45 :: Lib.decDigits n.natAbs++[59]++r)=true:=rfl
  have e2:bhd (45 :: Lib.decDigits n.natAbs++[59]++r)=Lib.decDigits n.natAbs++59 :: r:=by
   unfold bhd;rw [if_pos e];simp
  unfold far val
  rw [e2,if_pos e,if_pos e,dgs_dec _ h,dgs_end]
  constructor
  ·simp only [List.length_append,List.length_cons,List.length_nil];omega
  ·simp only;omega
 ·rename_i hn
  have e:ngB (Lib.decDigits n.toNat++[59]++r)=false:=by
   cases hd:Lib.decDigits n.toNat with
   | nil=>exact absurd hd (dec_ne _)
   | cons c q=>
     have hc:=dec_all n.toNat c (by rw [hd];exact List.mem_cons_self)
     unfold ngB
     split
     ·rename_i x hx
      simp only [List.cons_append,List.cons.injEq] at hx
      have h45:(45:UInt8).toNat=45:=rfl
      rw [← hx.1] at h45
      omega
     ·rfl
  have e2:bhd (Lib.decDigits n.toNat++[59]++r)=Lib.decDigits n.toNat++59 :: r:=by
   unfold bhd;rw [if_neg (by rw [e];exact Bool.false_ne_true)];simp
  unfold far val
  rw [e2,if_neg (by rw [e];exact Bool.false_ne_true),if_neg (by rw [e];exact Bool.false_ne_true),dgs_dec _ (by omega),dgs_end]
  constructor
  ·simp only [List.length_append,List.length_cons,List.length_nil];omega
  ·simp only;omega
theorem dN_no {l:List UInt8} (h:¬ (far l < l.length∧l.take (far l+1)=numB (val l))):dN l=none:=by
 cases hd:dN l with
 | none=>rfl
 | some a=>
   obtain ⟨n,r⟩:=a
   obtain ⟨h1,h2⟩:=dN_some.1 hd
   obtain ⟨h3,h4⟩:=far_num h2 r
   rw [← h1] at h3 h4
   exfalso
   apply h
   refine ⟨?_,?_⟩
   ·have:=congrArg List.length h1
    rw [List.length_append] at this
    omega
   ·rw [h3,h4,h1,List.take_left]
def cN (o:Option (List UInt8)):Int × Option (List UInt8):=match o.bind dN with
 | some a=>(a.1,some a.2)
 | none=>(0,none)
def cT (o:Option (List UInt8)):ByteArray × Option (List UInt8):=match (cN o).2 with
 | some r=>if 0≤(cN o).1∧(cN o).1≤r.length then (bstr (r.take (cN o).1.toNat),some (r.drop (cN o).1.toNat)) else (⟨#[]⟩,none)
 | none=>(⟨#[]⟩,none)
def cY (o:Option (List UInt8)):Bool × Option (List UInt8):=match (cN o).2 with
 | some r=>if (cN o).1=0 then (false,some r) else if (cN o).1=1 then (true,some r) else (false,none)
 | none=>(false,none)
def cC (most:Int) (o:Option (List UInt8)):Int × Option (List UInt8):=match (cN o).2 with
 | some r=>if 0≤(cN o).1∧(cN o).1≤most then ((cN o).1,some r) else (0,none)
 | none=>(0,none)
theorem cN_eq {o:Option (List UInt8)} {r:List UInt8} (h:(cN o).2=some r):o=some (numB (cN o).1++r)∧sm (cN o).1:=by
 cases o with
 | none=>cases h
 | some l=>
   unfold cN at h ⊢
   simp only [Option.bind_some] at h ⊢
   cases hd:dN l with
   | none=>rw [hd] at h;cases h
   | some a=>
     rw [hd] at h
     simp only [Option.some.injEq] at h ⊢
     subst h
     exact (dN_some (n:=a.1) (r:=a.2)).1 hd
theorem cN_num {n:Int} (h:sm n) (r:List UInt8):cN (some (numB n++r))=(n,some r):=by
 unfold cN
 rw [Option.bind_some,dN_some.2 ⟨rfl,h⟩]
theorem cT_eq {o:Option (List UInt8)} {r:List UInt8} (h:(cT o).2=some r):o=some (txtB (cT o).1++r):=by
 unfold cT at h ⊢
 cases hn:(cN o).2 with
 | none=>rw [hn] at h;cases h
 | some q=>
   rw [hn] at h
   simp only at h ⊢
   split at h
   ·rename_i hk
    rw [if_pos hk]
    simp only [Option.some.injEq] at h
    subst h
    have e:=(cN_eq hn).1
    refine e.trans ?_
    unfold txtB
    rw [bstr_size,List.length_take,Nat.min_eq_left (by omega),bstr_list,List.append_assoc,List.take_append_drop,show ((((cN o).1.toNat:Nat)):Int)=(cN o).1 by omega]
   ·cases h
theorem cT_txt {s:ByteArray} (h:s.size≤1000) (r:List UInt8):cT (some (txtB s++r))=(s,some r):=by
 unfold cT txtB
 rw [List.append_assoc,cN_num (by unfold sm;omega)]
 have hl:s.data.toList.length=s.size:=rfl
 simp only
 rw [if_pos ⟨by omega,by rw [List.length_append];omega⟩,Int.toNat_natCast,List.take_left' hl,List.drop_left' hl]
 rfl
theorem cY_eq {o:Option (List UInt8)} {r:List UInt8} (h:(cY o).2=some r):o=some (flgB (cY o).1++r):=by
 unfold cY at h ⊢
 cases hn:(cN o).2 with
 | none=>rw [hn] at h;cases h
 | some q=>
   rw [hn] at h
   have e:=(cN_eq hn).1
   simp only at h ⊢
   split at h
   ·rename_i hk
    rw [if_pos hk]
    simp only [Option.some.injEq] at h
    subst h
    rw [hk] at e
    rw [e];rfl
   ·rename_i hk0
    split at h
    ·rename_i hk
     rw [if_neg hk0,if_pos hk]
     simp only [Option.some.injEq] at h
     subst h
     rw [hk] at e
     rw [e];rfl
    ·cases h
theorem cY_flg (y:Bool) (r:List UInt8):cY (some (flgB y++r))=(y,some r):=by
 unfold cY flgB
 rw [cN_num (by unfold sm;split<;>decide)]
 cases y<;>simp
theorem cC_eq {m:Int} {o:Option (List UInt8)} {r:List UInt8} (h:(cC m o).2=some r):o=some (numB (cC m o).1++r)∧0≤(cC m o).1:=by
 unfold cC at h ⊢
 cases hn:(cN o).2 with
 | none=>rw [hn] at h;cases h
 | some q=>
   rw [hn] at h
   have e:=(cN_eq hn).1
   simp only at h ⊢
   split at h
   ·rename_i hk
    rw [if_pos hk]
    simp only [Option.some.injEq] at h
    subst h
    exact ⟨e,hk.1⟩
   ·cases h
theorem cC_num {n m:Nat} (h:n≤m) (hm:m≤1000) (r:List UInt8):cC m (some (numB n++r))=((n:Int),some r):=by
 unfold cC
 rw [cN_num (by unfold sm;omega)]
 simp only
 rw [if_pos ⟨by omega,by omega⟩]
theorem cC_le {m:Int} (hm:0≤m) (o:Option (List UInt8)):0≤(cC m o).1∧(cC m o).1≤m:=by
 unfold cC
 split
 ·split
  ·rename_i h;exact h
  ·exact ⟨Int.le_refl _,hm⟩
 ·exact ⟨Int.le_refl _,hm⟩
theorem within_sm {n a b:Int} (h:within n a b=true) (ha : -10000000000000≤a) (hb:b≤10000000000000):sm n:=by
 unfold within at h
 rw [Bool.and_eq_true,decide_eq_true_eq,decide_eq_true_eq] at h
 unfold sm
 omega
def cEl (o:Option (List UInt8)):Mem × Option (List UInt8):=
 let a0:=cT o
 let a1:=cN a0.2
 let a2:=cN a1.2
 let a3:=cN a2.2
 let a4:=cY a3.2
 (⟨a0.1,a1.1,a2.1,a3.1,a4.1⟩,a4.2)
def wob (m:Mem):Prop:=m.name.size≤1000∧sm m.state∧sm m.life∧sm m.addr
theorem wob_of {m:Mem} (h:m.e=0):wob m:=by
 unfold Mem.e oneE at h
 split at h
 ·rename_i h1
  split at h
  ·rename_i h2
   split at h
   ·rename_i h3
    split at h
    ·rename_i h4
     exact ⟨lab_size h1,within_sm h2 (by omega) (by omega),within_sm h3 (by omega) (by omega),within_sm h4 (by omega) (by omega)⟩
    ·cases h
   ·cases h
  ·cases h
 ·cases h
theorem cEl_eq {o:Option (List UInt8)} {r:List UInt8} (h:(cEl o).2=some r):o=some (elB (cEl o).1++r):=by
 unfold cEl at h ⊢
 simp only at h ⊢
 have e4:=cY_eq h
 have e3:=cN_eq e4
 have e2:=cN_eq e3.1
 have e1:=cN_eq e2.1
 have e0:=cT_eq e1.1
 refine e0.trans ?_
 unfold elB
 simp only [List.flatMap_cons,List.flatMap_nil,List.append_nil,List.append_assoc]
theorem cEl_el {m:Mem} (h:wob m) (r:List UInt8):cEl (some (elB m++r))=(m,some r):=by
 obtain ⟨h0,h1,h2,h3⟩:=h
 unfold cEl elB
 simp only [List.flatMap_cons,List.flatMap_nil,List.append_nil,List.append_assoc,cT_txt h0,cN_num h1,cN_num h2,cN_num h3,cY_flg m.server]
def cLs:Nat→Option (List UInt8)→List Mem→List Mem × Option (List UInt8)
 | 0,o,D=>(D,o)
 | _+1,none,D=>(D,none)
 | n+1,some l,D=>cLs n (cEl (some l)).2 (D++[(cEl (some l)).1])
def cList (most:Int) (o:Option (List UInt8)):List Mem × Option (List UInt8):=cLs (cC most o).1.toNat (cC most o).2 []
theorem cLs_bad (n:Nat) (D:List Mem):cLs n none D=(D,none):=by cases n<;>rfl
theorem cLs_go {n:Nat} {l:List UInt8} {D:List Mem} (h:0 < n):cLs n (some l) D=cLs (n - 1) (cEl (some l)).2 (D++[(cEl (some l)).1]):=by
 obtain ⟨m,rfl⟩:∃ m,n=m+1:=⟨n - 1,by omega⟩
 rfl
theorem cLs_eq:∀ (n:Nat) {o:Option (List UInt8)} {D:List Mem} {r:List UInt8},(cLs n o D).2=some r→∃ X:List Mem,X.length=n∧(cLs n o D).1=D++X∧o=some (X.flatMap elB++r)
 | 0,o,D,r,h=>⟨[],rfl,by simp [cLs],by simpa [cLs] using h⟩
 | n+1,none,D,r,h=>by simp [cLs] at h
 | n+1,some l,D,r,h=>by
   simp only [cLs] at h ⊢
   obtain ⟨X,h1,h2,h3⟩:=cLs_eq n h
   refine ⟨(cEl (some l)).1 :: X,by simp [h1],by rw [h2];simp,?_⟩
   rw [List.flatMap_cons,List.append_assoc]
   exact cEl_eq h3
theorem cLs_el:∀ (E:List Mem),(∀ m∈E,wob m)→∀ (D:List Mem) (r:List UInt8),cLs E.length (some (E.flatMap elB++r)) D=(D++E,some r)
 | [],_,D,r=>by simp [cLs]
 | m :: E,h,D,r=>by
   rw [List.flatMap_cons,List.append_assoc,List.length_cons,cLs,cEl_el (h m List.mem_cons_self)]
   simp only
   rw [cLs_el E (fun x hx=>h x (List.mem_cons_of_mem _ hx)) (D++[m]) r,List.append_assoc];rfl
theorem cList_eq {m:Int} {o:Option (List UInt8)} {r:List UInt8} (h:(cList m o).2=some r):o=some (numB (cList m o).1.length++(cList m o).1.flatMap elB++r):=by
 unfold cList at h ⊢
 obtain ⟨X,h1,h2,h3⟩:=cLs_eq _ h
 obtain ⟨h4,h5⟩:=cC_eq h3
 rw [h2,List.nil_append,h1,show (((cC m o).1.toNat:Nat):Int)=(cC m o).1 by omega,List.append_assoc]
 exact h4
theorem cList_el {E:List Mem} (hl:E.length≤20) (h:∀ m∈E,wob m) (r:List UInt8):cList 20 (some (numB E.length++E.flatMap elB++r))=(E,some r):=by
 unfold cList
 have e:=cC_num (m:=20) hl (by omega) (E.flatMap elB++r)
 rw [List.append_assoc]
 rw [show ((20:Nat):Int)=20 from rfl] at e
 rw [e]
 simp only
 rw [Int.toNat_natCast,cLs_el E h [] r,List.nil_append]
namespace Sv
def cEl (o:Option (List UInt8)):Svc × Option (List UInt8):=
 let a0:=cT o
 let a1:=cT a0.2
 let a2:=cT a1.2
 let a3:=cT a2.2
 let a4:=cN a3.2
 let a5:=cN a4.2
 let a6:=cY a5.2
 let a7:=cN a6.2
 let a8:=cY a7.2
 (⟨a0.1,a1.1,a2.1,a3.1,a4.1,a5.1,a6.1,a7.1,a8.1⟩,a8.2)
def wob (m:Svc):Prop:=m.node.size≤1000∧m.idn.size≤1000∧m.name.size≤1000∧m.tag.size≤1000∧sm m.addr∧sm m.port∧sm m.version
theorem wob_of {m:Svc} (h:m.e=0):wob m:=by
 unfold Svc.e at h
 split at h
 ·rename_i h1
  split at h
  ·rename_i h2
   simp only [Bool.and_eq_true] at h1 h2
   exact ⟨lab_size h1.1,lab_size h1.2.1,lab_size h1.2.2.1,tag_size h1.2.2.2,within_sm h2.1 (by omega) (by omega),within_sm h2.2.1 (by omega) (by omega),within_sm h2.2.2 (by omega) (by omega)⟩
  ·cases h
 ·cases h
theorem cEl_eq {o:Option (List UInt8)} {r:List UInt8} (h:(cEl o).2=some r):o=some (elB (cEl o).1++r):=by
 unfold cEl at h ⊢
 simp only at h ⊢
 have e8:=cY_eq h
 have e7:=cN_eq e8
 have e6:=cY_eq e7.1
 have e5:=cN_eq e6
 have e4:=cN_eq e5.1
 have e3:=cT_eq e4.1
 have e2:=cT_eq e3
 have e1:=cT_eq e2
 have e0:=cT_eq e1
 refine e0.trans ?_
 unfold elB
 simp only [List.flatMap_cons,List.flatMap_nil,List.append_nil,List.append_assoc]
theorem cEl_el {m:Svc} (h:wob m) (r:List UInt8):cEl (some (elB m++r))=(m,some r):=by
 obtain ⟨h0,h1,h2,h3,h4,h5,h6⟩:=h
 unfold cEl elB
 simp only [List.flatMap_cons,List.flatMap_nil,List.append_nil,List.append_assoc,cT_txt h0,cT_txt h1,cT_txt h2,cT_txt h3,cN_num h4,cN_num h5,cY_flg m.passing,cN_num h6,cY_flg m.gone]
def cLs:Nat→Option (List UInt8)→List Svc→List Svc × Option (List UInt8)
 | 0,o,D=>(D,o)
 | _+1,none,D=>(D,none)
 | n+1,some l,D=>cLs n (cEl (some l)).2 (D++[(cEl (some l)).1])
def cList (most:Int) (o:Option (List UInt8)):List Svc × Option (List UInt8):=cLs (cC most o).1.toNat (cC most o).2 []
theorem cLs_bad (n:Nat) (D:List Svc):cLs n none D=(D,none):=by cases n<;>rfl
theorem cLs_go {n:Nat} {l:List UInt8} {D:List Svc} (h:0 < n):cLs n (some l) D=cLs (n - 1) (cEl (some l)).2 (D++[(cEl (some l)).1]):=by
 obtain ⟨m,rfl⟩:∃ m,n=m+1:=⟨n - 1,by omega⟩
 rfl
theorem cLs_eq:∀ (n:Nat) {o:Option (List UInt8)} {D:List Svc} {r:List UInt8},(cLs n o D).2=some r→∃ X:List Svc,X.length=n∧(cLs n o D).1=D++X∧o=some (X.flatMap elB++r)
 | 0,o,D,r,h=>⟨[],rfl,by simp [cLs],by simpa [cLs] using h⟩
 | n+1,none,D,r,h=>by simp [cLs] at h
 | n+1,some l,D,r,h=>by
   simp only [cLs] at h ⊢
   obtain ⟨X,h1,h2,h3⟩:=cLs_eq n h
   refine ⟨(cEl (some l)).1 :: X,by simp [h1],by rw [h2];simp,?_⟩
   rw [List.flatMap_cons,List.append_assoc]
   exact cEl_eq h3
theorem cLs_el:∀ (E:List Svc),(∀ m∈E,wob m)→∀ (D:List Svc) (r:List UInt8),cLs E.length (some (E.flatMap elB++r)) D=(D++E,some r)
 | [],_,D,r=>by simp [cLs]
 | m :: E,h,D,r=>by
   rw [List.flatMap_cons,List.append_assoc,List.length_cons,cLs,cEl_el (h m List.mem_cons_self)]
   simp only
   rw [cLs_el E (fun x hx=>h x (List.mem_cons_of_mem _ hx)) (D++[m]) r,List.append_assoc];rfl
theorem cList_eq {m:Int} {o:Option (List UInt8)} {r:List UInt8} (h:(cList m o).2=some r):o=some (numB (cList m o).1.length++(cList m o).1.flatMap elB++r):=by
 unfold cList at h ⊢
 obtain ⟨X,h1,h2,h3⟩:=cLs_eq _ h
 obtain ⟨h4,h5⟩:=cC_eq h3
 rw [h2,List.nil_append,h1,show (((cC m o).1.toNat:Nat):Int)=(cC m o).1 by omega,List.append_assoc]
 exact h4
theorem cList_el {E:List Svc} (hl:E.length≤40) (h:∀ m∈E,wob m) (r:List UInt8):cList 40 (some (numB E.length++E.flatMap elB++r))=(E,some r):=by
 unfold cList
 have e:=cC_num (m:=40) hl (by omega) (E.flatMap elB++r)
 rw [List.append_assoc]
 rw [show ((40:Nat):Int)=40 from rfl] at e
 rw [e]
 simp only
 rw [Int.toNat_natCast,cLs_el E h [] r,List.nil_append]
end Sv
namespace Gw
def cEl (o:Option (List UInt8)):Gwy × Option (List UInt8):=
 let a0:=cT o
 let a1:=cN a0.2
 let a2:=cN a1.2
 (⟨a0.1,a1.1,a2.1⟩,a2.2)
def wob (m:Gwy):Prop:=m.centre.size≤1000∧sm m.addr∧sm m.version
theorem wob_of {m:Gwy} (h:m.e=0):wob m:=by
 unfold Gwy.e at h
 split at h
 ·rename_i h1
  split at h
  ·rename_i h2
   split at h
   ·rename_i h3
    exact ⟨lab_size h1,within_sm h2 (by omega) (by omega),within_sm h3 (by omega) (by omega)⟩
   ·cases h
  ·cases h
 ·cases h
theorem cEl_eq {o:Option (List UInt8)} {r:List UInt8} (h:(cEl o).2=some r):o=some (elB (cEl o).1++r):=by
 unfold cEl at h ⊢
 simp only at h ⊢
 have e2:=cN_eq h
 have e1:=cN_eq e2.1
 have e0:=cT_eq e1.1
 refine e0.trans ?_
 unfold elB
 simp only [List.flatMap_cons,List.flatMap_nil,List.append_nil,List.append_assoc]
theorem cEl_el {m:Gwy} (h:wob m) (r:List UInt8):cEl (some (elB m++r))=(m,some r):=by
 obtain ⟨h0,h1,h2⟩:=h
 unfold cEl elB
 simp only [List.flatMap_cons,List.flatMap_nil,List.append_nil,List.append_assoc,cT_txt h0,cN_num h1,cN_num h2]
def cLs:Nat→Option (List UInt8)→List Gwy→List Gwy × Option (List UInt8)
 | 0,o,D=>(D,o)
 | _+1,none,D=>(D,none)
 | n+1,some l,D=>cLs n (cEl (some l)).2 (D++[(cEl (some l)).1])
def cList (most:Int) (o:Option (List UInt8)):List Gwy × Option (List UInt8):=cLs (cC most o).1.toNat (cC most o).2 []
theorem cLs_bad (n:Nat) (D:List Gwy):cLs n none D=(D,none):=by cases n<;>rfl
theorem cLs_go {n:Nat} {l:List UInt8} {D:List Gwy} (h:0 < n):cLs n (some l) D=cLs (n - 1) (cEl (some l)).2 (D++[(cEl (some l)).1]):=by
 obtain ⟨m,rfl⟩:∃ m,n=m+1:=⟨n - 1,by omega⟩
 rfl
theorem cLs_eq:∀ (n:Nat) {o:Option (List UInt8)} {D:List Gwy} {r:List UInt8},(cLs n o D).2=some r→∃ X:List Gwy,X.length=n∧(cLs n o D).1=D++X∧o=some (X.flatMap elB++r)
 | 0,o,D,r,h=>⟨[],rfl,by simp [cLs],by simpa [cLs] using h⟩
 | n+1,none,D,r,h=>by simp [cLs] at h
 | n+1,some l,D,r,h=>by
   simp only [cLs] at h ⊢
   obtain ⟨X,h1,h2,h3⟩:=cLs_eq n h
   refine ⟨(cEl (some l)).1 :: X,by simp [h1],by rw [h2];simp,?_⟩
   rw [List.flatMap_cons,List.append_assoc]
   exact cEl_eq h3
theorem cLs_el:∀ (E:List Gwy),(∀ m∈E,wob m)→∀ (D:List Gwy) (r:List UInt8),cLs E.length (some (E.flatMap elB++r)) D=(D++E,some r)
 | [],_,D,r=>by simp [cLs]
 | m :: E,h,D,r=>by
   rw [List.flatMap_cons,List.append_assoc,List.length_cons,cLs,cEl_el (h m List.mem_cons_self)]
   simp only
   rw [cLs_el E (fun x hx=>h x (List.mem_cons_of_mem _ hx)) (D++[m]) r,List.append_assoc];rfl
theorem cList_eq {m:Int} {o:Option (List UInt8)} {r:List UInt8} (h:(cList m o).2=some r):o=some (numB (cList m o).1.length++(cList m o).1.flatMap elB++r):=by
 unfold cList at h ⊢
 obtain ⟨X,h1,h2,h3⟩:=cLs_eq _ h
 obtain ⟨h4,h5⟩:=cC_eq h3
 rw [h2,List.nil_append,h1,show (((cC m o).1.toNat:Nat):Int)=(cC m o).1 by omega,List.append_assoc]
 exact h4
theorem cList_el {E:List Gwy} (hl:E.length≤6) (h:∀ m∈E,wob m) (r:List UInt8):cList 6 (some (numB E.length++E.flatMap elB++r))=(E,some r):=by
 unfold cList
 have e:=cC_num (m:=6) hl (by omega) (E.flatMap elB++r)
 rw [List.append_assoc]
 rw [show ((6:Nat):Int)=6 from rfl] at e
 rw [e]
 simp only
 rw [Int.toNat_natCast,cLs_el E h [] r,List.nil_append]
end Gw
namespace Wh
def cEl (o:Option (List UInt8)):Whe × Option (List UInt8):=
 let a0:=cT o
 let a1:=cN a0.2
 let a2:=cN a1.2
 let a3:=cN a2.2
 let a4:=cN a3.2
 let a5:=cN a4.2
 (⟨a0.1,a1.1,a2.1,a3.1,a4.1,a5.1⟩,a5.2)
def wob (m:Whe):Prop:=m.node.size≤1000∧sm m.x∧sm m.y∧sm m.z∧sm m.h∧sm m.s
theorem wob_of {m:Whe} (h:m.e=0):wob m:=by
 unfold Whe.e at h
 split at h
 ·rename_i h1
  obtain ⟨a0,a1,a2,a3,a4,a5,a6,a7,a8,a9⟩:=(okP_iff _).1 h
  simp only at a0 a1 a2 a3 a4 a5 a6 a7 a8 a9
  exact ⟨lab_size h1,by unfold sm;omega,by unfold sm;omega,by unfold sm;omega,by unfold sm;omega,by unfold sm;omega⟩
 ·cases h
theorem cEl_eq {o:Option (List UInt8)} {r:List UInt8} (h:(cEl o).2=some r):o=some (elB (cEl o).1++r):=by
 unfold cEl at h ⊢
 simp only at h ⊢
 have e5:=cN_eq h
 have e4:=cN_eq e5.1
 have e3:=cN_eq e4.1
 have e2:=cN_eq e3.1
 have e1:=cN_eq e2.1
 have e0:=cT_eq e1.1
 refine e0.trans ?_
 unfold elB
 simp only [List.flatMap_cons,List.flatMap_nil,List.append_nil,List.append_assoc]
theorem cEl_el {m:Whe} (h:wob m) (r:List UInt8):cEl (some (elB m++r))=(m,some r):=by
 obtain ⟨h0,h1,h2,h3,h4,h5⟩:=h
 unfold cEl elB
 simp only [List.flatMap_cons,List.flatMap_nil,List.append_nil,List.append_assoc,cT_txt h0,cN_num h1,cN_num h2,cN_num h3,cN_num h4,cN_num h5]
def cLs:Nat→Option (List UInt8)→List Whe→List Whe × Option (List UInt8)
 | 0,o,D=>(D,o)
 | _+1,none,D=>(D,none)
 | n+1,some l,D=>cLs n (cEl (some l)).2 (D++[(cEl (some l)).1])
def cList (most:Int) (o:Option (List UInt8)):List Whe × Option (List UInt8):=cLs (cC most o).1.toNat (cC most o).2 []
theorem cLs_bad (n:Nat) (D:List Whe):cLs n none D=(D,none):=by cases n<;>rfl
theorem cLs_go {n:Nat} {l:List UInt8} {D:List Whe} (h:0 < n):cLs n (some l) D=cLs (n - 1) (cEl (some l)).2 (D++[(cEl (some l)).1]):=by
 obtain ⟨m,rfl⟩:∃ m,n=m+1:=⟨n - 1,by omega⟩
 rfl
theorem cLs_eq:∀ (n:Nat) {o:Option (List UInt8)} {D:List Whe} {r:List UInt8},(cLs n o D).2=some r→∃ X:List Whe,X.length=n∧(cLs n o D).1=D++X∧o=some (X.flatMap elB++r)
 | 0,o,D,r,h=>⟨[],rfl,by simp [cLs],by simpa [cLs] using h⟩
 | n+1,none,D,r,h=>by simp [cLs] at h
 | n+1,some l,D,r,h=>by
   simp only [cLs] at h ⊢
   obtain ⟨X,h1,h2,h3⟩:=cLs_eq n h
   refine ⟨(cEl (some l)).1 :: X,by simp [h1],by rw [h2];simp,?_⟩
   rw [List.flatMap_cons,List.append_assoc]
   exact cEl_eq h3
theorem cLs_el:∀ (E:List Whe),(∀ m∈E,wob m)→∀ (D:List Whe) (r:List UInt8),cLs E.length (some (E.flatMap elB++r)) D=(D++E,some r)
 | [],_,D,r=>by simp [cLs]
 | m :: E,h,D,r=>by
   rw [List.flatMap_cons,List.append_assoc,List.length_cons,cLs,cEl_el (h m List.mem_cons_self)]
   simp only
   rw [cLs_el E (fun x hx=>h x (List.mem_cons_of_mem _ hx)) (D++[m]) r,List.append_assoc];rfl
theorem cList_eq {m:Int} {o:Option (List UInt8)} {r:List UInt8} (h:(cList m o).2=some r):o=some (numB (cList m o).1.length++(cList m o).1.flatMap elB++r):=by
 unfold cList at h ⊢
 obtain ⟨X,h1,h2,h3⟩:=cLs_eq _ h
 obtain ⟨h4,h5⟩:=cC_eq h3
 rw [h2,List.nil_append,h1,show (((cC m o).1.toNat:Nat):Int)=(cC m o).1 by omega,List.append_assoc]
 exact h4
theorem cList_el {E:List Whe} (hl:E.length≤20) (h:∀ m∈E,wob m) (r:List UInt8):cList 20 (some (numB E.length++E.flatMap elB++r))=(E,some r):=by
 unfold cList
 have e:=cC_num (m:=20) hl (by omega) (E.flatMap elB++r)
 rw [List.append_assoc]
 rw [show ((20:Nat):Int)=20 from rfl] at e
 rw [e]
 simp only
 rw [Int.toNat_natCast,cLs_el E h [] r,List.nil_append]
end Wh
def cPk (o:Option (List UInt8)):Pk × Option (List UInt8):=
 let a0:=cT o
 let a1:=cY a0.2
 let a2:=cList 20 a1.2
 let a3:=Sv.cList 40 a2.2
 let a4:=Gw.cList 6 a3.2
 let a5:=Wh.cList 20 a4.2
 (⟨a0.1,a1.1,a2.1,a3.1,a4.1,a5.1⟩,a5.2)
theorem cPk_eq {o:Option (List UInt8)} {r:List UInt8} (h:(cPk o).2=some r):o=some ((cPk o).1.B++r):=by
 unfold cPk at h ⊢
 simp only at h ⊢
 have e5:=Wh.cList_eq h
 have e4:=Gw.cList_eq e5
 have e3:=Sv.cList_eq e4
 have e2:=cList_eq e3
 have e1:=cY_eq e2
 have e0:=cT_eq e1
 refine e0.trans ?_
 unfold Pk.B
 simp only [List.append_assoc]
structure Pk.Wob (p:Pk):Prop where
 frm:p.frm.size≤1000
 ms:p.ms.length≤20∧∀ m∈p.ms,wob m
 sv:p.sv.length≤40∧∀ m∈p.sv,Sv.wob m
 gw:p.gw.length≤6∧∀ m∈p.gw,Gw.wob m
 wh:p.wh.length≤20∧∀ m∈p.wh,Wh.wob m
theorem pk_wob {p:Pk} (h:p.e=0):p.Wob:=by
 unfold Pk.e at h
 split at h
 ·rename_i h0
  rw [Bool.and_eq_true] at h0
  split at h
  ·rename_i h1
   have hm:p.ms.length≤20∧∀ m∈p.ms,wob m:=by
    unfold Pk.mE at h1
    split at h1
    ·exact ⟨(chk_zero h1).1,fun m hm=>wob_of (firstE_mem _ (chk_firstE h1) m hm)⟩
    ·obtain ⟨a,b,_⟩:=chkT_zero h1
     exact ⟨by omega,fun m hm=>wob_of (firstE_mem _ b m hm)⟩
   split at h
   ·rename_i h2
    split at h
    ·rename_i h3
     exact ⟨lab_size h0.1,hm,⟨(Sv.chk_zero h2).1,fun m hm=>Sv.wob_of (Sv.firstE_mem _ (Sv.chk_zero h2).2.2 m hm)⟩,⟨(Gw.chk_zero h3).1,fun m hm=>Gw.wob_of (Gw.firstE_mem _ (Gw.chk_zero h3).2.2 m hm)⟩,⟨(Wh.chk_zero h).1,fun m hm=>Wh.wob_of (Wh.firstE_mem _ (Wh.chk_zero h).2.2 m hm)⟩⟩
    ·rename_i h3;exact absurd h h3
   ·rename_i h2;exact absurd h h2
  ·rename_i h1;exact absurd h h1
 ·cases h
theorem cPk_B {p:Pk} (h:p.Wob) (r:List UInt8):cPk (some (p.B++r))=(p,some r):=by
 unfold cPk Pk.B
 rw [List.append_assoc,List.append_assoc,List.append_assoc,List.append_assoc,List.append_assoc]
 simp only [cT_txt h.frm,cY_flg,cList_el h.ms.1 h.ms.2,Sv.cList_el h.sv.1 h.sv.2,Gw.cList_el h.gw.1 h.gw.2,Wh.cList_el h.wh.1 h.wh.2]
theorem cPk_rdR (l:List UInt8):(if (cPk (some l)).2=some []∧(cPk (some l)).1.e=0 then some (cPk (some l)).1 else none)=rdR l:=by
 cases hr:rdR l with
 | some p=>
   obtain ⟨h1,h2⟩:=rdR_some.1 hr
   have h:=cPk_B (pk_wob h2) []
   rw [List.append_nil,← h1] at h
   rw [h,if_pos ⟨rfl,h2⟩]
 | none=>
   split
   ·rename_i h
    have e:=cPk_eq h.1
    rw [List.append_nil,Option.some.injEq] at e
    have:=rdR_some.2 ⟨e,h.2⟩
    rw [hr] at this
    cases this
   ·rfl
def posM (ms:List Mem) (t:ByteArray):Nat:=ms.findIdx fun m => !decide (cmpI m.name t < 0)
def isM (ms:List Mem) (t:ByteArray):Bool:=decide (posM ms t < ms.length) && decide (cmpI (ms.getD (posM ms t) dm).name t=0)
theorem at_pos {ms:List Mem} (hr:Rise ms) (t:ByteArray):At ms t (posM ms t) (isM ms t):=by
 have hget:∀ j (h:j < ms.length),ms.getD j dm=ms[j]:=fun j h=>by simp [List.getD,List.getElem?_eq_getElem h]
 refine ⟨List.findIdx_le_length,fun j hj=>?_,fun j hj hl=>?_,?_⟩
 ·have hl:j < ms.length:=Nat.lt_of_lt_of_le hj List.findIdx_le_length
  have h:=List.not_of_lt_findIdx hj
  rw [hget j hl]
  simpa using h
 ·have hp:posM ms t < ms.length:=by omega
  have h:=List.findIdx_getElem (xs:=ms) (p:=fun m:Mem => !decide (cmpI m.name t < 0)) (w:=hp)
  apply Int.not_lt.1
  intro hx
  have h2:=rise_mono hr t (posM ms t) j hj hl hx
  rw [hget _ hp] at h2
  have h3:(!decide (cmpI (ms[posM ms t]'hp).name t < 0))=true:=h
  rw [decide_eq_true h2] at h3
  cases h3
 ·unfold isM
  rw [Bool.and_eq_true,decide_eq_true_eq,decide_eq_true_eq]
theorem fst_some_of {ms:List Mem} {t:ByteArray} {p:Nat} (h:At ms t p true):fstM ms t=some (ms.getD p dm):=by
 obtain ⟨h1,h2⟩:=h.is.1 rfl
 refine fstM_some h1 (fun j hj e=>?_) ((cmpI_eq _ _).1 h2)
 have:=h.lo j hj
 rw [e,(cmpI_eq t t).2 rfl] at this
 omega
theorem fst_none_of {ms:List Mem} {t:ByteArray} {p:Nat} (hr:Rise ms) (h:At ms t p false):fstM ms t=none:=by
 refine fstM_none fun j hj e=>?_
 have hget:∀ j (h:j < ms.length),ms.getD j dm=ms[j]:=fun j h=>by simp [List.getD,List.getElem?_eq_getElem h]
 have h2:At ms t j true:=by
  refine ⟨by omega,fun i hi=>?_,fun i hi hl=>?_,⟨fun _=>⟨hj,(cmpI_eq _ _).2 e⟩,fun _=>rfl⟩⟩
  ·have:=List.pairwise_iff_getElem.1 hr i j (by omega) hj hi
   rw [← e,cmpI_lt,hget i (by omega),hget j hj];exact this
  ·rcases Nat.lt_or_eq_of_le hi with h3 | rfl
   ·have:=List.pairwise_iff_getElem.1 hr j i hj hl h3
    have h4:0 < cmpI (ms.getD i dm).name t:=by rw [← e,cmpI_gt,hget i hl,hget j hj];exact this
    omega
   ·rw [(cmpI_eq _ _).2 e];omega
 have:=(at_uniq h h2).2
 cases this
theorem fst_at {ms:List Mem} {t:ByteArray} {p:Nat} {f:Bool} (hr:Rise ms) (h:At ms t p f):fstM ms t=if f=true then some (ms.getD p dm) else none:=by
 cases f
 ·rw [fst_none_of hr h];rfl
 ·rw [fst_some_of h];rfl
theorem cmp_ne {a b:ByteArray} (h:cmpI a b < 0):a≠b:=fun e=>by rw [(cmpI_eq a b).2 e] at h;omega
theorem fst_cons (x:Mem) (r:List Mem) (t:ByteArray):fstM (x :: r) t=if x.name=t then some x else fstM r t:=by
 unfold fstM
 rw [List.find?_cons]
 by_cases h:x.name=t<;>simp [h]
theorem fst_hear (m:Mem):∀ ms,hearL ms m≠ms→fstM (hearL ms m) m.name=some m
 | [],_=>by rw [hearL,fst_cons,if_pos rfl]
 | x :: r,h=>by
   rw [hearL] at h ⊢
   split
   ·rename_i h1
    rw [if_pos h1] at h
    rw [fst_cons,if_neg (cmp_ne h1)]
    exact fst_hear m r (fun e=>h (by rw [e]))
   ·rename_i h1
    rw [if_neg h1] at h
    split
    ·rename_i h2
     rw [if_pos h2] at h
     split
     ·rw [fst_cons,if_pos rfl]
     ·rename_i h3;rw [if_neg h3] at h;exact absurd rfl h
    ·rw [fst_cons,if_pos rfl]
def rAt (rs:List Rum) (t:ByteArray):Nat:=rs.findIdx fun r=>decide (r.m.name=t)
theorem rAt_lo {rs:List Rum} {t:ByteArray} {j:Nat} (h:j < rAt rs t):(rs.getD j dr).m.name≠t:=by
 have hl:j < rs.length:=Nat.lt_of_lt_of_le h List.findIdx_le_length
 have h:=List.not_of_lt_findIdx h
 rw [show rs.getD j dr=rs[j] by simp [List.getD,List.getElem?_eq_getElem hl]]
 simpa using h
theorem rAt_is {rs:List Rum} {t:ByteArray} (h:rAt rs t < rs.length):(rs.getD (rAt rs t) dr).m.name=t:=by
 have h2:=List.findIdx_getElem (xs:=rs) (p:=fun r:Rum=>decide (r.m.name=t)) (w:=h)
 rw [show rs.getD (rAt rs t) dr=rs[rAt rs t] by simp [List.getD,List.getElem?_eq_getElem h]]
 exact of_decide_eq_true h2
theorem rAt_no {rs:List Rum} {t:ByteArray} (h:¬ rAt rs t < rs.length):NotIn rs t:=fun j hj=>rAt_lo (by
 have:rAt rs t≤rs.length:=List.findIdx_le_length
 omega)
theorem rAt_ne {rs:List Rum} (hd:Distinct rs) {t:ByteArray} {j:Nat} (hj:j < rs.length) (hne:j≠rAt rs t):(rs.getD j dr).m.name≠t:=by
 rcases Nat.lt_or_ge j (rAt rs t) with h | h
 ·exact rAt_lo h
 ·have hlt:rAt rs t < j:=by omega
  intro e
  exact hd (rAt rs t) j hlt hj (by rw [e];exact rAt_is (by omega))
def putL (rs:List Rum) (m:Mem):List Rum:=
 if rAt rs m.name < rs.length then (if newM m (rs.getD (rAt rs m.name) dr).m=true then rs.eraseIdx (rAt rs m.name)++[⟨m,0⟩] else rs) else rs++[⟨m,0⟩]
def putE (rs:List Rum) (m:Mem):Int:=if 20 < (putL rs m).length then 2 else 0
set_option maxHeartbeats 800000 in
theorem put_any (rs:List Rum) (v:Value) (m:Mem) (w:World) (hv:RSl w v rs) (hm:m.name.size≤maxLen) (h0:chkR rs=0) (he:m.e=0) :
 Calls Tryz.prog 195 #[v,.agg #[.string m.name,.int .i64 m.state,.int .i64 m.life,.int .i64 m.addr,.bool m.server]] w fun e w'=>∃ a k c,e=.returned (.tuple #[.slice a k c,.int .i64 (putE rs m)])∧Below w.heap.size w w'∧(putE rs m=0→ROwn w.heap.size w' (.slice a k c) (putL rs m)):=by
 have hl:=(chkR_e0 h0).1
 have sl:∀ {W:World} {B:Nat} {u:Value} {l:List Rum},ROwn B W u l→∃ a k c,u=.slice a k c:=fun h=>by
  obtain ⟨a,c,e⟩:=h.slice
  exact ⟨a,_,c,e⟩
 by_cases hp:rAt rs m.name < rs.length
 ·rcases hn:newM m (rs.getD (rAt rs m.name) dr).m with _ | _
  ·have e1:putL rs m=rs:=by unfold putL;rw [if_pos hp,if_neg (by rw [hn];simp)]
   have e2:putE rs m=0:=by unfold putE;rw [e1,if_neg (by omega)]
   refine (put_old rs v m w hv hm h0 he _ hp (rAt_is hp) hn).mono ?_
   rintro e w' ⟨v',rfl,ho,hb⟩
   obtain ⟨a,k,c,rfl⟩:=sl ho
   exact ⟨a,k,c,by rw [e2],hb,fun _=>by rw [e1];exact ho⟩
  ·have e1:putL rs m=rs.eraseIdx (rAt rs m.name)++[⟨m,0⟩]:=by unfold putL;rw [if_pos hp,if_pos hn]
   have e2:putE rs m=0:=by unfold putE;rw [e1,if_neg (by rw [List.length_append,List.length_eraseIdx_of_lt hp];simp;omega)]
   refine (put_newer rs v m w hv hm h0 he _ hp (rAt_is hp) hn).mono ?_
   rintro e w' ⟨v',rfl,ho,hb⟩
   obtain ⟨a,k,c,rfl⟩:=sl ho
   exact ⟨a,k,c,by rw [e2],hb,fun _=>by rw [e1];exact ho⟩
 ·have e1:putL rs m=rs++[⟨m,0⟩]:=by unfold putL;rw [if_neg hp]
  by_cases hf:rs.length=20
  ·have e2:putE rs m=2:=by unfold putE;rw [e1,if_pos (by rw [List.length_append];simp;omega)]
   refine (put_full rs v m w hv hm h0 he (rAt_no hp) hf).mono ?_
   rintro e w' ⟨rfl,hb⟩
   exact ⟨none,0,0,by rw [e2],hb,fun h=>by rw [e2] at h;cases h⟩
  ·have e2:putE rs m=0:=by unfold putE;rw [e1,if_neg (by rw [List.length_append];simp;omega)]
   refine (put_new rs v m w hv hm h0 he (rAt_no hp) (by omega)).mono ?_
   rintro e w' ⟨v',rfl,ho,hb⟩
   obtain ⟨a,k,c,rfl⟩:=sl ho
   exact ⟨a,k,c,by rw [e2],hb,fun _=>by rw [e1];exact ho⟩
end Go.Proofs.YtffdoiokmiklgaaGreatDoor
namespace Go.Proofs.YtffdoiokmiklgaaGreatDoor
open Go.ChangeShapes Go.WideShapes Go.ChangeAt Go.RowKit
section
variable {H:Type} {enc:TypeId × Value→H} {w:World} {base:Nat} {spare:Nat→Bool} {held:Bool}
theorem Tryz.kcR:Tryz.prog.cellsOf 98=6:=by kernel_rfl
theorem Tryz.kcRs:Tryz.prog.cellsOf 46=1:=by kernel_rfl
theorem Tryz.kcN:Tryz.prog.cellsOf 51=12:=by kernel_rfl
theorem Tryz.kcMm:Tryz.prog.cellsOf 56=5:=by kernel_rfl
set_option maxRecDepth 100000 in
theorem relT_of_trod {fuel:Nat} {cs:List Value} {x:DataW H × List MemPlace} (h:DataW.trod enc Tryz.prog w base spare held fuel 98 cs=some x) :
 ∃ m:Rum,cs=m.cs∧m.m.name.size≤maxLen:=by
 obtain ⟨xs,n,_,_,hl,hlen,hf⟩:=DataW.trod_struct Tryz.underlying98 h
 rw [Tryz.kcR] at hl
 match cs,hl with
 | [c0,c1,c2,c3,c4,c5],_=>
   match xs,hlen with
   | [y0,y1],_=>
     have h0:=hf 0 _ rfl
     have h1:=hf 1 _ rfl
     simp [Tryz.kcMm] at h0
     simp [Tryz.kc3] at h1
     obtain ⟨m,e0,w0⟩:=elT_of_trod h0
     obtain ⟨t,e1,_,_⟩:=DataW.trod_int Tryz.underlying3 h1
     simp only [List.cons.injEq,and_true] at e0 e1
     obtain ⟨r1,r2,r3,r4,r5⟩:=e0
     subst r1 r2 r3 r4 r5 e1
     exact ⟨⟨m,t⟩,rfl,w0⟩
set_option maxRecDepth 100000 in
theorem relsT_of_trod {fuel:Nat} {cs:List Value} {x:DataW H × List MemPlace} (h:DataW.trod enc Tryz.prog w base spare held fuel 46 cs=some x) :
 ∃ (p:Option Addr) (n c:Nat) (ms:List Rum),cs=[.slice p n c]∧RSl w (.slice p n c) ms∧ms.length≤maxLen:=by
 rcases Go.Deep.open_slice Tryz.underlying46 h with ⟨hcs,_⟩ | ⟨x,len,cap,m,n,D,Pl,hcs,hb,hl,hm,hmm,_,hx⟩
 ·exact ⟨none,0,0,[],hcs,⟨none,0,rfl,rns_get (by simp),.inl rfl⟩,by simp⟩
 ·have hlm:len≤m:=by rw [hmm];split<;>omega
  have hall:∀ i,i < len→∃ q:Rum,(∀ t,t < 6→w.cell? (x.add (i * 6+t))=q.cs[t]?)∧(q).m.name.size≤maxLen:=fun i hi=>by
   obtain ⟨cs',h1,h2⟩:=hx i (by omega)
   obtain ⟨q,hq,hs⟩:=relT_of_trod h2
   rw [Tryz.kcR] at h1
   obtain ⟨_,_,h3⟩:=World.cells?_some h1
   refine ⟨q,fun t ht=>?_,hs⟩
   rw [← Go.Deep.add_add,h3 t ht,hq]
  have hinh:Inhabited Rum:=⟨dr⟩
  obtain ⟨F,hF⟩:=Go.Deep.choose_lt (α:=Rum) (p:=fun i q=>(∀ t,t < 6→w.cell? (x.add (i * 6+t))=q.cs[t]?)∧(q).m.name.size≤maxLen) hall
  have hget:∀ j,j < len→((List.range len).map F).getD j dr=F j:=fun j hj=>by simp [List.getD,hj]
  refine ⟨some x,len,cap,(List.range len).map F,hcs,⟨some x,cap,by simp,rns_get (fun q hq=>?_),?_⟩,by simp;omega⟩
  ·obtain ⟨j,hj,rfl⟩:=List.mem_map.1 hq
   exact (hF j (List.mem_range.1 hj)).2
  ·by_cases h0:len=0
   ·left;simp [h0]
   ·right
    obtain ⟨b,off,spot⟩:=x
    have hc0:=(hF 0 (by omega)).1 0 (by omega)
    have hspot:spot=none:=by simpa [Addr.add] using World.cell?_spot hc0
    subst hspot
    have hcell:∀ j,j < len→∀ t,t < 6→w.cell? ⟨b,off+j * 6+t,none⟩=(F j).cs[t]?:=fun j hj t ht=>by
     have:=(hF j hj).1 t ht
     rwa [Go.WideShapes.add_plain,← Nat.add_assoc] at this
    refine ⟨b,off,rfl,World.block_lt_of_cell? w ⟨b,off+0 * 6+0,none⟩ (hcell 0 (by omega) 0 (by omega)),fun j hj=>?_⟩
    have hj':j < len:=by simpa using hj
    rw [hget j hj']
    exact ⟨hcell j hj' 0 (by omega),hcell j hj' 1 (by omega),hcell j hj' 2 (by omega),hcell j hj' 3 (by omega),hcell j hj' 4 (by omega),hcell j hj' 5 (by omega)⟩
set_option maxRecDepth 100000 in
theorem nd_of_trod {fuel:Nat} {cs:List Value} {x:DataW H × List MemPlace} (h:DataW.trod enc Tryz.prog w base spare held fuel 51 cs=some x) :
 ∃ (n:Nd) (vm vr vs vg vw:Value),cs=(ndA n vm vr vs vg vw).toList∧NdIs w n vm vr vs vg vw:=by
 obtain ⟨xs,n,_,_,hl,hlen,hf⟩:=DataW.trod_struct Tryz.underlying51 h
 rw [Tryz.kcN] at hl
 match cs,hl with
 | [c0,c1,c2,c3,c4,c5,c6,c7,c8,c9,c10,c11],_=>
   match xs,hlen with
   | [y0,y1,y2,y3,y4,y5,y6,y7],_=>
     have h0:=hf 0 _ rfl
     have h1:=hf 1 _ rfl
     have h2:=hf 2 _ rfl
     have h3:=hf 3 _ rfl
     have h4:=hf 4 _ rfl
     have h5:=hf 5 _ rfl
     have h6:=hf 6 _ rfl
     have h7:=hf 7 _ rfl
     simp [Tryz.kc9] at h0
     simp [Tryz.kc9] at h1
     simp [Tryz.kcM] at h2
     simp [Tryz.kcRs] at h3
     simp [Tryz.kcS] at h4
     simp [Tryz.kcG] at h5
     simp [Wh.kcP] at h6
     simp [Tryz.kcW] at h7
     obtain ⟨s,e0,_,w0⟩:=DataW.trod_string Tryz.underlying9 h0
     obtain ⟨t,e1,_,w1⟩:=DataW.trod_string Tryz.underlying9 h1
     obtain ⟨pm,nm,cm,ms,e2,k2,_⟩:=elsT_of_trod h2
     obtain ⟨pr,nr,cr,rs,e3,k3,_⟩:=relsT_of_trod h3
     obtain ⟨ps,ns,cn,sv,e4,k4,_⟩:=Sv.elsT_of_trod h4
     obtain ⟨pg,ng,cg,gw,e5,k5,_⟩:=Gw.elsT_of_trod h5
     obtain ⟨a,b,c,d,e,e6⟩:=Wh.plT_of_trod h6
     obtain ⟨pw,nw,cw,wh,e7,k7,_⟩:=Wh.elsT_of_trod h7
     simp only [List.cons.injEq,and_true] at e0 e1 e2 e3 e4 e5 e6 e7
     obtain ⟨r1,r2,r3,r4,r5⟩:=e6
     subst e0 e1 e2 e3 e4 e5 r1 r2 r3 r4 r5 e7
     exact ⟨⟨s,t,ms,rs,sv,gw,⟨a,b,c,d,e⟩,wh⟩,_,_,_,_,_,rfl,k2,k3,k4,k5,k7,w0,w1⟩
end
section
variable {H:Type} {enc:TypeId × Value→H} {w:World} {base:Nat} {spare:Nat→Bool} {held:Bool}
set_option maxRecDepth 100000 in
theorem nds_of_trod {fuel:Nat} {cs:List Value} {x:DataW H × List MemPlace} (h:DataW.trod enc Tryz.prog w base spare held fuel 22 cs=some x) :
 ∃ (p:Option Addr) (n c:Nat) (ns:List Nd),cs=[.slice p n c]∧NSl w (.slice p n c) ns:=by
 rcases Go.Deep.open_slice Tryz.underlying22 h with ⟨hcs,_⟩ | ⟨x,len,cap,m,n,D,Pl,hcs,hb,hl,hm,hmm,_,hx⟩
 ·exact ⟨none,0,0,[],hcs,⟨none,0,rfl,.inl rfl⟩⟩
 ·have hlm:len≤m:=by rw [hmm];split<;>omega
  have hall:∀ i,i < len→∃ q:Nd,∃ vm vr vs vg vw,NdIs w q vm vr vs vg vw∧∀ t,t < 12→w.cell? (x.add (i * 12+t))=(ndA q vm vr vs vg vw)[t]?:=fun i hi=>by
   obtain ⟨cs',h1,h2⟩:=hx i (by omega)
   obtain ⟨q,vm,vr,vs,vg,vw,hq,hs⟩:=nd_of_trod h2
   rw [Tryz.kcN] at h1
   obtain ⟨_,_,h3⟩:=World.cells?_some h1
   refine ⟨q,vm,vr,vs,vg,vw,hs,fun t ht=>?_⟩
   rw [← Go.Deep.add_add,h3 t ht,hq,Array.getElem?_toList]
  have hinh:Inhabited Nd:=⟨ndZ⟩
  obtain ⟨F,hF⟩:=Go.Deep.choose_lt (α:=Nd) (p:=fun i q=>∃ vm vr vs vg vw,NdIs w q vm vr vs vg vw∧∀ t,t < 12→w.cell? (x.add (i * 12+t))=(ndA q vm vr vs vg vw)[t]?) hall
  have hget:∀ j,j < len→((List.range len).map F).getD j ndZ=F j:=fun j hj=>by simp [List.getD,hj]
  refine ⟨some x,len,cap,(List.range len).map F,hcs,⟨some x,cap,by simp,?_⟩⟩
  by_cases h0:len=0
  ·left;simp [h0]
  ·right
   obtain ⟨b,off,spot⟩:=x
   obtain ⟨vm,vr,vs,vg,vw,_,hc⟩:=hF 0 (by omega)
   have hc0:w.cell? (Addr.add ⟨b,off,spot⟩ (0 * 12+0))=some (.string (F 0).name):=hc 0 (by omega)
   have hspot:spot=none:=by simpa [Addr.add] using World.cell?_spot hc0
   subst hspot
   have hc1:w.cell? ⟨b,off+(0 * 12+0),none⟩=some (.string (F 0).name):=by rw [← Go.WideShapes.add_plain];exact hc0
   refine ⟨b,off,rfl,World.block_lt_of_cell? w ⟨b,off+(0 * 12+0),none⟩ hc1,fun j hj=>?_⟩
   have hj':j < len:=by simpa using hj
   rw [hget j hj']
   obtain ⟨vm,vr,vs,vg,vw,h1,h2⟩:=hF j hj'
   refine ⟨vm,vr,vs,vg,vw,h1,fun i hi=>?_⟩
   have:=h2 i hi
   rwa [Go.WideShapes.add_plain,← Nat.add_assoc] at this
end
end Go.Proofs.YtffdoiokmiklgaaGreatDoor
