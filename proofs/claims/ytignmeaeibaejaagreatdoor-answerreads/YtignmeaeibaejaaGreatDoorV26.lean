import Derived.Test.YtignmeaeibaejaaGreatDoorV25
import Derived.Deep.RegionHeld3
import Derived.StillTactics
namespace Go.Proofs.YtignmeaeibaejaaGreatDoor
open Go.RowKit
def wdatL (r:Rc.Rec):List UInt8:=
 if r.typ=1 then nbl r.addr 4
 else if r.typ=16 then nbl r.text.size 1++r.text.data.toList
 else if r.typ=33 then nbl 0 2++(nbl 0 2++(nbl r.port 2++wnameL r.target))
 else []
theorem str_cells (s:ByteArray):Lib.strCells s=Lib.byteCells s.data.toList:=rfl
theorem wdat_cells (r:Rc.Rec):wdat r=Lib.byteCells (wdatL r):=by
 unfold wdat wdatL
 split
 ·exact nbs_cells _ _
 split
 ·rw [cells_app,nbs_cells,str_cells]
 split
 ·simp only [cells_app,nbs_cells,wname_cells]
 ·rfl
theorem wdat_len {r:Rc.Rec} (ht:r.text.size≤200) (hn:chkN r.target=0):(wdat r).length≤255:=by
 have:=wname_len hn
 unfold wdat
 split
 ·simp [nbs_len]
 split
 ·simp [nbs_len,Lib.strCells_length];omega
 split
 ·simp only [List.length_append,nbs_len];omega
 ·simp
theorem wdatL_ne {r:Rc.Rec} (h:typB r.typ=true):wdatL r≠[]:=by
 unfold wdatL
 simp only [typB,Bool.or_eq_true,decide_eq_true_eq] at h
 split
 ·simp [nbl]
 split
 ·simp [nbl]
 split
 ·simp [nbl]
 ·omega
theorem chkRec_facts {r:Rc.Rec} (h:chkRec r=0):chkN r.name=0∧typB r.typ=true∧r.text.size≤200∧chkN r.target=0:=by
 unfold chkRec at h
 split at h
 ·omega
 rename_i h1
 split at h
 ·omega
 rename_i h2
 split at h
 ·omega
 split at h
 ·omega
 split at h
 ·omega
 split at h
 ·omega
 rename_i h6
 exact ⟨by omega,by simpa using h2,by omega,h⟩
def wrec (r:Rc.Rec):List Value:=wname r.name++(nbs r.typ 2++(nbs 1 2++(nbs r.lasts 4++(nbs (wdat r).length 2++wdat r))))
set_option maxHeartbeats 1000000 in
set_option maxRecDepth 100000 in
theorem len_any (B b:Nat) (bs:List Value) (w:World) (h:IsW B b bs w) :
 Calls Tryz.prog 119 #[.pointer (some ⟨b,0,none⟩)] w fun e w'=>e=.returned (.int .i64 bs.length)∧w'=w:=by
 obtain ⟨p,hB,v,hbk,hown,hne⟩:∃ p,WAt B b p bs w:=by
  rcases h with h | h
  ·exact ⟨_,h⟩
  ·exact ⟨_,h⟩
 have c1:w.cell? ⟨b,1,none⟩=some v:=cellsAt hbk 1
 obtain ⟨ao,cap,rfl⟩:∃ ao cap,v=.slice ao bs.length cap:=by
  rcases hown.2 with ⟨rfl,h0⟩ | ⟨g,cap,cur,rfl,_⟩
  ·exact ⟨none,0,by rw [h0]⟩
  ·exact ⟨_,cap,rfl⟩
 go_enter Tryz.func119,Tryz.ntmps119
 go_wp2_with fail
 go_ret
 exact ⟨rfl,rfl⟩
theorem freeze_other (w:World) (p:Addr) (n k:Nat) (h:k≠p.block):(w.freeze p n).heap[k]?=w.heap[k]?:=by
 unfold World.freeze
 split
 ·rfl
 ·simp only [Array.getElem?_modify]
  rw [if_neg (Ne.symm h)]
set_option maxHeartbeats 1000000 in
set_option maxRecDepth 100000 in
theorem string_any2 (B b:Nat) (l:List UInt8) (w:World) (h:IsW B b (Lib.byteCells l) w) (h0:l≠[]) :
 Calls Tryz.prog 58 #[.pointer (some ⟨b,0,none⟩)] w fun e w'=>e=.returned (.string ⟨l.toArray⟩)∧Below B w w'∧∀ k,some k≠bufOf w b→w'.heap[k]?=w.heap[k]?:=by
 obtain ⟨p,hB,v,hbk,hown,hne⟩:∃ p,WAt B b p (Lib.byteCells l) w:=by
  rcases h with h | h
  ·exact ⟨_,h⟩
  ·exact ⟨_,h⟩
 have hbuf:bufOf w b=v.ownBlock:=by unfold bufOf;rw [cellsAt hbk 1];rfl
 have hl0:l.length≠0:=by simpa using h0
 rw [Lib.byteCells_length] at hown
 obtain ⟨g,cap,cur,rfl,hbg,hg,hnc,hcm,hcs,htake⟩:∃ g cap cur,v=.slice (some ⟨g,0,none⟩) l.length cap∧B≤g∧w.heap[g]?=some (.cells cur 5 (0,0))∧l.length≤cap∧cap≤maxLen∧cur.size=cap * 1∧cur.toList.take (l.length * 1)=Lib.byteCells l:=by
  rcases hown.2 with ⟨_,hz⟩ | ⟨g,cap,cur,hv,r⟩
  ·exact absurd hz hl0
  ·exact ⟨g,cap,cur,hv,r⟩
 have c1:w.drew.cell? ⟨b,1,none⟩=some (.slice (some ⟨g,0,none⟩) l.length cap):=by
  have:w.drew.heap[b]?=some (.cells #[p,.slice (some ⟨g,0,none⟩) l.length cap] 106 (0,0)):=hbk
  rw [Lib.cell_of_heap this];rfl
 have hSD:(Builtin.unsafeSliceData_ #[102] 130 #[.slice (some ⟨g,0,none⟩) l.length cap]).run Tryz.prog w.drew=.ok (.pointer (some ⟨g,0,none⟩)) w.drew:=
  Lib.run_unsafeSliceData_row _ _ _ _ _ _ (by omega)
 have hUS:(Builtin.unsafeString_ #[130,3] 9 #[.pointer (some ⟨g,0,none⟩),.int .i64 l.length]).run Tryz.prog w.drew=.ok (.string ⟨l.toArray⟩) (w.drew.freeze ⟨g,0,none⟩ l.length):=by
  refine Lib.run_unsafeString_row w.drew 130 3 9 5 Tryz.underlying130 Tryz.cellsByte g cur.size (by have hg':w.drew.heap[g]?=some (.cells cur 5 (0,0)):=hg;simp [World.shape?,hg']) l h0 (by omega) (by unfold maxLen at hcm;omega) ?_
  intro j x hx
  have:=hown.cells (g:=g) rfl j (.int .u8 x.toNat) (by simp [Lib.byteCells,hx])
  exact this
 have mixed:Tryz.prog.follows .mixedOrders=true:=by kernel_rfl
 have HFR:Hid (∀ k,some k≠bufOf w b→(w.drew.freeze ⟨g,0,none⟩ l.length).heap[k]?=w.heap[k]?):=fun k hk=>freeze_other w.drew _ _ k (fun e=>hk (by rw [hbuf,e];rfl))
 clear hbuf
 go_enter Tryz.func58,Tryz.ntmps58
 go_wp2_with fail
 go_region_o
 all_goals (go_wp2;go_ret;exact ⟨rfl,Lib.below_freeze (Below.drew (Below.refl B w)) (p:=⟨g,0,none⟩) hbg _,HFR.out⟩)
theorem bufOf_block {w w':World} {b:Nat} (h:w'.heap[b]?=w.heap[b]?):bufOf w' b=bufOf w b:=by
 unfold bufOf
 rw [World.cell?_of_block (a:=⟨b,1,none⟩) h]
theorem IsW.bytes {B b:Nat} {bs:List Value} {w:World} (h:IsW B b bs w):∀ k,bufOf w b=some k→∃ c fz,w.heap[k]?=some (.cells c 5 fz):=by
 have go:∀ p,WAt B b p bs w→∀ k,bufOf w b=some k→∃ c fz,w.heap[k]?=some (.cells c 5 fz):=fun p ⟨hB,v,hb,ho,hne⟩ k hk=>by
  have e1:bufOf w b=v.ownBlock:=by unfold bufOf;rw [cellsAt hb 1];rfl
  rw [e1] at hk
  exact own_kind ho k hk
 rcases h with h | h
 ·exact go _ h
 ·exact go _ h
theorem Kp.under {B b d:Nat} {w w':World} (h:Below d w w') (hd:w.heap.size≤d) (hB:B≤d):Kp B b w w':=
 ⟨h.mono hB,fun k o hk _ _=>(h.block k (Nat.lt_of_lt_of_le (Array.getElem?_eq_some_iff.1 hk).1 hd)).trans hk,fun hb=>⟨fun k hk _ _=>h.block k (by omega),.inl (bufOf_block (h.block b (by omega)))⟩⟩
theorem Kp.took {B b d:Nat} {ds:List Value} {w w6 w7:World} (h:Kp B b w w6) (hd:IsW d d ds w6) (hwd:w.heap.size≤d) (hBd:B≤d) (hb:b < w.heap.size) (hbel:Below d w6 w7) (hk:∀ k,some k≠bufOf w6 d→w7.heap[k]?=w6.heap[k]?):Kp B b w w7 where
 bel:=h.bel.trans (hbel.mono hBd)
 oth:=fun k o hk1 hkb hno=>by
  have h6:=h.oth k o hk1 hkb hno
  refine (hk k fun e=>?_).trans h6
  obtain ⟨c,fz,hc⟩:=hd.bytes k e.symm
  rw [h6] at hc
  injection hc with hc
  exact hno _ _ hc
 kq:=fun hbw=>by
  obtain ⟨h1,h2⟩:=h.kq hbw
  have hne:∀ k,k < w.heap.size→some k≠bufOf w6 d:=fun k hkw e=>by have:=(hd.buf k e.symm).1;omega
  refine ⟨fun k hkw hkb hkn=>(hk k (hne k hkw)).trans (h1 k hkw hkb hkn),?_⟩
  rw [bufOf_block (hk b (hne b hb))]
  exact h2
theorem apart_buf {b d:Nat} {ds:List Value} {w1 w6:World} (hk:Kq b w1 w6) (hb:b < w1.heap.size) (hd:IsW d d ds w1) (hold:∀ k,bufOf w1 b=some k→k < d) (hd6:bufOf w6 d=bufOf w1 d):∀ k,some k=bufOf w6 b→some k≠bufOf w6 d:=fun k e1 e2=>by
 rw [hd6] at e2
 have h1:=hd.buf k e2.symm
 rcases (hk hb).2 with h2 | h2
 ·have:=hold k (by rw [← h2];exact e1.symm);omega
 ·have:=h2 k e1.symm;omega
theorem IsW.other {b d:Nat} {ds:List Value} {w1 w6:World} (hd:IsW d d ds w1) (hk:Kq b w1 w6) (hb:b < d) (hold:∀ k,bufOf w1 b=some k→k < d):IsW d d ds w6∧bufOf w6 d=bufOf w1 d:=by
 have hbw:b < w1.heap.size:=Nat.lt_trans hb hd.lt
 obtain ⟨h1,_⟩:=hk hbw
 have hdd:w6.heap[d]?=w1.heap[d]?:=h1 d hd.lt (by omega) (fun e=>by have:=hold d e.symm;omega)
 refine ⟨hd.keep fun k hk2=>?_,bufOf_block hdd⟩
 rcases hk2 with rfl | hk2
 ·exact hdd
 ·have h3:=hd.buf k hk2.symm
  exact h1 k h3.2 (by omega) (fun e=>by have:=hold k e.symm;omega)
set_option maxHeartbeats 1600000 in
set_option maxRecDepth 100000 in
theorem wrecord_any (B b:Nat) (bs:List Value) (r:Rc.Rec) (w:World) (hm:ML w) (h:IsW B b bs w) (hlen:bs.length≤30000) (hc:chkRec r=0) (hBw:B≤w.heap.size) (_hB0:0 < B) :
 Calls Tryz.prog 91 #[.pointer (some ⟨b,0,none⟩),recV r] w fun e w'=>e=.returned (.tuple #[])∧IsW B b (bs++wrec r) w'∧Kp B b w w':=by
 obtain ⟨hcn,hct,htx,hcg⟩:=chkRec_facts hc
 have HI:Hid (IsW B b bs w):=h
 have hbl:=h.lt
 have hwl:=wname_len hcn
 have hdl:=wdat_len htx hcg
 have hdne:=wdatL_ne hct
 have HDC:Hid (wdat r=Lib.byteCells (wdatL r)):=wdat_cells r
 clear h hc
 go_enter Tryz.func91,Tryz.ntmps91
 go_wp2_with fail
 obtain ⟨w0,hw0⟩:∃ w0,w0=(w.alloc (.cells #[.string r.name,.int .i64 r.typ,.int .i64 r.lasts,.int .i64 r.addr,.string r.text,.int .i64 r.port,.string r.target] 59)).alloc (.cells #[.pointer none,.slice none 0 0] 106):=⟨_,rfl⟩
 rw [← hw0]
 have hn0:w0.heap.size=w.heap.size+1+1:=by rw [hw0];simp
 have hg0:w0.heap[w.heap.size]?=some (.cells #[.string r.name,.int .i64 r.typ,.int .i64 r.lasts,.int .i64 r.addr,.string r.text,.int .i64 r.port,.string r.target] 59 (0,0)):=by
  rw [hw0]
  exact (Lib.alloc_old _ _ _ (by simp)).trans (heap_alloc_new w _)
 have hd0:w0.heap[w.heap.size+1]?=some (.cells #[.pointer none,.slice none 0 0] 106 (0,0)):=by
  have h:=heap_alloc_new (w.alloc (.cells #[.string r.name,.int .i64 r.typ,.int .i64 r.lasts,.int .i64 r.addr,.string r.text,.int .i64 r.port,.string r.target] 59)) (.cells #[.pointer none,.slice none 0 0] 106)
  rw [hw0]
  simpa using h
 have HB0:Hid (Below w.heap.size w w0):=(show Below _ _ _ by rw [hw0];exact ((Below.refl _ _).alloc (Nat.le_refl _) _).alloc (by simp) _)
 have HM0:Hid (ML w0):=(show ML w0 from hm.below HB0.out)
 clear hw0 hm
 refine (wdata_any (w.heap.size+1) (w.heap.size+1) [] r w0 HM0.out (.inl ⟨Nat.le_refl _,.slice none 0 0,hd0,World.ownsRow_nil w0 _ 5 1,by simp [Value.ownBlock]⟩) (by simp) htx hcg (by omega) (by omega)).mono ?_
 rintro e w1 ⟨rfl,h1,hb1⟩
 have HD1:Hid (IsW (w.heap.size+1) (w.heap.size+1) (wdat r) w1):=(show IsW _ _ _ _ by simpa using h1)
 have HB1:Hid (Below (w.heap.size+1) w0 w1):=hb1.bel
 have HB01:Hid (Below w.heap.size w w1):=HB0.out.trans (hb1.bel.mono (by omega))
 have HK1:Hid (Kp B b w w1):=Kp.under HB01.out (Nat.le_refl _) hBw
 have HM1:Hid (ML w1):=(show ML w1 from HM0.out.kp hb1 (by omega))
 have HI1:Hid (IsW B b bs w1):=HI.out.below HB01.out
 have HOLD:Hid (∀ k,bufOf w1 b=some k→k < w.heap.size+1):=fun k hk=>by
  rw [bufOf_block (HB01.out.block b hbl)] at hk
  have:=(HI.out.buf k hk).2
  omega
 have hg1:w1.heap[w.heap.size]?=some (.cells #[.string r.name,.int .i64 r.typ,.int .i64 r.lasts,.int .i64 r.addr,.string r.text,.int .i64 r.port,.string r.target] 59 (0,0)):=(HB1.out.block _ (by omega)).trans hg0
 have hz1:B≤w1.heap.size:=Nat.le_trans hBw HB01.out.size
 have HG:Hid (∀ W,Kp B b w1 W→W.heap[w.heap.size]?=some (.cells #[.string r.name,.int .i64 r.typ,.int .i64 r.lasts,.int .i64 r.addr,.string r.text,.int .i64 r.port,.string r.target] 59 (0,0))):=fun W hW=>hW.oth _ _ hg1 (by simp;omega) (by simp)
 have f0:w1.cell? ⟨w.heap.size,0,none⟩=some (.string r.name):=cellsAt hg1 0
 clear h1 hb1 hg0 hd0 hg1
 go_wp2_with fail
 refine (wname_any B b bs r.name w1 HM1.out HI1.out (by omega) hcn hz1).mono ?_
 rintro e w2 ⟨rfl,h1,hb1⟩
 have HI2:Hid (IsW B b (bs++wname r.name) w2):=h1
 have HK2:Hid (Kp B b w1 w2):=hb1
 have hz2:B≤w2.heap.size:=Nat.le_trans hz1 HK2.out.size
 have f1:w2.cell? ⟨w.heap.size,1,none⟩=some (.int .i64 r.typ):=cellsAt (HG.out w2 HK2.out) 1
 clear h1 hb1 f0
 go_wp2_with fail
 refine (wnumber_any B b 2 r.typ _ w2 HI2.out (by omega) (by simp;omega) hz2).mono ?_
 rintro e w3 ⟨rfl,h1,hb1⟩
 have HI3:Hid (IsW B b ((bs++wname r.name)++nbs r.typ 2) w3):=h1
 have HK3:Hid (Kp B b w1 w3):=HK2.out.trans hb1
 have hz3:B≤w3.heap.size:=Nat.le_trans hz1 HK3.out.size
 clear h1 hb1 f1
 go_wp2_with fail
 refine (wnumber_any B b 2 1 _ w3 HI3.out (by omega) (by simp [nbs_len];omega) hz3).mono ?_
 rintro e w4 ⟨rfl,h1,hb1⟩
 have HI4:Hid (IsW B b (((bs++wname r.name)++nbs r.typ 2)++nbs 1 2) w4):=h1
 have HK4:Hid (Kp B b w1 w4):=HK3.out.trans hb1
 have hz4:B≤w4.heap.size:=Nat.le_trans hz1 HK4.out.size
 have f2:w4.cell? ⟨w.heap.size,2,none⟩=some (.int .i64 r.lasts):=cellsAt (HG.out w4 HK4.out) 2
 clear h1 hb1
 go_wp2_with fail
 refine (wnumber_any B b 4 r.lasts _ w4 HI4.out (by omega) (by simp [nbs_len];omega) hz4).mono ?_
 rintro e w5 ⟨rfl,h1,hb1⟩
 have HI5:Hid (IsW B b ((((bs++wname r.name)++nbs r.typ 2)++nbs 1 2)++nbs r.lasts 4) w5):=h1
 have HK5:Hid (Kp B b w1 w5):=HK4.out.trans hb1
 have hz5:B≤w5.heap.size:=Nat.le_trans hz1 HK5.out.size
 have HD5:Hid (IsW (w.heap.size+1) (w.heap.size+1) (wdat r) w5):=(HD1.out.other HK5.out.kq (by omega) HOLD.out).1
 clear h1 hb1 f2
 go_wp2_with fail
 refine (len_any _ _ _ w5 HD5.out).mono ?_
 rintro e w5' ⟨rfl,hw5⟩
 subst hw5
 go_wp2_with fail
 refine (wnumber_any B b 2 (wdat r).length _ w5' HI5.out (by omega) (by simp [nbs_len];omega) hz5).mono ?_
 rintro e w6 ⟨rfl,h1,hb1⟩
 have HI6:Hid (IsW B b (((((bs++wname r.name)++nbs r.typ 2)++nbs 1 2)++nbs r.lasts 4)++nbs (wdat r).length 2) w6):=h1
 have HK6:Hid (Kp B b w1 w6):=HK5.out.trans hb1
 have hz6:B≤w6.heap.size:=Nat.le_trans hz1 HK6.out.size
 obtain ⟨hd6,hbuf6⟩:=HD1.out.other HK6.out.kq (by omega) HOLD.out
 have HD6:Hid (IsW (w.heap.size+1) (w.heap.size+1) (wdat r) w6):=hd6
 have HD6':Hid (IsW (w.heap.size+1) (w.heap.size+1) (Lib.byteCells (wdatL r)) w6):=(show IsW _ _ _ _ by rw [← HDC.out];exact hd6)
 have HAP:Hid (∀ k,some k=bufOf w6 b→some k≠bufOf w6 (w.heap.size+1)):=apart_buf HK6.out.kq (by have:=HB01.out.size;omega) HD1.out HOLD.out hbuf6
 clear h1 hb1 hd6 hbuf6
 go_wp2_with fail
 have hsz:(⟨(wdatL r).toArray⟩:ByteArray).size=(wdat r).length:=by rw [HDC.out,Lib.byteCells_length];simp [ByteArray.size]
 have HSC:Hid (Lib.strCells ⟨(wdatL r).toArray⟩=wdat r):=(show _=_ by rw [HDC.out,str_cells])
 have HL6:Hid ((((((bs++wname r.name)++nbs r.typ 2)++nbs 1 2)++nbs r.lasts 4)++nbs (wdat r).length 2).length+(⟨(wdatL r).toArray⟩:ByteArray).size≤1000000):=(show _≤_ by rw [hsz];simp [nbs_len];omega)
 have HST:Hid (Calls Tryz.prog 58 #[.pointer (some ⟨w.heap.size+1,0,none⟩)] w6.drew fun e w'=>e=.returned (.string ⟨(wdatL r).toArray⟩)∧Hid (Kp B b w w'∧IsW B b (((((bs++wname r.name)++nbs r.typ 2)++nbs 1 2)++nbs r.lasts 4)++nbs (wdat r).length 2) w'∧B≤w'.heap.size)):=(show Calls _ _ _ _ _ by
  refine (string_any2 _ _ (wdatL r) w6.drew HD6'.out hdne).mono ?_
  rintro e w7 ⟨rfl,h1,hb1⟩
  have HK7:Kp B b w w7:=(HK1.out.trans HK6.out).drew.took (w6:=w6.drew) HD6.out (by omega) (by omega) hbl h1 hb1
  refine ⟨rfl,HK7,HI6.out.keep fun k hk=>?_,Nat.le_trans hBw HK7.size⟩
  rcases hk with rfl | hk
  ·refine hb1 _ fun e=>?_
   have:=(HD6.out.buf _ e.symm).1
   omega
  ·exact hb1 k (HAP.out k hk))
 clear HD6 HD6' HAP HI6 HK6 HOLD HD1 hdne HI1 HI2 HI3 HI4 HI5 HK2 HK3 HK4 HK5 HD5
 go_region_held3 (fun _=>True) (trivial) (first
  | (go_at_call 58;refine HST.out.mono ?_;rintro e w7 ⟨rfl,H7⟩)
  | (go_at_call 120;refine (writeString_any B b _ _ _ H7.out.2.1 HL6.out H7.out.2.2).mono ?_;rintro e w8 ⟨rfl,h1,hb1⟩))
 have HI8:Hid (IsW B b (bs++wrec r) w8):=(show IsW _ _ _ _ by
  unfold wrec
  have h2:IsW B b _ w8:=.inr h1
  rw [HSC.out] at h2
  simpa [List.append_assoc] using h2)
 have HK8:Hid (Kp B b w w8):=H7.out.1.trans hb1
 clear h1 hb1
 go_wp2_with fail
 simp [bodyPost,results,Tryz.results91]
 exact ⟨HI8.out,HK8.out⟩
set_option maxHeartbeats 800000 in
set_option maxRecDepth 100000 in
theorem flagsR_any (id code typ:Int) (ans cut:Bool) (name:ByteArray) (v:Value) (w:World) :
 Calls Tryz.prog 60 #[.agg #[.int .i64 id,.bool ans,.bool cut,.int .i64 code,.string name,.int .i64 typ,v]] w fun e w'=>e=.returned (.int .i64 (flg ans cut))∧∃ o,w'=w.alloc o:=by
 cases ans<;>cases cut
 all_goals
  go_enter Tryz.func60,Tryz.ntmps60
  go_wp2_with fail
  go_ret
  exact ⟨rfl,_,rfl⟩
def whead (id code typ:Int) (ans cut:Bool) (name:ByteArray) (n:Nat):List Value:=
 nbs id 2++(nbs (flg ans cut) 1++(nbs code 1++(nbs 1 2++(nbs n 2++(nbs 0 2++(nbs 0 2++(wname name++(nbs typ 2++nbs 1 2))))))))
theorem wrec_len {r:Rc.Rec} (h:chkRec r=0):(wrec r).length≤514:=by
 obtain ⟨h1,_,h3,h4⟩:=chkRec_facts h
 have:=wname_len h1
 have:=wdat_len h3 h4
 unfold wrec
 simp only [List.length_append,nbs_len]
 omega
theorem recs_len:∀ (rs:List Rc.Rec),(∀ r∈rs,chkRec r=0)→(rs.flatMap wrec).length≤514 * rs.length
 | [],_=>by simp
 | x :: r,h=>by
   have h1:=wrec_len (h x List.mem_cons_self)
   have h2:=recs_len r (fun y hy=>h y (List.mem_cons_of_mem _ hy))
   rw [List.flatMap_cons,List.length_append,List.length_cons]
   omega
set_option maxHeartbeats 1600000 in
set_option maxRecDepth 100000 in
theorem message_any (B b:Nat) (bs:List Value) (id code typ:Int) (ans cut:Bool) (name:ByteArray) (rs:List Rc.Rec) (pa:Option Addr) (cap:Nat) (w:World) (hm:ML w) (h:IsW B b bs w) (hlen:bs.length≤1000) (hn:chkN name=0) (hBw:B≤w.heap.size) (hB0:0 < B) (h20:rs.length≤20) (hcs:∀ r∈rs,chkRec r=0)
 (hrow:∀ W,Below B w W→rs=[]∨∃ b off,pa=some ⟨b,off,none⟩∧b < W.heap.size∧Rc.Row W b off rs) :
 Calls Tryz.prog 57 #[.pointer (some ⟨b,0,none⟩),.agg #[.int .i64 id,.bool ans,.bool cut,.int .i64 code,.string name,.int .i64 typ,.slice pa rs.length cap]] w fun e w'=>e=.returned (.tuple #[])∧IsW B b (bs++(whead id code typ ans cut name rs.length++rs.flatMap wrec)) w'∧Kp B b w w':=by
 have HROW:Hid (∀ W,Below B w W→rs=[]∨∃ b off,pa=some ⟨b,off,none⟩∧b < W.heap.size∧Rc.Row W b off rs):=hrow
 have HCS:Hid (∀ k,k < rs.length→chkRec (rs.getD k Rc.dm)=0):=fun k hk=>hcs _ (by simp [List.getD,List.getElem?_eq_getElem hk])
 have HFL:Hid (∀ k,((rs.take k).flatMap wrec).length≤10280):=fun k=>by
  refine Nat.le_trans (recs_len (rs.take k) fun x hx=>hcs x (List.mem_of_mem_take hx)) ?_
  rw [List.length_take];omega
 have HTK:Hid (∀ k,k < rs.length→(rs.take (k+1)).flatMap wrec=(rs.take k).flatMap wrec++wrec (rs.getD k Rc.dm)):=fun k hk=>by
  rw [List.take_succ_eq_append_getElem hk,List.flatMap_append]
  simp [List.getD,hk]
 have HALL:Hid (rs.take rs.length=rs):=List.take_length
 have HMW:Hid (ML w):=hm
 clear hrow hcs
 generalize hln:rs.length=n at *
 have HLN:Hid (rs.length=n):=hln
 clear hln
 have HI:Hid (IsW B b bs w):=h
 clear h
 have hbl:=HI.out.lt
 obtain ⟨hL8,hL30⟩:=chk_facts hn
 have hwn:(wname name).length≤249:=by
  unfold wname
  rw [List.length_append,nbs_len]
  have:=flat_len (labs name) hL30
  omega
 clear hL8 hL30
 go_enter Tryz.func57,Tryz.ntmps57
 go_wp2_with fail
 obtain ⟨w0,hw0⟩:∃ w0,w0=w.alloc (.cells #[.int .i64 id,.bool ans,.bool cut,.int .i64 code,.string name,.int .i64 typ,.slice pa n cap] 38):=⟨_,rfl⟩
 rw [← hw0]
 have hg0:w0.heap[w.heap.size]?=some (.cells #[.int .i64 id,.bool ans,.bool cut,.int .i64 code,.string name,.int .i64 typ,.slice pa n cap] 38 (0,0)):=by rw [hw0];exact heap_alloc_new w _
 have HK0:Hid (Kp B b w w0):=(show Kp B b w w0 by rw [hw0];exact Kp.alloc _ hBw)
 have HI0:Hid (IsW B b bs w0):=(show IsW B b bs w0 by rw [hw0];exact HI.out.alloc _)
 have HM0:Hid (ML w0):=(show ML w0 from hm.kp HK0.out hB0)
 have HG:Hid (∀ W,Kp B b w0 W→W.cell? ⟨w.heap.size,0,none⟩=some (.int .i64 id)∧W.cell? ⟨w.heap.size,1,none⟩=some (.bool ans)∧W.cell? ⟨w.heap.size,2,none⟩=some (.bool cut)∧W.cell? ⟨w.heap.size,3,none⟩=some (.int .i64 code)∧W.cell? ⟨w.heap.size,4,none⟩=some (.string name)∧W.cell? ⟨w.heap.size,5,none⟩=some (.int .i64 typ)∧W.cell? ⟨w.heap.size,6,none⟩=some (.slice pa n cap)):=fun W hW=>by
  have hg:W.heap[w.heap.size]?=some (.cells #[.int .i64 id,.bool ans,.bool cut,.int .i64 code,.string name,.int .i64 typ,.slice pa n cap] 38 (0,0)):=hW.oth _ _ hg0 (by simp;omega) (by simp)
  exact ⟨cellsAt hg 0,cellsAt hg 1,cellsAt hg 2,cellsAt hg 3,cellsAt hg 4,cellsAt hg 5,cellsAt hg 6⟩
 have hz0:B≤w0.heap.size:=Nat.le_trans hBw HK0.out.size
 clear hg0 hw0 hm
 refine (wnumber_any B b 2 id bs w0 HI0.out (by omega) (by omega) (Nat.le_trans hz0 (Kp.size (Kp.refl B b w0)))).mono ?_
 rintro e w1 ⟨rfl,h1,hb1⟩
 have HK1:Hid (Kp B b w0 w1):=Kp.trans (Kp.refl B b w0) hb1
 have l1:(bs++nbs id 2).length≤1002:=by rw [List.length_append,nbs_len];omega
 obtain ⟨D1,hD1⟩:∃ D,D=bs++nbs id 2:=⟨_,rfl⟩
 rw [← hD1] at h1 l1
 have HD1:Hid (D1=bs++nbs id 2):=hD1
 have HI1:Hid (IsW B b D1 w1):=h1
 clear hD1 h1 hb1
 obtain ⟨c0,c1,c2,c3,c4,c5,c6⟩:=HG.out w1 HK1.out
 go_wp2_with fail
 refine (flagsR_any id code typ ans cut name _ _).mono ?_
 rintro e wf ⟨rfl,o,hwf⟩
 have HIf:Hid (IsW B b D1 wf):=(show IsW B b D1 wf by rw [hwf];exact IsW.alloc HI1.out _)
 have HKf:Hid (Kp B b w0 wf):=(show Kp B b w0 wf by rw [hwf];exact Kp.trans HK1.out (Kp.alloc _ (Nat.le_trans hz0 (Kp.size HK1.out))))
 clear hwf
 obtain ⟨x0,x1,x2,x3,x4,x5,x6⟩:=HG.out wf HKf.out
 clear c0 c1 c2 c3 c4 c5 c6
 have c0:=x0
 have c1:=x1
 have c2:=x2
 have c3:=x3
 have c4:=x4
 have c5:=x5
 have c6:=x6
 clear x0 x1 x2 x3 x4 x5 x6
 go_wp2_with fail
 refine (wnumber_any B b 1 (flg ans cut) D1 wf HIf.out (by omega) (by omega) (Nat.le_trans hz0 (Kp.size HKf.out))).mono ?_
 rintro e w2 ⟨rfl,h2,hb2⟩
 have HK2:Hid (Kp B b w0 w2):=Kp.trans HKf.out hb2
 have l2:(D1++nbs (flg ans cut) 1).length≤1003:=by rw [List.length_append,nbs_len];omega
 obtain ⟨D2,hD2⟩:∃ D,D=D1++nbs (flg ans cut) 1:=⟨_,rfl⟩
 rw [← hD2] at h2 l2
 have HD2:Hid (D2=D1++nbs (flg ans cut) 1):=hD2
 have HI2:Hid (IsW B b D2 w2):=h2
 clear hD2 h2 hb2 c0 c1 c2 c3 c4 c5 c6
 obtain ⟨c0,c1,c2,c3,c4,c5,c6⟩:=HG.out w2 HK2.out
 go_wp2_with fail
 refine (wnumber_any B b 1 code D2 w2 HI2.out (by omega) (by omega) (Nat.le_trans hz0 (Kp.size HK2.out))).mono ?_
 rintro e w3 ⟨rfl,h3,hb3⟩
 have HK3:Hid (Kp B b w0 w3):=Kp.trans HK2.out hb3
 have l3:(D2++nbs code 1).length≤1004:=by rw [List.length_append,nbs_len];omega
 obtain ⟨D3,hD3⟩:∃ D,D=D2++nbs code 1:=⟨_,rfl⟩
 rw [← hD3] at h3 l3
 have HD3:Hid (D3=D2++nbs code 1):=hD3
 have HI3:Hid (IsW B b D3 w3):=h3
 clear hD3 h3 hb3 c0 c1 c2 c3 c4 c5 c6
 obtain ⟨c0,c1,c2,c3,c4,c5,c6⟩:=HG.out w3 HK3.out
 go_wp2_with fail
 refine (wnumber_any B b 2 1 D3 w3 HI3.out (by omega) (by omega) (Nat.le_trans hz0 (Kp.size HK3.out))).mono ?_
 rintro e w4 ⟨rfl,h4,hb4⟩
 have HK4:Hid (Kp B b w0 w4):=Kp.trans HK3.out hb4
 have l4:(D3++nbs 1 2).length≤1006:=by rw [List.length_append,nbs_len];omega
 obtain ⟨D4,hD4⟩:∃ D,D=D3++nbs 1 2:=⟨_,rfl⟩
 rw [← hD4] at h4 l4
 have HD4:Hid (D4=D3++nbs 1 2):=hD4
 have HI4:Hid (IsW B b D4 w4):=h4
 clear hD4 h4 hb4 c0 c1 c2 c3 c4 c5 c6
 obtain ⟨c0,c1,c2,c3,c4,c5,c6⟩:=HG.out w4 HK4.out
 go_wp2_with fail
 refine (wnumber_any B b 2 n D4 w4 HI4.out (by omega) (by omega) (Nat.le_trans hz0 (Kp.size HK4.out))).mono ?_
 rintro e w5 ⟨rfl,h5,hb5⟩
 have HK5:Hid (Kp B b w0 w5):=Kp.trans HK4.out hb5
 have l5:(D4++nbs n 2).length≤1008:=by rw [List.length_append,nbs_len];omega
 obtain ⟨D5,hD5⟩:∃ D,D=D4++nbs n 2:=⟨_,rfl⟩
 rw [← hD5] at h5 l5
 have HD5:Hid (D5=D4++nbs n 2):=hD5
 have HI5:Hid (IsW B b D5 w5):=h5
 clear hD5 h5 hb5 c0 c1 c2 c3 c4 c5 c6
 obtain ⟨c0,c1,c2,c3,c4,c5,c6⟩:=HG.out w5 HK5.out
 go_wp2_with fail
 refine (wnumber_any B b 2 0 D5 w5 HI5.out (by omega) (by omega) (Nat.le_trans hz0 (Kp.size HK5.out))).mono ?_
 rintro e w6 ⟨rfl,h6,hb6⟩
 have HK6:Hid (Kp B b w0 w6):=Kp.trans HK5.out hb6
 have l6:(D5++nbs 0 2).length≤1010:=by rw [List.length_append,nbs_len];omega
 obtain ⟨D6,hD6⟩:∃ D,D=D5++nbs 0 2:=⟨_,rfl⟩
 rw [← hD6] at h6 l6
 have HD6:Hid (D6=D5++nbs 0 2):=hD6
 have HI6:Hid (IsW B b D6 w6):=h6
 clear hD6 h6 hb6 c0 c1 c2 c3 c4 c5 c6
 obtain ⟨c0,c1,c2,c3,c4,c5,c6⟩:=HG.out w6 HK6.out
 go_wp2_with fail
 refine (wnumber_any B b 2 0 D6 w6 HI6.out (by omega) (by omega) (Nat.le_trans hz0 (Kp.size HK6.out))).mono ?_
 rintro e w7 ⟨rfl,h7,hb7⟩
 have HK7:Hid (Kp B b w0 w7):=Kp.trans HK6.out hb7
 have l7:(D6++nbs 0 2).length≤1012:=by rw [List.length_append,nbs_len];omega
 obtain ⟨D7,hD7⟩:∃ D,D=D6++nbs 0 2:=⟨_,rfl⟩
 rw [← hD7] at h7 l7
 have HD7:Hid (D7=D6++nbs 0 2):=hD7
 have HI7:Hid (IsW B b D7 w7):=h7
 clear hD7 h7 hb7 c0 c1 c2 c3 c4 c5 c6
 obtain ⟨c0,c1,c2,c3,c4,c5,c6⟩:=HG.out w7 HK7.out
 go_wp2_with fail
 refine (wname_any B b D7 name w7 (ML.kp HM0.out HK7.out hB0) HI7.out (by omega) hn (Nat.le_trans hz0 (Kp.size HK7.out))).mono ?_
 rintro e w8 ⟨rfl,h8,hb8⟩
 have HK8:Hid (Kp B b w0 w8):=Kp.trans HK7.out hb8
 have l8:(D7++wname name).length≤1261:=by rw [List.length_append];omega
 obtain ⟨D8,hD8⟩:∃ D,D=D7++wname name:=⟨_,rfl⟩
 rw [← hD8] at h8 l8
 have HD8:Hid (D8=D7++wname name):=hD8
 have HI8:Hid (IsW B b D8 w8):=h8
 clear hD8 h8 hb8 c0 c1 c2 c3 c4 c5 c6
 obtain ⟨c0,c1,c2,c3,c4,c5,c6⟩:=HG.out w8 HK8.out
 go_wp2_with fail
 refine (wnumber_any B b 2 typ D8 w8 HI8.out (by omega) (by omega) (Nat.le_trans hz0 (Kp.size HK8.out))).mono ?_
 rintro e w9 ⟨rfl,h9,hb9⟩
 have HK9:Hid (Kp B b w0 w9):=Kp.trans HK8.out hb9
 have l9:(D8++nbs typ 2).length≤1263:=by rw [List.length_append,nbs_len];omega
 obtain ⟨D9,hD9⟩:∃ D,D=D8++nbs typ 2:=⟨_,rfl⟩
 rw [← hD9] at h9 l9
 have HD9:Hid (D9=D8++nbs typ 2):=hD9
 have HI9:Hid (IsW B b D9 w9):=h9
 clear hD9 h9 hb9 c0 c1 c2 c3 c4 c5 c6
 obtain ⟨c0,c1,c2,c3,c4,c5,c6⟩:=HG.out w9 HK9.out
 go_wp2_with fail
 refine (wnumber_any B b 2 1 D9 w9 HI9.out (by omega) (by omega) (Nat.le_trans hz0 (Kp.size HK9.out))).mono ?_
 rintro e w10 ⟨rfl,h10,hb10⟩
 have HK10:Hid (Kp B b w0 w10):=Kp.trans HK9.out hb10
 have l10:(D9++nbs 1 2).length≤1265:=by rw [List.length_append,nbs_len];omega
 obtain ⟨D10,hD10⟩:∃ D,D=D9++nbs 1 2:=⟨_,rfl⟩
 rw [← hD10] at h10 l10
 have HD10:Hid (D10=D9++nbs 1 2):=hD10
 have HI10:Hid (IsW B b D10 w10):=h10
 clear hD10 h10 hb10 c0 c1 c2 c3 c4 c5 c6
 obtain ⟨c0,c1,c2,c3,c4,c5,c6⟩:=HG.out w10 HK10.out
 go_wp2_with fail
 have HF:Hid (D10=bs++whead id code typ ans cut name n):=(show _=_ by rw [HD10.out,HD9.out,HD8.out,HD7.out,HD6.out,HD5.out,HD4.out,HD3.out,HD2.out,HD1.out];simp [whead])
 have HIF:Hid (IsW B b (bs++whead id code typ ans cut name n) w10):=(show IsW _ _ _ _ by rw [← HF.out];exact HI10.out)
 have HKF:Hid (Kp B b w w10):=HK0.out.trans HK10.out
 have hhl:(bs++whead id code typ ans cut name n).length≤1265:=by rw [← HF.out];exact l10
 have hz10:B≤w10.heap.size:=Nat.le_trans hBw HKF.out.size
 obtain ⟨H,hH⟩:∃ H,H=bs++whead id code typ ans cut name n:=⟨_,rfl⟩
 rw [← hH] at hhl HIF
 have HH:Hid (H=bs++whead id code typ ans cut name n):=hH
 clear hH
 clear HF HD1 HD2 HD3 HD4 HD5 HD6 HD7 HD8 HD9 HD10 HI1 HI2 HI3 HI4 HI5 HI6 HI7 HI8 HI9 HI10 HK1 HK2 HK3 HK4 HK5 HK6 HK7 HK8 HK9 HIf HKf l1 l2 l3 l4 l5 l6 l7 l8 l9 l10 c0 c1 c2 c3 c4 c5
 go_loopw [44] (fun i wr=>∃ k:Nat,k≤n∧i=.int .i64 k∧Hid (IsW B b (H++(rs.take k).flatMap wrec) wr)∧Hid (Kp B b w wr)) (fun i _=>n - (intOf i).toNat)
 case atStart=>exact ⟨0,Nat.zero_le _,rfl,by simpa using HIF,HKF⟩
 case round=>
  obtain ⟨k,hk,rfl,HW,HKR⟩:=hrel
  have hBr:B≤wr.heap.size:=Nat.le_trans hBw HKR.out.size
  have hfl:=HFL.out k
  by_cases hlt:k < n
  ·obtain ⟨bR,off,hpa,hbw,hr⟩:∃ b off,pa=some ⟨b,off,none⟩∧b < wr.heap.size∧Rc.Row wr b off rs:=by
    rcases HROW.out wr HKR.out.bel with h | h
    ·have:=HLN.out;rw [h] at this;simp at this;omega
    ·exact h
   subst hpa
   obtain ⟨c0,c1,c2,c3,c4,c5,c7⟩:=hr k (by rw [HLN.out];exact hlt)
   have HTK2:=HTK.out k hlt
   have HCK:=HCS.out k hlt
   have HTK3:Hid ((rs.take (k+1)).flatMap wrec=(rs.take k).flatMap wrec++wrec (rs.getD k Rc.dm)):=HTK2
   have HCK2:Hid (chkRec (rs.getD k Rc.dm)=0):=HCK
   clear HTK2 HCK hr
   generalize rs.getD k Rc.dm=r at *
   have hd:decide ((k:Int) < (n:Int))=true:=by simp;omega
   have hi0:(0:Int)≤(k:Int):=by omega
   have hi1:(k:Int) < (n:Int):=by omega
   have hi2:((k:Int)).toNat=k:=by omega
   go_wp2_with fail
   obtain ⟨wx,hwx⟩:∃ wx,wx=wr.alloc (.cells #[.string r.name,.int .i64 r.typ,.int .i64 r.lasts,.int .i64 r.addr,.string r.text,.int .i64 r.port,.string r.target] 59):=⟨_,rfl⟩
   rw [← hwx]
   have HIX:Hid (IsW B b (H++(rs.take k).flatMap wrec) wx):=(show IsW _ _ _ _ by rw [hwx];exact HW.out.alloc _)
   have HKX:Hid (Kp B b w wx):=(show Kp _ _ _ _ by rw [hwx];exact HKR.out.trans (Kp.alloc _ hBr))
   clear hwx c0 c1 c2 c3 c4 c5 c7
   refine (wrecord_any B b _ r wx (HMW.out.kp HKX.out hB0) HIX.out (by rw [List.length_append];omega) HCK2.out (Nat.le_trans hBw HKX.out.size) hB0).mono ?_
   rintro e w12 ⟨rfl,h1,hb1⟩
   have HI12:Hid (IsW B b (H++(rs.take (k+1)).flatMap wrec) w12):=(show IsW _ _ _ _ by rw [HTK3.out,← List.append_assoc];exact h1)
   have HK12:Hid (Kp B b w w12):=HKX.out.trans hb1
   clear h1 hb1
   go_wp2_with fail
   exact ⟨⟨k+1,by omega,by go_num,HI12,HK12⟩,by simp [intOf];omega⟩
  ·have hkn:k=n:=by omega
   have HIZ:Hid (IsW B b (bs++(whead id code typ ans cut name n++rs.flatMap wrec)) wr):=(show IsW _ _ _ _ by
    have h:=HW.out
    rw [hkn,HALL.out,HH.out,List.append_assoc] at h
    exact h)
   have hd:decide ((k:Int) < (n:Int))=false:=by simp;omega
   clear hkn
   go_wp2_with fail
   simp [bodyPost,results,Tryz.results57]
   exact ⟨HIZ.out,HKR.out⟩
end Go.Proofs.YtignmeaeibaejaaGreatDoor
