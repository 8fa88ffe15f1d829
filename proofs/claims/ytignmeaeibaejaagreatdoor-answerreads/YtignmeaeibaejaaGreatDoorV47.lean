import Derived.Test.YtignmeaeibaejaaGreatDoorV18
import Derived.Lib.QuietBelow
namespace Go.Proofs.YtignmeaeibaejaaGreatDoor
open Go.RowKit Go.Shelf Go.Lib Go.Sort
def wAt (L:List ByteArray):Int:=Lib.idxBy (fun _ y=>isWd y) L default
def jB (L:List ByteArray):ByteArray:=mk (jn (L.map bytes))
def qE:Qu:=⟨⟨#[]⟩,⟨#[]⟩,⟨#[]⟩,⟨#[]⟩⟩
def gss (L:List ByteArray):Qu:=
 if wAt L < 1 then qE
 else if L.getD (wAt L).toNat ByteArray.empty=bNode then ⟨⟨#[]⟩,⟨#[]⟩,L.getD ((wAt L).toNat - 1) ByteArray.empty,jB (L.drop ((wAt L).toNat+1))⟩
 else ⟨L.getD ((wAt L).toNat - 1) ByteArray.empty,jB (L.take ((wAt L).toNat - 1)),⟨#[]⟩,jB (L.drop ((wAt L).toNat+1))⟩
theorem idx_spec:∀ (L:List ByteArray) (n:Nat),(Lib.idxByFrom (fun _ y=>isWd y) (default:ByteArray) L n = -1∧∀ j,j < L.length→isWd (L.getD j ByteArray.empty)=false)∨∃ i,i < L.length∧Lib.idxByFrom (fun _ y=>isWd y) (default:ByteArray) L n=((n+i:Nat):Int)∧isWd (L.getD i ByteArray.empty)=true∧∀ j,j < i→isWd (L.getD j ByteArray.empty)=false
 | [],n=>.inl ⟨rfl,fun j hj=>absurd hj (Nat.not_lt_zero _)⟩
 | x :: r,n=>by
   unfold Lib.idxByFrom
   by_cases h:isWd x=true
   ·rw [if_pos h]
    exact .inr ⟨0,by simp,rfl,h,fun j hj=>absurd hj (Nat.not_lt_zero _)⟩
   ·rw [if_neg h]
    have hf:isWd x=false:=by simpa using h
    rcases idx_spec r (n+1) with ⟨h1,h2⟩ | ⟨i,h1,h2,h3,h4⟩
    ·refine .inl ⟨h1,fun j hj=>?_⟩
     cases j with
     | zero=>exact hf
     | succ j=>exact h2 j (by simpa using hj)
    ·refine .inr ⟨i+1,by simpa using h1,by rw [h2];congr 1;omega,h3,fun j hj=>?_⟩
     cases j with
     | zero=>exact hf
     | succ j=>exact h4 j (by omega)
theorem wAt_spec (L:List ByteArray):(wAt L = -1∧∀ j,j < L.length→isWd (L.getD j ByteArray.empty)=false)∨∃ i:Nat,i < L.length∧wAt L=(i:Int)∧isWd (L.getD i ByteArray.empty)=true∧∀ j,j < i→isWd (L.getD j ByteArray.empty)=false:=by
 have h:=idx_spec L 0
 rcases h with h | ⟨i,h1,h2,h3,h4⟩
 ·exact .inl h
 ·exact .inr ⟨i,h1,by rw [show wAt L=Lib.idxByFrom (fun _ y=>isWd y) (default:ByteArray) L 0 from rfl,h2,Nat.zero_add],h3,h4⟩
theorem joinS_any (L:List ByteArray) (g o c:Nat) (W:World) (hc:∀ j,j < L.length→W.cell? ⟨g,o+j,none⟩=some (.string (L.getD j ByteArray.empty))) (hg:g < W.heap.size) (hL:L.length≤c) (hn:L.length≤1000) (hz:(jn (L.map bytes)).length≤100000) :
 Calls Tryz.prog 94 #[.slice (some ⟨g,o,none⟩) L.length c,.string ⟨#[46]⟩] W fun e w'=>e=.returned (.string (jB L))∧Below W.heap.size W w':=by
 have h3:=Tryz.strings_Join g o c L ⟨#[46]⟩ W (fun j x hj=>by
  obtain ⟨hj1,hj2⟩:=List.getElem?_eq_some_iff.1 hj
  rw [hc j hj1]
  simp [List.getD,hj1,hj2]) hg (by omega) hL (by
  rw [show (ByteArray.mk #[46]).data.toList=[46] from rfl,join_jn]
  exact Nat.le_trans hz (by omega))
 rw [show (ByteArray.mk #[46]).data.toList=[46] from rfl,join_jn] at h3
 exact h3
theorem cell_alloc_old {W:World} {o:Obj} {b k:Nat} (h:b < W.heap.size):(W.alloc o).cell? ⟨b,k,none⟩=W.cell? ⟨b,k,none⟩:=World.cell?_alloc_past (w:=W) _ b _ h
theorem qboxf {w w1:World} {a b c d:Value} {t:TypeId} (h:Below (w.alloc (.cells #[a,b,c,d] t)).heap.size (w.alloc (.cells #[a,b,c,d] t)) w1) :
 w1.heap[w.heap.size]?=some (.cells #[a,b,c,d] t (0,0))∧∀ j,w1.frozen? ⟨w.heap.size,j,none⟩=false:=by
 have hg:w1.heap[w.heap.size]?=some (.cells #[a,b,c,d] t (0,0)):=(h.block _ (by simp)).trans (heap_alloc_new w _)
 exact ⟨hg,fun j=>by simp [World.frozen?,hg]⟩
set_option maxHeartbeats 3200000 in
set_option maxRecDepth 100000 in
theorem guess_any (L:List ByteArray) (g c:Nat) (w:World) (hc:∀ j,j < L.length→w.cell? ⟨g,0+j,none⟩=some (.string (L.getD j ByteArray.empty))) (hg:g < w.heap.size) (hL:L.length < c) (hn:L.length≤100) (hz:∀ L',(∃ a b,L'=(L.drop a).take b)→(jn (L'.map bytes)).length≤100000) :
 Calls Tryz.prog 125 #[.slice (some ⟨g,0,none⟩) L.length c] w fun e w'=>e=.returned (.agg #[.string (gss L).service,.string (gss L).tag,.string (gss L).node,.string (gss L).centre])∧Below w.heap.size w w':=by
 have eg:∀ args w,(callFunc 144 args).run Tryz.prog w=.ok (.enter 144 args) w:=enters_of Tryz.func144 (by kernel_rfl) rfl
 have HIX:Hid (∀ W,Below w.heap.size w W→Calls Tryz.prog 145 #[.slice (some ⟨g,0,none⟩) L.length c,.func (.func 144) #[] #[]] W fun e w'=>e=.returned (.int .i64 (wAt L))∧Below W.heap.size W w'):=fun W hW=>by
  have h:=AnyE.slices_IndexFunc (P:=Tryz.prog) (ρ:=Tryz.ixS_ren) Tryz.ixS Value.string isWd 144 #[] eg g 0 L.length c L W (fun W x _=>isWd_gives x W) (Nat.le_refl _) (by omega) (fun j hj=>by
   rw [(hW.cell (p:=⟨g,0+j,none⟩) hg).trans (hc j hj)]
   simp [List.getD,getElem!_pos,hj])
  rw [List.take_length] at h
  refine h.mono ?_
  rintro e w' ⟨rfl,q,rfl⟩
  exact ⟨rfl,belowN (Below.refl _ _) _⟩
 have HC:Hid (∀ W,Below w.heap.size w W→∀ j,j < L.length→W.cell? ⟨g,0+j,none⟩=some (.string (L.getD j ByteArray.empty))):=fun W hW j hj=>(hW.cell (p:=⟨g,0+j,none⟩) hg).trans (hc j hj)
 have HG:Hid (gss L=if wAt L < 1 then qE
 else if L.getD (wAt L).toNat ByteArray.empty=bNode then ⟨⟨#[]⟩,⟨#[]⟩,L.getD ((wAt L).toNat - 1) ByteArray.empty,jB (L.drop ((wAt L).toNat+1))⟩
 else ⟨L.getD ((wAt L).toNat - 1) ByteArray.empty,jB (L.take ((wAt L).toNat - 1)),⟨#[]⟩,jB (L.drop ((wAt L).toNat+1))⟩):=rfl
 have HJD:Hid (∀ i W,i < L.length→Below w.heap.size w W→Calls Tryz.prog 94 #[.slice (some ⟨g,i+1,none⟩) (L.length - (i+1)) (c - (i+1)),.string ⟨#[46]⟩] W fun e w'=>e=.returned (.string (jB (L.drop (i+1))))∧Below W.heap.size W w'):=fun i W hi hW=>by
  have h:=joinS_any (L.drop (i+1)) g (i+1) (c - (i+1)) W (fun j hj=>by
   rw [List.length_drop] at hj
   have h2:=HC.out W hW (i+1+j) (by omega)
   rw [Nat.zero_add] at h2
   rw [h2]
   simp [List.getD]) (Nat.lt_of_lt_of_le hg hW.size) (by rw [List.length_drop];omega) (by rw [List.length_drop];omega) (hz _ ⟨i+1,L.length,by rw [List.take_of_length_le (by rw [List.length_drop];omega)]⟩)
  rw [List.length_drop] at h
  exact h
 have HJT:Hid (∀ i W,i≤L.length→Below w.heap.size w W→Calls Tryz.prog 94 #[.slice (some ⟨g,0,none⟩) i c,.string ⟨#[46]⟩] W fun e w'=>e=.returned (.string (jB (L.take i)))∧Below W.heap.size W w'):=fun i W hi hW=>by
  have h:=joinS_any (L.take i) g 0 c W (fun j hj=>by
   rw [List.length_take] at hj
   rw [HC.out W hW j (by omega)]
   simp [List.getD,List.getElem?_take_of_lt (show j < i by omega)]) (Nat.lt_of_lt_of_le hg hW.size) (by rw [List.length_take];omega) (by rw [List.length_take];omega) (hz _ ⟨0,i,by simp⟩)
  rw [List.length_take,Nat.min_eq_left hi] at h
  exact h
 have hws:=wAt_spec L
 clear eg hc hz
 generalize gss L=G at *
 generalize wAt L=at' at *
 rcases hws with ⟨hw,_⟩ | ⟨i,hi,hw,hwd,_⟩
 ·subst hw
  have HG2:Hid (G=qE):=HG.out
  clear HG HJD HJT HC
  go_enter Tryz.func125,Tryz.ntmps125
  go_wp2_with fail
  refine (HIX.out _ ((Below.refl _ _).alloc (Nat.le_refl _) _)).mono ?_
  rintro e w1 ⟨rfl,hb1⟩
  obtain ⟨f0,f1,f2,f3,HB1,hl1⟩:=qbox hb1
  obtain ⟨hgx,hfz⟩:=qboxf hb1
  have z0:=hfz 0
  have z1:=hfz 1
  have z2:=hfz 2
  have z3:=hfz 3
  clear hb1 hfz hgx
  go_wp2_with fail
  exact bodyPost_ret (v:=.agg #[.string ⟨#[]⟩,.string ⟨#[]⟩,.string ⟨#[]⟩,.string ⟨#[]⟩]) (by simp [results,Tryz.results125,go_sem,f0,f1,f2,f3]) rfl ⟨by rw [HG2.out];rfl,(((HB1.out.setCell (p:=⟨w.heap.size,0,none⟩) (Nat.le_refl _) _).setCell (p:=⟨w.heap.size,1,none⟩) (Nat.le_refl _) _).setCell (p:=⟨w.heap.size,2,none⟩) (Nat.le_refl _) _).setCell (p:=⟨w.heap.size,3,none⟩) (Nat.le_refl _) _⟩
 ·subst hw
  have e1:((i:Int)).toNat=i:=by omega
  by_cases h1:(i:Int) < 1
  ·have HG2:Hid (G=qE):=(show G=qE by rw [HG.out,if_pos h1])
   have hi0:i=0:=by omega
   subst hi0
   clear HG HJD HJT HC
   go_enter Tryz.func125,Tryz.ntmps125
   go_wp2_with fail
   refine (HIX.out _ ((Below.refl _ _).alloc (Nat.le_refl _) _)).mono ?_
   rintro e w1 ⟨rfl,hb1⟩
   obtain ⟨f0,f1,f2,f3,HB1,hl1⟩:=qbox hb1
   obtain ⟨hgx,hfz⟩:=qboxf hb1
   have z0:=hfz 0
   have z1:=hfz 1
   have z2:=hfz 2
   have z3:=hfz 3
   clear hb1 hfz hgx
   go_wp2_with fail
   exact bodyPost_ret (v:=.agg #[.string ⟨#[]⟩,.string ⟨#[]⟩,.string ⟨#[]⟩,.string ⟨#[]⟩]) (by simp [results,Tryz.results125,go_sem,f0,f1,f2,f3]) rfl ⟨by rw [HG2.out];rfl,(((HB1.out.setCell (p:=⟨w.heap.size,0,none⟩) (Nat.le_refl _) _).setCell (p:=⟨w.heap.size,1,none⟩) (Nat.le_refl _) _).setCell (p:=⟨w.heap.size,2,none⟩) (Nat.le_refl _) _).setCell (p:=⟨w.heap.size,3,none⟩) (Nat.le_refl _) _⟩
  ·have hh:=HG.out
   rw [if_neg h1,e1] at hh
   go_enter Tryz.func125,Tryz.ntmps125
   go_wp2_with fail
   refine (HIX.out _ ((Below.refl _ _).alloc (Nat.le_refl _) _)).mono ?_
   rintro e w1 ⟨rfl,hb1⟩
   obtain ⟨f0,f1,f2,f3,HB1,hl1⟩:=qbox hb1
   obtain ⟨hgx,hfz⟩:=qboxf hb1
   have z0:=hfz 0
   have z1:=hfz 1
   have z2:=hfz 2
   have z3:=hfz 3
   clear hb1 hfz hgx
   go_wp2_with fail
   refine (HJD.out i _ hi HB1.out).mono ?_
   rintro e w2 ⟨rfl,hb2⟩
   have HB2:Hid (Below w.heap.size w w2):=HB1.out.trans (hb2.mono (Nat.le_of_lt hl1))
   have HB12:Hid (Below w1.heap.size w1 w2):=hb2
   have g0:=(hb2.cell (p:=⟨w.heap.size,0,none⟩) hl1).trans f0
   have g1:=(hb2.cell (p:=⟨w.heap.size,1,none⟩) hl1).trans f1
   have g2:=(hb2.cell (p:=⟨w.heap.size,2,none⟩) hl1).trans f2
   have g3:=(hb2.cell (p:=⟨w.heap.size,3,none⟩) hl1).trans f3
   have y0:=(hb2.frozen (p:=⟨w.heap.size,0,none⟩) hl1).trans z0
   have y1:=(hb2.frozen (p:=⟨w.heap.size,1,none⟩) hl1).trans z1
   have y2:=(hb2.frozen (p:=⟨w.heap.size,2,none⟩) hl1).trans z2
   have y3:=(hb2.frozen (p:=⟨w.heap.size,3,none⟩) hl1).trans z3
   have ci:=HC.out w2 HB2.out i hi
   have cm:=HC.out w2 HB2.out (i - 1) (by omega)
   rw [Nat.zero_add] at ci cm
   have hg2:g < w2.heap.size:=Nat.lt_of_lt_of_le hg HB2.out.size
   have hl2:w.heap.size < w2.heap.size:=Nat.lt_of_lt_of_le hl1 HB12.out.size
   have e0:g≠w2.heap.size:=by omega
   have e2:w.heap.size≠w2.heap.size:=by omega
   have hwm:IntKind.i64.wrap ((i:Int) - 1)=((i - 1:Nat):Int):=by rw [IntKind.wrap_i64];omega
   have him:((i - 1:Nat):Int) < (L.length:Int):=by omega
   have him0:(0:Int)≤((i - 1:Nat):Int):=by omega
   have hic:((i - 1:Nat):Int)≤(c:Int):=by omega
   have HJ2:Hid (∀ W,Below w.heap.size w W→Calls Tryz.prog 94 #[.slice (some ⟨g,0,none⟩) (i - 1) c,.string ⟨#[46]⟩] W fun e w'=>e=.returned (.string (jB (L.take (i - 1))))∧Below W.heap.size W w'):=fun W hW=>HJT.out (i - 1) W (by omega) hW
   clear f0 f1 f2 f3 z0 z1 z2 z3 hb2 HC HJD HJT HG
   have HGG:Hid (G=if L.getD i ByteArray.empty=bNode then ⟨⟨#[]⟩,⟨#[]⟩,L.getD (i - 1) ByteArray.empty,jB (L.drop (i+1))⟩ else ⟨L.getD (i - 1) ByteArray.empty,jB (L.take (i - 1)),⟨#[]⟩,jB (L.drop (i+1))⟩):=hh
   clear hh
   generalize hli:L.getD i ByteArray.empty=li at *
   generalize L.getD (i - 1) ByteArray.empty=lm at *
   generalize jB (L.drop (i+1))=jd at *
   generalize jB (L.take (i - 1))=jt at *
   clear hli
   generalize hmm:i - 1=m at *
   clear hmm
   by_cases hnd:li=bNode
   ·subst hnd
    have HG2:Hid (G=⟨⟨#[]⟩,⟨#[]⟩,lm,jd⟩):=HGG.out
    clear HGG HJ2
    go_wp2_with fail
    exact bodyPost_ret (v:=.agg #[.string ⟨#[]⟩,.string ⟨#[]⟩,.string lm,.string jd]) (by simp [results,Tryz.results125,go_sem,g0,g1,g2,g3,cell_alloc_old,hl2]) rfl ⟨by rw [HG2.out],((((HB2.out.setCell (p:=⟨w.heap.size,0,none⟩) (Nat.le_refl _) _).setCell (p:=⟨w.heap.size,1,none⟩) (Nat.le_refl _) _).setCell (p:=⟨w.heap.size,2,none⟩) (Nat.le_refl _) _).setCell (p:=⟨w.heap.size,3,none⟩) (Nat.le_refl _) _).alloc (by simp;omega) _⟩
   ·have HG2:Hid (G=⟨lm,jt,⟨#[]⟩,jd⟩):=(show G=_ by rw [HGG.out,if_neg hnd])
    obtain ⟨b1,b2⟩:=ne_node hnd
    clear HGG hnd hwd
    go_wp2_with fail
    refine (HJ2.out _ (HB2.out.alloc (by omega) _)).mono ?_
    rintro e w3 ⟨rfl,hb3⟩
    obtain ⟨q0,q1,q2,q3,HB3,hl3⟩:=qbox hb3
    obtain ⟨_,qz⟩:=qboxf hb3
    have r0:=(HB3.out.cell (p:=⟨w.heap.size,0,none⟩) hl2).trans g0
    have r1:=(HB3.out.cell (p:=⟨w.heap.size,1,none⟩) hl2).trans g1
    have r2:=(HB3.out.cell (p:=⟨w.heap.size,2,none⟩) hl2).trans g2
    have r3:=(HB3.out.cell (p:=⟨w.heap.size,3,none⟩) hl2).trans g3
    have x0:=(HB3.out.frozen (p:=⟨w.heap.size,0,none⟩) hl2).trans y0
    have x1:=(HB3.out.frozen (p:=⟨w.heap.size,1,none⟩) hl2).trans y1
    have x2:=(HB3.out.frozen (p:=⟨w.heap.size,2,none⟩) hl2).trans y2
    have x3:=(HB3.out.frozen (p:=⟨w.heap.size,3,none⟩) hl2).trans y3
    have qz1:=qz 1
    have HBT:Hid (Below w.heap.size w w3):=HB2.out.trans (HB3.out.mono (Nat.le_of_lt hl2))
    clear g0 g1 g2 g3 y0 y1 y2 y3 hb3 ci cm HJ2 qz
    go_wp2_with fail
    exact bodyPost_ret (v:=.agg #[.string lm,.string jt,.string ⟨#[]⟩,.string jd]) (by simp [results,Tryz.results125,go_sem,r0,r1,r2,r3]) rfl ⟨by rw [HG2.out],((((HBT.out.setCell (p:=⟨w2.heap.size,1,none⟩) (Nat.le_of_lt hl2) _).setCell (p:=⟨w.heap.size,0,none⟩) (Nat.le_refl _) _).setCell (p:=⟨w.heap.size,1,none⟩) (Nat.le_refl _) _).setCell (p:=⟨w.heap.size,2,none⟩) (Nat.le_refl _) _).setCell (p:=⟨w.heap.size,3,none⟩) (Nat.le_refl _) _⟩
end Go.Proofs.YtignmeaeibaejaaGreatDoor
namespace Go.Proofs.YtignmeaeibaejaaGreatDoor
open Go.RowKit
def lbs (s:ByteArray):List ByteArray:=(spl s.data.toList).map mk
def prQ (s:ByteArray):Qu:=gss (lbs s).dropLast
def lst (s:ByteArray):ByteArray:=(lbs s).getD ((lbs s).length - 1) ByteArray.empty
def prsE (s:ByteArray):Int:=if chkN s=0 then (if lst s=bMesh then (if prE (prQ s)=0∧prS (prQ s)=s then 0 else 1) else 8) else chkN s
def prsQ (s:ByteArray):Qu:=if prsE s=0 then prQ s else qE
theorem chkN_zero {s:ByteArray} (h:chkN s=0):s.size≤120∧(spl s.data.toList).length≤8∧∀ x∈spl s.data.toList,x.length≤30:=by
 unfold chkN at h
 by_cases h0:s.size=0
 ·have:=isempty h0
  subst this
  exact ⟨by omega,by decide,by decide⟩
 ·rw [if_neg h0] at h
  by_cases h1:(spl s.data.toList).all labL=false
  ·rw [if_pos h1] at h;omega
  ·rw [if_neg h1] at h
   by_cases h2:8 < (spl s.data.toList).length∨120 < s.size
   ·rw [if_pos h2] at h;omega
   ·refine ⟨by omega,by omega,fun x hx=>?_⟩
    have h3:(spl s.data.toList).all labL=true:=by simpa using h1
    exact (labL_size (List.all_eq_true.1 h3 x hx)).2
theorem lbs_len (s:ByteArray):(lbs s).length=(spl s.data.toList).length:=by unfold lbs;rw [List.length_map]
theorem lbs_pos (s:ByteArray):0 < (lbs s).length:=by rw [lbs_len];exact List.length_pos_iff.2 (spl_ne _)
theorem lbs_small {s:ByteArray} (h:chkN s=0):∀ x∈lbs s,x.size≤30:=fun x hx=>by
 obtain ⟨y,hy,rfl⟩:=List.mem_map.1 hx
 rw [mk_size]
 exact (chkN_zero h).2.2 y hy
theorem sub_small {L:List ByteArray} (hn:L.length≤8) (h:∀ x∈L,x.size≤30) {a b:Nat}:(jn (((L.drop a).take b).map bytes)).length≤248:=by
 refine Nat.le_trans (jn_le _ fun x hx=>?_) ?_
 ·obtain ⟨y,hy,rfl⟩:=List.mem_map.1 hx
  have:=h y (List.mem_of_mem_drop (List.mem_of_mem_take hy))
  simpa [bytes] using this
 ·rw [List.length_map,List.length_take,List.length_drop];omega
theorem getD_small {L:List ByteArray} (h:∀ x∈L,x.size≤30) (j:Nat):(L.getD j ByteArray.empty).size≤30:=by
 by_cases hj:j < L.length
 ·rw [show L.getD j ByteArray.empty=L[j] by simp [List.getD,List.getElem?_eq_getElem hj]]
  exact h _ (List.getElem_mem hj)
 ·rw [show L.getD j ByteArray.empty=ByteArray.empty by simp [List.getD,List.getElem?_eq_none (by omega:L.length≤j)]];decide
theorem jB_small {L:List ByteArray} (hn:L.length≤8) (h:∀ x∈L,x.size≤30) (a b:Nat):(jB ((L.drop a).take b)).size≤248:=by
 unfold jB
 rw [mk_size]
 exact sub_small hn h
theorem gss_ok {L:List ByteArray} (hn:L.length≤8) (h:∀ x∈L,x.size≤30):(gss L).ok:=by
 have hd:∀ a,(jB (L.drop a)).size≤248:=fun a=>by
  have:=jB_small hn h a L.length
  rwa [List.take_of_length_le (by rw [List.length_drop];omega)] at this
 have ht:∀ a,(jB (L.take a)).size≤248:=fun a=>by
  have:=jB_small hn h 0 a
  rwa [List.drop_zero] at this
 have hg:=getD_small h
 have e0:(ByteArray.mk #[]).size=0:=rfl
 unfold gss
 split
 ·exact ⟨by decide,by decide,by decide,by decide⟩
 ·have h1:=hd ((wAt L).toNat+1)
  have h2:=ht ((wAt L).toNat - 1)
  have h3:=hg ((wAt L).toNat - 1)
  split
  ·refine ⟨?_,?_,?_,?_⟩<;>unfold maxLen<;>simp only [e0]<;>omega
  ·refine ⟨?_,?_,?_,?_⟩<;>unfold maxLen<;>simp only [e0]<;>omega
set_option maxHeartbeats 3200000 in
set_option maxRecDepth 100000 in
theorem parse_any (s:ByteArray) (w:World) (hm:ML w) (hs:s.size≤maxLen) :
 Calls Tryz.prog 103 #[.string s] w fun e w'=>e=.returned (.tuple #[.agg #[.string (prsQ s).service,.string (prsQ s).tag,.string (prsQ s).node,.string (prsQ s).centre],.int .i64 (prsE s)])∧Below w.heap.size w w':=by
 have HDC:Hid (∀ W,Calls Tryz.prog 86 #[.string s] W fun e w'=>e=.returned (.int .i64 (chkN s))∧Below W.heap.size W w'):=fun W=>dnsCheck_any s W hs
 by_cases h0:chkN s=0
 ·obtain ⟨b1,b2,_⟩:=chkN_zero h0
  have HSP:Hid (∀ W,Below w.heap.size w W→Calls Tryz.prog 116 #[.string s,.string ⟨#[46]⟩] W fun e w'=>e=.returned (.slice (some ⟨W.heap.size,0,none⟩) (lbs s).length (lbs s).length)∧w'=W.alloc (.cells ((lbs s).map Value.string).toArray 9)):=fun W hW=>by
   have h:=split_any s W (hm.below hW) (by omega)
   rw [← lbs_len] at h
   exact h
  have hlen:(lbs s).length≤8:=by rw [lbs_len];exact b2
  have hsmall:=lbs_small h0
  have hpos:=lbs_pos s
  have hdl:(lbs s).dropLast.length=(lbs s).length - 1:=List.length_dropLast
  have hdm:∀ x∈(lbs s).dropLast,x.size≤30:=fun x hx=>hsmall x ((List.dropLast_sublist _).subset hx)
  have HGU:Hid (∀ (g:Nat) (W:World),W.heap[g]?=some (.cells ((lbs s).map Value.string).toArray 9 (0,0))→Calls Tryz.prog 125 #[.slice (some ⟨g,0,none⟩) ((lbs s).length - 1) (lbs s).length] W fun e w'=>e=.returned (.agg #[.string (prQ s).service,.string (prQ s).tag,.string (prQ s).node,.string (prQ s).centre])∧Below W.heap.size W w'):=fun g W hg=>by
   have h:=guess_any (lbs s).dropLast g (lbs s).length W (fun j hj=>by
    rw [Nat.zero_add,cellsAt hg]
    have hj2:j < (lbs s).length:=by omega
    simp [List.getD,hj2,show j < (lbs s).length - 1 by omega]) (Array.getElem?_eq_some_iff.1 hg).1 (by omega) (by omega) (fun L' ⟨a,b,e⟩=>by
    rw [e]
    exact Nat.le_trans (sub_small (by omega) hdm) (by omega))
   rw [hdl] at h
   exact h
  have HPR:Hid (∀ W,Calls Tryz.prog 83 #[.agg #[.string (prQ s).service,.string (prQ s).tag,.string (prQ s).node,.string (prQ s).centre]] W fun e w'=>e=.returned (.tuple #[.string (prS (prQ s)),.int .i64 (prE (prQ s))])∧Below W.heap.size W w'):=fun W=>print_any (prQ s) W (gss_ok (by omega) hdm)
  have HE:Hid (prsE s=if lst s=bMesh then (if prE (prQ s)=0∧prS (prQ s)=s then 0 else 1) else 8):=(show prsE s=_ by unfold prsE;rw [if_pos h0])
  have HQ:Hid (prsQ s=if prsE s=0 then prQ s else qE):=rfl
  have HLA:Hid (∀ (g:Nat) (W:World),W.heap[g]?=some (.cells ((lbs s).map Value.string).toArray 9 (0,0))→W.cell? ⟨g,(lbs s).length - 1,none⟩=some (.string (lst s))):=fun g W hg=>by
   rw [cellsAt hg]
   have hj2:(lbs s).length - 1 < (lbs s).length:=by omega
   simp [lst,List.getD,hj2]
  rw [h0] at HDC
  clear hsmall hdl hdm b1 b2 hm h0
  generalize prsE s=E at *
  generalize prsQ s=Q at *
  generalize prE (prQ s)=pe at *
  generalize prS (prQ s)=ps at *
  generalize prQ s=q at *
  generalize lst s=la at *
  generalize hLL:(lbs s).map Value.string=LV at *
  clear hLL
  generalize (lbs s).length=n at *
  obtain ⟨qs,qt,qn,qc⟩:=q
  simp only at HGU HPR HQ
  go_enter Tryz.func103,Tryz.ntmps103
  go_wp2_with fail
  refine (HDC.out _).mono ?_
  rintro e w1 ⟨rfl,hb1⟩
  obtain ⟨f0,f1,f2,f3,HB1,hl1⟩:=qbox hb1
  obtain ⟨_,hfz⟩:=qboxf hb1
  have z0:=hfz 0
  have z1:=hfz 1
  have z2:=hfz 2
  have z3:=hfz 3
  clear hb1 hfz
  go_wp2_with fail
  refine (HSP.out _ HB1.out).mono ?_
  rintro e w2 ⟨rfl,hw2⟩
  have HB12:Hid (Below w1.heap.size w1 w2):=(show Below _ _ _ by rw [hw2];exact (Below.refl _ _).alloc (Nat.le_refl _) _)
  have hgl:w2.heap[w1.heap.size]?=some (.cells LV.toArray 9 (0,0)):=by rw [hw2];exact heap_alloc_new w1 _
  have HGL:Hid (w2.heap[w1.heap.size]?=some (.cells LV.toArray 9 (0,0))):=hgl
  have cl:=HLA.out _ _ hgl
  have hl2:w.heap.size < w2.heap.size:=Nat.lt_of_lt_of_le hl1 HB12.out.size
  have HB2:Hid (Below w.heap.size w w2):=HB1.out.trans (HB12.out.mono (Nat.le_of_lt hl1))
  have g0:=(HB12.out.cell (p:=⟨w.heap.size,0,none⟩) hl1).trans f0
  have g1:=(HB12.out.cell (p:=⟨w.heap.size,1,none⟩) hl1).trans f1
  have g2:=(HB12.out.cell (p:=⟨w.heap.size,2,none⟩) hl1).trans f2
  have g3:=(HB12.out.cell (p:=⟨w.heap.size,3,none⟩) hl1).trans f3
  have y0:=(HB12.out.frozen (p:=⟨w.heap.size,0,none⟩) hl1).trans z0
  have y1:=(HB12.out.frozen (p:=⟨w.heap.size,1,none⟩) hl1).trans z1
  have y2:=(HB12.out.frozen (p:=⟨w.heap.size,2,none⟩) hl1).trans z2
  have y3:=(HB12.out.frozen (p:=⟨w.heap.size,3,none⟩) hl1).trans z3
  have hwm:IntKind.i64.wrap ((n:Int) - 1)=((n - 1:Nat):Int):=by rw [IntKind.wrap_i64];omega
  have him:((n - 1:Nat):Int) < (n:Int):=by omega
  have him0:(0:Int)≤((n - 1:Nat):Int):=by omega
  have hic:((n - 1:Nat):Int)≤(n:Int):=by omega
  clear f0 f1 f2 f3 z0 z1 z2 z3 hgl hw2 HSP HLA
  generalize hmm:n - 1=m at *
  clear hmm
  by_cases hla:la=bMesh
  ·have HE2:Hid (E=if pe=0∧ps=s then 0 else 1):=(show E=_ by rw [HE.out,if_pos hla])
   subst hla
   clear HE
   go_wp2_with fail
   refine (HGU.out _ _ HGL.out).mono ?_
   rintro e w3 ⟨rfl,hb3⟩
   have r0:=(hb3.cell (p:=⟨w.heap.size,0,none⟩) hl2).trans g0
   have r1:=(hb3.cell (p:=⟨w.heap.size,1,none⟩) hl2).trans g1
   have r2:=(hb3.cell (p:=⟨w.heap.size,2,none⟩) hl2).trans g2
   have r3:=(hb3.cell (p:=⟨w.heap.size,3,none⟩) hl2).trans g3
   have x0:=(hb3.frozen (p:=⟨w.heap.size,0,none⟩) hl2).trans y0
   have x1:=(hb3.frozen (p:=⟨w.heap.size,1,none⟩) hl2).trans y1
   have x2:=(hb3.frozen (p:=⟨w.heap.size,2,none⟩) hl2).trans y2
   have x3:=(hb3.frozen (p:=⟨w.heap.size,3,none⟩) hl2).trans y3
   have hl3:w.heap.size < w3.heap.size:=Nat.lt_of_lt_of_le hl2 hb3.size
   have HB3:Hid (Below w.heap.size w w3):=HB2.out.trans (hb3.mono (Nat.le_of_lt hl2))
   clear g0 g1 g2 g3 y0 y1 y2 y3 hb3 cl HGL HGU
   go_wp2_with fail
   refine (HPR.out _).mono ?_
   rintro e w4 ⟨rfl,hb4⟩
   obtain ⟨q0,q1,q2,q3,HB34,hl34⟩:=qbox hb4
   have g0:=(HB34.out.cell (p:=⟨w.heap.size,0,none⟩) hl3).trans r0
   have g1:=(HB34.out.cell (p:=⟨w.heap.size,1,none⟩) hl3).trans r1
   have g2:=(HB34.out.cell (p:=⟨w.heap.size,2,none⟩) hl3).trans r2
   have g3:=(HB34.out.cell (p:=⟨w.heap.size,3,none⟩) hl3).trans r3
   have y0:=(HB34.out.frozen (p:=⟨w.heap.size,0,none⟩) hl3).trans x0
   have y1:=(HB34.out.frozen (p:=⟨w.heap.size,1,none⟩) hl3).trans x1
   have y2:=(HB34.out.frozen (p:=⟨w.heap.size,2,none⟩) hl3).trans x2
   have y3:=(HB34.out.frozen (p:=⟨w.heap.size,3,none⟩) hl3).trans x3
   have HB4:Hid (Below w.heap.size w w4):=HB3.out.trans (HB34.out.mono (Nat.le_of_lt hl3))
   clear r0 r1 r2 r3 x0 x1 x2 x3 hb4 HPR
   by_cases hpe:pe=0
   ·subst hpe
    by_cases hps:ps=s
    ·subst hps
     have HE3:Hid (E=0):=(show E=0 by rw [HE2.out];simp)
     have HQ2:Hid (Q=⟨qs,qt,qn,qc⟩):=(show Q=_ by rw [HQ.out,HE3.out];rfl)
     clear HE2 HQ
     go_wp2_with fail
     exact bodyPost_ret (v:=.tuple #[.agg #[.string qs,.string qt,.string qn,.string qc],.int .i64 0]) (by simp [results,Tryz.results103,go_sem,g0,g1,g2,g3]) rfl ⟨by rw [HE3.out,HQ2.out];try rfl,(((HB4.out.setCell (p:=⟨w.heap.size,0,none⟩) (Nat.le_refl _) _).setCell (p:=⟨w.heap.size,1,none⟩) (Nat.le_refl _) _).setCell (p:=⟨w.heap.size,2,none⟩) (Nat.le_refl _) _).setCell (p:=⟨w.heap.size,3,none⟩) (Nat.le_refl _) _⟩
    ·have HE3:Hid (E=1):=(show E=1 by rw [HE2.out,if_neg (fun h=>hps h.2)])
     have HQ2:Hid (Q=qE):=(show Q=qE by rw [HQ.out,HE3.out];rfl)
     obtain ⟨k1,k2⟩:=beq_name hps
     clear HE2 HQ hps
     go_wp2_with fail
     exact bodyPost_ret (v:=.tuple #[.agg #[.string ⟨#[]⟩,.string ⟨#[]⟩,.string ⟨#[]⟩,.string ⟨#[]⟩],.int .i64 1]) (by simp [results,Tryz.results103,go_sem,g0,g1,g2,g3]) rfl ⟨by rw [HE3.out,HQ2.out];try rfl,(((HB4.out.setCell (p:=⟨w.heap.size,0,none⟩) (Nat.le_refl _) _).setCell (p:=⟨w.heap.size,1,none⟩) (Nat.le_refl _) _).setCell (p:=⟨w.heap.size,2,none⟩) (Nat.le_refl _) _).setCell (p:=⟨w.heap.size,3,none⟩) (Nat.le_refl _) _⟩
   ·have HE3:Hid (E=1):=(show E=1 by rw [HE2.out,if_neg (fun h=>hpe h.1)])
    have HQ2:Hid (Q=qE):=(show Q=qE by rw [HQ.out,HE3.out];rfl)
    have k1:(pe == 0)=false:=by simpa using hpe
    clear HE2 HQ
    go_wp2_with fail
    exact bodyPost_ret (v:=.tuple #[.agg #[.string ⟨#[]⟩,.string ⟨#[]⟩,.string ⟨#[]⟩,.string ⟨#[]⟩],.int .i64 1]) (by simp [results,Tryz.results103,go_sem,g0,g1,g2,g3]) rfl ⟨by rw [HE3.out,HQ2.out];try rfl,(((HB4.out.setCell (p:=⟨w.heap.size,0,none⟩) (Nat.le_refl _) _).setCell (p:=⟨w.heap.size,1,none⟩) (Nat.le_refl _) _).setCell (p:=⟨w.heap.size,2,none⟩) (Nat.le_refl _) _).setCell (p:=⟨w.heap.size,3,none⟩) (Nat.le_refl _) _⟩
  ·have HE2:Hid (E=8):=(show E=_ by rw [HE.out,if_neg hla])
   have HQ2:Hid (Q=qE):=(show Q=qE by rw [HQ.out,HE2.out];rfl)
   obtain ⟨m1,m2⟩:=ne_mesh hla
   clear HE HQ hla
   go_wp2_with fail
   exact bodyPost_ret (v:=.tuple #[.agg #[.string ⟨#[]⟩,.string ⟨#[]⟩,.string ⟨#[]⟩,.string ⟨#[]⟩],.int .i64 8]) (by simp [results,Tryz.results103,go_sem,g0,g1,g2,g3]) rfl ⟨by rw [HE2.out,HQ2.out];rfl,(((HB2.out.setCell (p:=⟨w.heap.size,0,none⟩) (Nat.le_refl _) _).setCell (p:=⟨w.heap.size,1,none⟩) (Nat.le_refl _) _).setCell (p:=⟨w.heap.size,2,none⟩) (Nat.le_refl _) _).setCell (p:=⟨w.heap.size,3,none⟩) (Nat.le_refl _) _⟩
 ·have HE:Hid (prsE s=chkN s):=(show prsE s=_ by unfold prsE;rw [if_neg h0])
  have HQ:Hid (prsQ s=qE):=(show prsQ s=qE by unfold prsQ;rw [if_neg (by rw [HE.out];exact h0)])
  rw [HE.out,HQ.out]
  have h1:(chkN s == 0)=false:=by simpa using h0
  clear HE HQ
  generalize chkN s=r at *
  go_enter Tryz.func103,Tryz.ntmps103
  go_wp2_with fail
  refine (HDC.out _).mono ?_
  rintro e w1 ⟨rfl,hb1⟩
  obtain ⟨f0,f1,f2,f3,HB1,hl1⟩:=qbox hb1
  obtain ⟨_,hfz⟩:=qboxf hb1
  have z0:=hfz 0
  have z1:=hfz 1
  have z2:=hfz 2
  have z3:=hfz 3
  clear hb1 hfz
  go_wp2_with fail
  exact bodyPost_ret (v:=.tuple #[.agg #[.string ⟨#[]⟩,.string ⟨#[]⟩,.string ⟨#[]⟩,.string ⟨#[]⟩],.int .i64 r]) (by simp [results,Tryz.results103,go_sem,f0,f1,f2,f3]) rfl ⟨rfl,(((HB1.out.setCell (p:=⟨w.heap.size,0,none⟩) (Nat.le_refl _) _).setCell (p:=⟨w.heap.size,1,none⟩) (Nat.le_refl _) _).setCell (p:=⟨w.heap.size,2,none⟩) (Nat.le_refl _) _).setCell (p:=⟨w.heap.size,3,none⟩) (Nat.le_refl _) _⟩
theorem prsQ_ok (s:ByteArray):(prsQ s).ok:=by
 unfold prsQ
 by_cases h:prsE s=0
 ·rw [if_pos h]
  have h0:chkN s=0:=by
   by_cases h0:chkN s=0
   ·exact h0
   ·unfold prsE at h;rw [if_neg h0] at h;exact h
  have hl:(lbs s).length≤8:=by rw [lbs_len];exact (chkN_zero h0).2.1
  have hd:(lbs s).dropLast.length=(lbs s).length - 1:=List.length_dropLast
  exact gss_ok (by omega) (fun x hx=>lbs_small h0 x ((List.dropLast_sublist _).subset hx))
 ·rw [if_neg h]
  exact ⟨by decide,by decide,by decide,by decide⟩
end Go.Proofs.YtignmeaeibaejaaGreatDoor
