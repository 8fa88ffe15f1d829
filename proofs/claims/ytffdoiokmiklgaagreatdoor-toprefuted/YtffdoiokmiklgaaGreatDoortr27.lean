import Derived.Test.YtffdoiokmiklgaaGreatDoortr26
import Derived.Test.YtffdoiokmiklgaaGreatDoortr5
import Derived.Test.YtffdoiokmiklgaaGreatDoortr2
import Derived.Test.YtffdoiokmiklgaaGreatDoortr1
import Derived.Deep.RegionHeld2
import Derived.StillTactics
namespace Go.Proofs.YtffdoiokmiklgaaGreatDoor
open Go.RowKit
theorem rdT_in {l r:List UInt8} {s:ByteArray} (h:rdT l=some (s,r)):s.size≤l.length∧r.length < l.length:=by
 unfold rdT at h
 split at h
 case h_2=>simp at h
 rename_i n r' hn
 split at h
 case isFalse=>simp at h
 rename_i hk
 simp only [Option.some.injEq,Prod.mk.injEq] at h
 obtain ⟨rfl,rfl⟩:=h
 have:=(rdN_in hn).2
 rw [bstr_size,List.length_take,List.length_drop]
 omega
theorem rdF_in {l r:List UInt8} {y:Bool} (h:rdF l=some (y,r)):r.length < l.length:=by
 unfold rdF at h
 split at h
 case h_2=>simp at h
 rename_i n r' hn
 have:=(rdN_in hn).2
 split at h
 ·simp only [Option.some.injEq,Prod.mk.injEq] at h
  obtain ⟨_,rfl⟩:=h
  omega
 ·split at h
  ·simp only [Option.some.injEq,Prod.mk.injEq] at h
   obtain ⟨_,rfl⟩:=h
   omega
  ·simp at h
theorem rdP_in {l r:List UInt8} {q:Int × Int × Int × Int × Int} (h:rdP l=some (q,r)):r.length < l.length:=by
 unfold rdP at h
 simp only [Option.bind_eq_some_iff,Option.some.injEq,Prod.mk.injEq] at h
 obtain ⟨⟨x',r1⟩,n1,⟨y',r2⟩,n2,⟨z',r3⟩,n3,⟨u',r4⟩,n4,⟨v',r5⟩,n5,_,rfl⟩:=h
 simp only at n1 n2 n3 n4 n5 ⊢
 have l1:=(rdN_in n1).2
 have l2:=(rdN_in n2).2
 have l3:=(rdN_in n3).2
 have l4:=(rdN_in n4).2
 have l5:=(rdN_in n5).2
 omega
theorem bind_go {α β:Type} {F:Option β} {o:Option α} {f:α→Option β} {x:α} (hF:F=o.bind f) (h:o=some x):F=f x:=by rw [hF,h];rfl
theorem bind_no {α β:Type} {F:Option β} {o:Option α} {f:α→Option β} (hF:F=o.bind f) (h:o=none):F=none:=by rw [hF,h];rfl
def RdP {α:Type} (g:Nat) (w:World) (val:α→Value) (o:Option (α × List UInt8)) (e:Ending) (w':World):Prop:=
 Rp g w w'∧((∃ x r,o=some (x,r)∧e=.returned (val x)∧IsP g r w')∨(o=none∧e=outP 1))
theorem num_b {B g:Nat} {l:List UInt8} {w:World} (hV:Rv B w) (h:IsP g l w) (hs:l.length≤140737488355328) :
 Calls Tryz.prog 168 #[.pointer (some ⟨g,0,none⟩)] w (RdP g w (fun n:Int=>.int .i64 n) (rdN l)):=by
 cases hn:rdN l with
 | some a=>obtain ⟨n,r⟩:=a;exact (num_ok hV h hs hn).mono (fun e w' ⟨h1,h2,h3⟩=>⟨h3,.inl ⟨n,r,rfl,h1,h2⟩⟩)
 | none=>exact (num_no hV h hs hn).mono (fun e w' ⟨h1,h3⟩=>⟨h3,.inr ⟨rfl,h1⟩⟩)
theorem text_b {B g:Nat} {l:List UInt8} {w:World} (hV:Rv B w) (h:IsP g l w) (hs:l.length≤140737488355328) :
 Calls Tryz.prog 164 #[.pointer (some ⟨g,0,none⟩)] w (RdP g w (fun s:ByteArray=>.string s) (rdT l)):=by
 cases hn:rdT l with
 | some a=>obtain ⟨n,r⟩:=a;exact (text_ok hV h hs hn).mono (fun e w' ⟨h1,h2,h3⟩=>⟨h3,.inl ⟨n,r,rfl,h1,h2⟩⟩)
 | none=>exact (text_no hV h hs hn).mono (fun e w' ⟨h1,h3⟩=>⟨h3,.inr ⟨rfl,h1⟩⟩)
theorem flag_b {B g:Nat} {l:List UInt8} {w:World} (hV:Rv B w) (h:IsP g l w) (hs:l.length≤140737488355328) :
 Calls Tryz.prog 165 #[.pointer (some ⟨g,0,none⟩)] w (RdP g w (fun y:Bool=>.bool y) (rdF l)):=by
 cases hn:rdF l with
 | some a=>obtain ⟨n,r⟩:=a;exact (flag_ok hV h hs hn).mono (fun e w' ⟨h1,h2,h3⟩=>⟨h3,.inl ⟨n,r,rfl,h1,h2⟩⟩)
 | none=>exact (flag_no hV h hs hn).mono (fun e w' ⟨h1,h3⟩=>⟨h3,.inr ⟨rfl,h1⟩⟩)
theorem place_b {B g:Nat} {l:List UInt8} {w:World} (hV:Rv B w) (hBg:B≤g) (h:IsP g l w) (hs:l.length≤140737488355328) :
 Calls Tryz.prog 175 #[.pointer (some ⟨g,0,none⟩)] w (RdP g w (fun q:Int × Int × Int × Int × Int=>.agg #[.int .i64 q.1,.int .i64 q.2.1,.int .i64 q.2.2.1,.int .i64 q.2.2.2.1,.int .i64 q.2.2.2.2]) (rdP l)):=by
 cases hn:rdP l with
 | some a=>obtain ⟨⟨x,y,z,u,v⟩,r⟩:=a;exact (place_ok hV hBg h hs hn).mono (fun e w' ⟨h1,h2,h3⟩=>⟨h3,.inl ⟨_,r,rfl,h1,h2⟩⟩)
 | none=>exact (place_no hV hBg h hs hn).mono (fun e w' ⟨h1,h3⟩=>⟨h3,.inr ⟨rfl,h1⟩⟩)
theorem os_set (w:World) (a:Addr) (v:Value):(w.setCell a v).os=w.os:=rfl
theorem tape_set (w:World) (a:Addr) (v:Value):(w.setCell a v).tape=w.tape:=rfl
theorem output_set (w:World) (a:Addr) (v:Value):(w.setCell a v).output=w.output:=rfl
theorem Rp.drew {g:Nat} {w w1:World} (h:Rp g w w1):Rp g w w1.drew:=⟨h.os,h.tape,h.output,h.size,h.block⟩
theorem IsP.drew {g:Nat} {l:List UInt8} {w:World} (h:IsP g l w):IsP g l w.drew:=⟨h.c0,h.hz,h.hg⟩
theorem Rp.block' {g k:Nat} {w w':World} {b:Obj} (h:Rp g w w') (hk:k≠g) (hb:w.heap[k]?=some b):w'.heap[k]?=some b:=(h.block k (Array.getElem?_eq_some_iff.1 hb).1 hk).trans hb
def rdEl (l:List UInt8):Option (Mem × List UInt8):=
 (rdT l).bind fun a0=>(rdN a0.2).bind fun a1=>(rdN a1.2).bind fun a2=>(rdN a2.2).bind fun a3=>(rdF a3.2).bind fun a4=>some (⟨a0.1,a1.1,a2.1,a3.1,a4.1⟩,a4.2)
def Mem.val (m:Mem):Value:=.agg #[.string m.name,.int .i64 m.state,.int .i64 m.life,.int .i64 m.addr,.bool m.server]
theorem rdEl_in {l r:List UInt8} {m:Mem} (h:rdEl l=some (m,r)):(m.name.size≤l.length)∧r.length < l.length:=by
 unfold rdEl at h
 simp only [Option.bind_eq_some_iff,Option.some.injEq,Prod.mk.injEq] at h
 obtain ⟨⟨x0,r1⟩,n0,⟨x1,r2⟩,n1,⟨x2,r3⟩,n2,⟨x3,r4⟩,n3,⟨x4,r5⟩,n4,rfl,rfl⟩:=h
 simp only at n0 n1 n2 n3 n4 ⊢
 have l0:=rdT_in n0
 have l1:=(rdN_in n1).2
 have l2:=(rdN_in n2).2
 have l3:=(rdN_in n3).2
 have l4:=rdF_in n4
 omega
set_option maxHeartbeats 6400000 in
set_option maxRecDepth 100000 in
theorem one_b {B g c:Nat} {l:List UInt8} {w:World} (hV:Rv B w) (hBg:B≤g) (h:IsP g l w) (hs:l.length≤140737488355328) (hc:w.cell? ⟨c,0,none⟩=some (.pointer (some ⟨g,0,none⟩))) (hcg:c≠g) (hcl:c < w.heap.size) :
 Calls Tryz.prog 167 #[.pointer (some ⟨c,0,none⟩)] w (RdP g w Mem.val (rdEl l)):=by
 obtain ⟨F,hF⟩:∃ F,F=rdEl l:=⟨_,rfl⟩
 rw [← hF]
 unfold rdEl at hF
 have HF0:Hid _:=hF
 have HL0:Hid (l.length≤140737488355328):=hs
 obtain ⟨W0,hW0⟩:∃ W0,W0=w.alloc (.cells #[.string ⟨#[]⟩,.int .i64 0,.int .i64 0,.int .i64 0,.bool false] 56):=⟨_,rfl⟩
 have hb0:Below w.heap.size w W0:=by rw [hW0];exact (Below.refl _ _).alloc (Nat.le_refl _) _
 have hg0:W0.heap[w.heap.size]?=some (.cells #[.string ⟨#[]⟩,.int .i64 0,.int .i64 0,.int .i64 0,.bool false] 56 (0,0)):=by rw [hW0];exact heap_alloc_new w _
 have hV0:Rv B W0:=hV.below (hb0.mono hV.le)
 have hgn:w.heap.size≠g:=by have:=h.hg;omega
 have hcn:c≠w.heap.size:=by omega
 have HW0:Hid (Rp g w W0):=Rp.of_below hb0 (Nat.le_refl _)
 have HP0:Hid (IsP g l W0.drew∧Rp g W0 W0.drew):=⟨(h.below hb0).drew,(Rp.refl _ _).drew⟩
 have HRC:Hid (∀ W,Rp g W0 W→W.cell? ⟨c,0,none⟩=some (.pointer (some ⟨g,0,none⟩))):=fun W hW=>by
  have e:=hW.block c (Nat.lt_of_lt_of_le hcl hb0.size) hcg
  have e0:=(hb0.cell (p:=⟨c,0,none⟩) hcl).trans hc
  simp only [World.cell?] at e0 ⊢
  rw [e];exact e0
 have HBX:Hid (∀ W,Rp g W0 W→W.cell? ⟨w.heap.size,0,none⟩=some (.string ⟨#[]⟩)∧W.cell? ⟨w.heap.size,1,none⟩=some (.int .i64 0)∧W.cell? ⟨w.heap.size,2,none⟩=some (.int .i64 0)∧W.cell? ⟨w.heap.size,3,none⟩=some (.int .i64 0)∧W.cell? ⟨w.heap.size,4,none⟩=some (.bool false)∧W.frozen? ⟨w.heap.size,0,none⟩=false∧W.frozen? ⟨w.heap.size,1,none⟩=false∧W.frozen? ⟨w.heap.size,2,none⟩=false∧W.frozen? ⟨w.heap.size,3,none⟩=false∧W.frozen? ⟨w.heap.size,4,none⟩=false):=fun W hW=>by
  have e:=hW.block' hgn hg0
  exact ⟨cellsAt e 0,cellsAt e 1,cellsAt e 2,cellsAt e 3,cellsAt e 4,by simp [World.frozen?,e],by simp [World.frozen?,e],by simp [World.frozen?,e],by simp [World.frozen?,e],by simp [World.frozen?,e]⟩
 have HTX:Hid (∀ (W:World) (m:List UInt8),Rp g W0 W→IsP g m W→m.length≤140737488355328→Calls Tryz.prog 164 #[.pointer (some ⟨g,0,none⟩)] W (RdP g W (fun s:ByteArray=>.string s) (rdT m))):=fun W m hW hm hml=>text_b (hV0.rp hBg hW) hm hml
 have HNX:Hid (∀ (W:World) (m:List UInt8),Rp g W0 W→IsP g m W→m.length≤140737488355328→Calls Tryz.prog 168 #[.pointer (some ⟨g,0,none⟩)] W (RdP g W (fun n:Int=>.int .i64 n) (rdN m))):=fun W m hW hm hml=>num_b (hV0.rp hBg hW) hm hml
 have HFX:Hid (∀ (W:World) (m:List UInt8),Rp g W0 W→IsP g m W→m.length≤140737488355328→Calls Tryz.prog 165 #[.pointer (some ⟨g,0,none⟩)] W (RdP g W (fun y:Bool=>.bool y) (rdF m))):=fun W m hW hm hml=>flag_b (hV0.rp hBg hW) hm hml
 clear hF h hV hb0 hg0 hV0 hBg hs hc hcl
 go_enter Tryz.func167,Tryz.ntmps167
 go_wp2_with fail
 rw [← hW0]
 clear hW0
 refine wp_region_held_drew (S:=fun W=>W.cell? ⟨c,0,none⟩=some (.pointer (some ⟨g,0,none⟩))) (by kernel_rfl) (HRC.out _ HP0.out.2) (fun hHeld=>?_)
 refine wpAnyH_take (i:=0) (v:=.pointer (some ⟨g,0,none⟩)) rfl (by kernel_rfl) (by kernel_rfl) (by kernel_rfl) (fun _ _ _ h=>h) (Or.inl ⟨by rfl,?hy⟩) (by assumption) ?_
 case hy=>(intro W hSw;go_simp;try with_reducible rfl)
 refine wpAnyH_take (i:=2) (v:=.pointer (some ⟨g,0,none⟩)) rfl (by kernel_rfl) (by kernel_rfl) (by kernel_rfl) (fun _ _ _ h=>h) (Or.inl ⟨by rfl,?hy⟩) (by assumption) ?_
 case hy=>(intro W hSw;go_simp;try with_reducible rfl)
 refine wpAnyH_take (i:=4) (v:=.pointer (some ⟨g,0,none⟩)) rfl (by kernel_rfl) (by kernel_rfl) (by kernel_rfl) (fun _ _ _ h=>h) (Or.inl ⟨by rfl,?hy⟩) (by assumption) ?_
 case hy=>(intro W hSw;go_simp;try with_reducible rfl)
 refine wpAnyH_take (i:=6) (v:=.pointer (some ⟨g,0,none⟩)) rfl (by kernel_rfl) (by kernel_rfl) (by kernel_rfl) (fun _ _ _ h=>h) (Or.inl ⟨by rfl,?hy⟩) (by assumption) ?_
 case hy=>(intro W hSw;go_simp;try with_reducible rfl)
 refine wpAnyH_take (i:=8) (v:=.pointer (some ⟨g,0,none⟩)) rfl (by kernel_rfl) (by kernel_rfl) (by kernel_rfl) (fun _ _ _ h=>h) (Or.inl ⟨by rfl,?hy⟩) (by assumption) ?_
 case hy=>(intro W hSw;go_simp;try with_reducible rfl)
 refine wpAnyH_ready (rs:=[1]) (by kernel_rfl) (by simp) ?_
 refine AllReadyH.cons rfl (fun K hK=>?_) AllReadyH.nil
 have HK:Hid _:=hK
 clear hK
 go_simp
 refine (HTX.out _ _ HP0.out.2 HP0.out.1 HL0.out).mono ?_
 rintro e w1 ⟨hr,⟨x0,r1,hn,rfl,hp⟩ | ⟨hn,rfl⟩⟩
 rotate_left
 ·exact ⟨rfl,HW0.out.trans (HP0.out.2.trans hr),.inr ⟨bind_no HF0.out hn,rfl⟩⟩
 have HF1:Hid _:=bind_go HF0.out hn
 have HP1:Hid (IsP g r1 w1∧Rp g W0 w1):=⟨hp,HP0.out.2.trans hr⟩
 have HL1:Hid (r1.length≤140737488355328):=(show _≤_ from Nat.le_trans (Nat.le_of_lt ((rdT_in hn).2)) HL0.out)
 clear hn hp hr HF0 HP0 HL0
 refine HK.out _ _ (HRC.out _ HP1.out.2) (fun hHeld=>?_)
 clear HK K
 refine wpAnyH_ready (rs:=[3]) (by kernel_rfl) (by simp) ?_
 refine AllReadyH.cons rfl (fun K hK=>?_) AllReadyH.nil
 have HK:Hid _:=hK
 clear hK
 go_simp
 refine (HNX.out _ _ HP1.out.2 HP1.out.1 HL1.out).mono ?_
 rintro e w2 ⟨hr,⟨x1,r2,hn,rfl,hp⟩ | ⟨hn,rfl⟩⟩
 rotate_left
 ·exact ⟨rfl,HW0.out.trans (HP1.out.2.trans hr),.inr ⟨bind_no HF1.out hn,rfl⟩⟩
 have HF2:Hid _:=bind_go HF1.out hn
 have HP2:Hid (IsP g r2 w2∧Rp g W0 w2):=⟨hp,HP1.out.2.trans hr⟩
 have HL2:Hid (r2.length≤140737488355328):=(show _≤_ from Nat.le_trans (Nat.le_of_lt ((rdN_in hn).2)) HL1.out)
 clear hn hp hr HF1 HP1 HL1
 refine HK.out _ _ (HRC.out _ HP2.out.2) (fun hHeld=>?_)
 clear HK K
 refine wpAnyH_ready (rs:=[5]) (by kernel_rfl) (by simp) ?_
 refine AllReadyH.cons rfl (fun K hK=>?_) AllReadyH.nil
 have HK:Hid _:=hK
 clear hK
 go_simp
 refine (HNX.out _ _ HP2.out.2 HP2.out.1 HL2.out).mono ?_
 rintro e w3 ⟨hr,⟨x2,r3,hn,rfl,hp⟩ | ⟨hn,rfl⟩⟩
 rotate_left
 ·exact ⟨rfl,HW0.out.trans (HP2.out.2.trans hr),.inr ⟨bind_no HF2.out hn,rfl⟩⟩
 have HF3:Hid _:=bind_go HF2.out hn
 have HP3:Hid (IsP g r3 w3∧Rp g W0 w3):=⟨hp,HP2.out.2.trans hr⟩
 have HL3:Hid (r3.length≤140737488355328):=(show _≤_ from Nat.le_trans (Nat.le_of_lt ((rdN_in hn).2)) HL2.out)
 clear hn hp hr HF2 HP2 HL2
 refine HK.out _ _ (HRC.out _ HP3.out.2) (fun hHeld=>?_)
 clear HK K
 refine wpAnyH_ready (rs:=[7]) (by kernel_rfl) (by simp) ?_
 refine AllReadyH.cons rfl (fun K hK=>?_) AllReadyH.nil
 have HK:Hid _:=hK
 clear hK
 go_simp
 refine (HNX.out _ _ HP3.out.2 HP3.out.1 HL3.out).mono ?_
 rintro e w4 ⟨hr,⟨x3,r4,hn,rfl,hp⟩ | ⟨hn,rfl⟩⟩
 rotate_left
 ·exact ⟨rfl,HW0.out.trans (HP3.out.2.trans hr),.inr ⟨bind_no HF3.out hn,rfl⟩⟩
 have HF4:Hid _:=bind_go HF3.out hn
 have HP4:Hid (IsP g r4 w4∧Rp g W0 w4):=⟨hp,HP3.out.2.trans hr⟩
 have HL4:Hid (r4.length≤140737488355328):=(show _≤_ from Nat.le_trans (Nat.le_of_lt ((rdN_in hn).2)) HL3.out)
 clear hn hp hr HF3 HP3 HL3
 refine HK.out _ _ (HRC.out _ HP4.out.2) (fun hHeld=>?_)
 clear HK K
 refine wpAnyH_ready (rs:=[9]) (by kernel_rfl) (by simp) ?_
 refine AllReadyH.cons rfl (fun K hK=>?_) AllReadyH.nil
 have HK:Hid _:=hK
 clear hK
 go_simp
 refine (HFX.out _ _ HP4.out.2 HP4.out.1 HL4.out).mono ?_
 rintro e w5 ⟨hr,⟨x4,r5,hn,rfl,hp⟩ | ⟨hn,rfl⟩⟩
 rotate_left
 ·exact ⟨rfl,HW0.out.trans (HP4.out.2.trans hr),.inr ⟨bind_no HF4.out hn,rfl⟩⟩
 have HF5:Hid _:=bind_go HF4.out hn
 have HP5:Hid (IsP g r5 w5∧Rp g W0 w5):=⟨hp,HP4.out.2.trans hr⟩
 have HL5:Hid (r5.length≤140737488355328):=(show _≤_ from Nat.le_trans (Nat.le_of_lt (rdF_in hn)) HL4.out)
 clear hn hp hr HF4 HP4 HL4
 refine HK.out _ _ (HRC.out _ HP5.out.2) (fun hHeld=>?_)
 clear HK K
 refine wpAnyH_take (i:=10) (v:=?vb) rfl (by kernel_rfl) (by kernel_rfl) (by kernel_rfl) (fun _ _ _ h=>h) (Or.inl ⟨by rfl,?hy⟩) (by assumption) ?_
 case hy=>(intro W hSw;go_simp;try with_reducible rfl)
 obtain ⟨b0,b1,b2,b3,b4,z0,z1,z2,z3,z4⟩:=HBX.out w5 HP5.out.2
 refine wpAnyH_ready (rs:=[11]) (by kernel_rfl) (by simp) ?_
 refine AllReadyH.cons rfl (fun K hK=>?_) AllReadyH.nil
 have HK:Hid _:=hK
 clear hK
 go_simp
 obtain ⟨wf,hwf⟩:∃ wf,wf=(((((w5.setCell ⟨w.heap.size,0,none⟩ (.string x0)).setCell ⟨w.heap.size,1,none⟩ (.int .i64 x1)).setCell ⟨w.heap.size,2,none⟩ (.int .i64 x2)).setCell ⟨w.heap.size,3,none⟩ (.int .i64 x3)).setCell ⟨w.heap.size,4,none⟩ (.bool x4)):=⟨_,rfl⟩
 have HX:Hid (IsP g r5 wf∧Rp g w wf∧wf.cell? ⟨c,0,none⟩=some (.pointer (some ⟨g,0,none⟩))):=by
  have hk:∀ k,k≠w.heap.size→wf.heap[k]?=w5.heap[k]?:=fun k hk=>by rw [hwf,Below.heap_setCell _ _ _ k hk,Below.heap_setCell _ _ _ k hk,Below.heap_setCell _ _ _ k hk,Below.heap_setCell _ _ _ k hk,Below.heap_setCell _ _ _ k hk]
  have hsz:wf.heap.size=w5.heap.size:=by rw [hwf];simp
  have hgk:=hk g (fun e=>hgn e.symm)
  have hck:=hk c hcn
  have hr:=HW0.out.trans HP5.out.2
  have hos:wf.os=w5.os:=by rw [hwf];simp only [os_set]
  have htp:wf.tape=w5.tape:=by rw [hwf];simp only [tape_set]
  have hot:wf.output=w5.output:=by rw [hwf];simp only [output_set]
  refine ⟨⟨?_,?_,by rw [hsz];exact HP5.out.1.hg⟩,⟨hos.trans hr.os,htp.trans hr.tape,hot.trans hr.output,by rw [hsz];exact hr.size,fun k hk1 hk2=>(hk k (by omega)).trans (hr.block k hk1 hk2)⟩,?_⟩
  ·have:=HP5.out.1.c0
   simp only [World.cell?] at this ⊢
   rw [hgk];exact this
  ·have:=HP5.out.1.hz
   simp only [World.frozen?] at this ⊢
   rw [hgk];exact this
  ·have:=HRC.out _ HP5.out.2
   simp only [World.cell?] at this ⊢
   rw [hck];exact this
 have f0:wf.cell? ⟨w.heap.size,0,none⟩=some (.string x0):=by rw [hwf];simp [go_sem,b0]
 have f1:wf.cell? ⟨w.heap.size,1,none⟩=some (.int .i64 x1):=by rw [hwf];simp [go_sem,b1]
 have f2:wf.cell? ⟨w.heap.size,2,none⟩=some (.int .i64 x2):=by rw [hwf];simp [go_sem,b2]
 have f3:wf.cell? ⟨w.heap.size,3,none⟩=some (.int .i64 x3):=by rw [hwf];simp [go_sem,b3]
 have f4:wf.cell? ⟨w.heap.size,4,none⟩=some (.bool x4):=by rw [hwf];simp [go_sem,b4]
 rw [← hwf]
 clear hwf z0 b0 z1 b1 z2 b2 z3 b3 z4 b4 HRC HBX HFX HNX HTX
 have hcf:=HX.out.2.2
 refine HK.out _ _ hcf (fun hHeld=>?_)
 clear HK K
 refine wpAnyH_done (by kernel_rfl) ?_ _
 clear hHeld
 go_wp2_with fail
 simp [bodyPost,results,Tryz.results167,go_sem,f0,f1,f2,f3,f4]
 exact ⟨HX.out.2.1,.inl ⟨_,_,HF5.out,rfl,HX.out.1⟩⟩
namespace Sv
def rdEl (l:List UInt8):Option (Svc × List UInt8):=
 (rdT l).bind fun a0=>(rdT a0.2).bind fun a1=>(rdT a1.2).bind fun a2=>(rdT a2.2).bind fun a3=>(rdN a3.2).bind fun a4=>(rdN a4.2).bind fun a5=>(rdF a5.2).bind fun a6=>(rdN a6.2).bind fun a7=>(rdF a7.2).bind fun a8=>some (⟨a0.1,a1.1,a2.1,a3.1,a4.1,a5.1,a6.1,a7.1,a8.1⟩,a8.2)
def Svc.val (m:Svc):Value:=.agg #[.string m.node,.string m.idn,.string m.name,.string m.tag,.int .i64 m.addr,.int .i64 m.port,.bool m.passing,.int .i64 m.version,.bool m.gone]
theorem rdEl_in {l r:List UInt8} {m:Svc} (h:rdEl l=some (m,r)):(m.node.size≤l.length∧m.idn.size≤l.length∧m.name.size≤l.length∧m.tag.size≤l.length)∧r.length < l.length:=by
 unfold rdEl at h
 simp only [Option.bind_eq_some_iff,Option.some.injEq,Prod.mk.injEq] at h
 obtain ⟨⟨x0,r1⟩,n0,⟨x1,r2⟩,n1,⟨x2,r3⟩,n2,⟨x3,r4⟩,n3,⟨x4,r5⟩,n4,⟨x5,r6⟩,n5,⟨x6,r7⟩,n6,⟨x7,r8⟩,n7,⟨x8,r9⟩,n8,rfl,rfl⟩:=h
 simp only at n0 n1 n2 n3 n4 n5 n6 n7 n8 ⊢
 have l0:=rdT_in n0
 have l1:=rdT_in n1
 have l2:=rdT_in n2
 have l3:=rdT_in n3
 have l4:=(rdN_in n4).2
 have l5:=(rdN_in n5).2
 have l6:=rdF_in n6
 have l7:=(rdN_in n7).2
 have l8:=rdF_in n8
 omega
set_option maxHeartbeats 6400000 in
set_option maxRecDepth 100000 in
theorem one_b {B g c:Nat} {l:List UInt8} {w:World} (hV:Rv B w) (hBg:B≤g) (h:IsP g l w) (hs:l.length≤140737488355328) (hc:w.cell? ⟨c,0,none⟩=some (.pointer (some ⟨g,0,none⟩))) (hcg:c≠g) (hcl:c < w.heap.size) :
 Calls Tryz.prog 170 #[.pointer (some ⟨c,0,none⟩)] w (RdP g w Svc.val (rdEl l)):=by
 obtain ⟨F,hF⟩:∃ F,F=rdEl l:=⟨_,rfl⟩
 rw [← hF]
 unfold rdEl at hF
 have HF0:Hid _:=hF
 have HL0:Hid (l.length≤140737488355328):=hs
 obtain ⟨W0,hW0⟩:∃ W0,W0=w.alloc (.cells #[.string ⟨#[]⟩,.string ⟨#[]⟩,.string ⟨#[]⟩,.string ⟨#[]⟩,.int .i64 0,.int .i64 0,.bool false,.int .i64 0,.bool false] 42):=⟨_,rfl⟩
 have hb0:Below w.heap.size w W0:=by rw [hW0];exact (Below.refl _ _).alloc (Nat.le_refl _) _
 have hg0:W0.heap[w.heap.size]?=some (.cells #[.string ⟨#[]⟩,.string ⟨#[]⟩,.string ⟨#[]⟩,.string ⟨#[]⟩,.int .i64 0,.int .i64 0,.bool false,.int .i64 0,.bool false] 42 (0,0)):=by rw [hW0];exact heap_alloc_new w _
 have hV0:Rv B W0:=hV.below (hb0.mono hV.le)
 have hgn:w.heap.size≠g:=by have:=h.hg;omega
 have hcn:c≠w.heap.size:=by omega
 have HW0:Hid (Rp g w W0):=Rp.of_below hb0 (Nat.le_refl _)
 have HP0:Hid (IsP g l W0.drew∧Rp g W0 W0.drew):=⟨(h.below hb0).drew,(Rp.refl _ _).drew⟩
 have HRC:Hid (∀ W,Rp g W0 W→W.cell? ⟨c,0,none⟩=some (.pointer (some ⟨g,0,none⟩))):=fun W hW=>by
  have e:=hW.block c (Nat.lt_of_lt_of_le hcl hb0.size) hcg
  have e0:=(hb0.cell (p:=⟨c,0,none⟩) hcl).trans hc
  simp only [World.cell?] at e0 ⊢
  rw [e];exact e0
 have HBX:Hid (∀ W,Rp g W0 W→W.cell? ⟨w.heap.size,0,none⟩=some (.string ⟨#[]⟩)∧W.cell? ⟨w.heap.size,1,none⟩=some (.string ⟨#[]⟩)∧W.cell? ⟨w.heap.size,2,none⟩=some (.string ⟨#[]⟩)∧W.cell? ⟨w.heap.size,3,none⟩=some (.string ⟨#[]⟩)∧W.cell? ⟨w.heap.size,4,none⟩=some (.int .i64 0)∧W.cell? ⟨w.heap.size,5,none⟩=some (.int .i64 0)∧W.cell? ⟨w.heap.size,6,none⟩=some (.bool false)∧W.cell? ⟨w.heap.size,7,none⟩=some (.int .i64 0)∧W.cell? ⟨w.heap.size,8,none⟩=some (.bool false)∧W.frozen? ⟨w.heap.size,0,none⟩=false∧W.frozen? ⟨w.heap.size,1,none⟩=false∧W.frozen? ⟨w.heap.size,2,none⟩=false∧W.frozen? ⟨w.heap.size,3,none⟩=false∧W.frozen? ⟨w.heap.size,4,none⟩=false∧W.frozen? ⟨w.heap.size,5,none⟩=false∧W.frozen? ⟨w.heap.size,6,none⟩=false∧W.frozen? ⟨w.heap.size,7,none⟩=false∧W.frozen? ⟨w.heap.size,8,none⟩=false):=fun W hW=>by
  have e:=hW.block' hgn hg0
  exact ⟨cellsAt e 0,cellsAt e 1,cellsAt e 2,cellsAt e 3,cellsAt e 4,cellsAt e 5,cellsAt e 6,cellsAt e 7,cellsAt e 8,by simp [World.frozen?,e],by simp [World.frozen?,e],by simp [World.frozen?,e],by simp [World.frozen?,e],by simp [World.frozen?,e],by simp [World.frozen?,e],by simp [World.frozen?,e],by simp [World.frozen?,e],by simp [World.frozen?,e]⟩
 have HTX:Hid (∀ (W:World) (m:List UInt8),Rp g W0 W→IsP g m W→m.length≤140737488355328→Calls Tryz.prog 164 #[.pointer (some ⟨g,0,none⟩)] W (RdP g W (fun s:ByteArray=>.string s) (rdT m))):=fun W m hW hm hml=>text_b (hV0.rp hBg hW) hm hml
 have HNX:Hid (∀ (W:World) (m:List UInt8),Rp g W0 W→IsP g m W→m.length≤140737488355328→Calls Tryz.prog 168 #[.pointer (some ⟨g,0,none⟩)] W (RdP g W (fun n:Int=>.int .i64 n) (rdN m))):=fun W m hW hm hml=>num_b (hV0.rp hBg hW) hm hml
 have HFX:Hid (∀ (W:World) (m:List UInt8),Rp g W0 W→IsP g m W→m.length≤140737488355328→Calls Tryz.prog 165 #[.pointer (some ⟨g,0,none⟩)] W (RdP g W (fun y:Bool=>.bool y) (rdF m))):=fun W m hW hm hml=>flag_b (hV0.rp hBg hW) hm hml
 clear hF h hV hb0 hg0 hV0 hBg hs hc hcl
 go_enter Tryz.func170,Tryz.ntmps170
 go_wp2_with fail
 rw [← hW0]
 clear hW0
 refine wp_region_held_drew (S:=fun W=>W.cell? ⟨c,0,none⟩=some (.pointer (some ⟨g,0,none⟩))) (by kernel_rfl) (HRC.out _ HP0.out.2) (fun hHeld=>?_)
 refine wpAnyH_take (i:=0) (v:=.pointer (some ⟨g,0,none⟩)) rfl (by kernel_rfl) (by kernel_rfl) (by kernel_rfl) (fun _ _ _ h=>h) (Or.inl ⟨by rfl,?hy⟩) (by assumption) ?_
 case hy=>(intro W hSw;go_simp;try with_reducible rfl)
 refine wpAnyH_take (i:=2) (v:=.pointer (some ⟨g,0,none⟩)) rfl (by kernel_rfl) (by kernel_rfl) (by kernel_rfl) (fun _ _ _ h=>h) (Or.inl ⟨by rfl,?hy⟩) (by assumption) ?_
 case hy=>(intro W hSw;go_simp;try with_reducible rfl)
 refine wpAnyH_take (i:=4) (v:=.pointer (some ⟨g,0,none⟩)) rfl (by kernel_rfl) (by kernel_rfl) (by kernel_rfl) (fun _ _ _ h=>h) (Or.inl ⟨by rfl,?hy⟩) (by assumption) ?_
 case hy=>(intro W hSw;go_simp;try with_reducible rfl)
 refine wpAnyH_take (i:=6) (v:=.pointer (some ⟨g,0,none⟩)) rfl (by kernel_rfl) (by kernel_rfl) (by kernel_rfl) (fun _ _ _ h=>h) (Or.inl ⟨by rfl,?hy⟩) (by assumption) ?_
 case hy=>(intro W hSw;go_simp;try with_reducible rfl)
 refine wpAnyH_take (i:=8) (v:=.pointer (some ⟨g,0,none⟩)) rfl (by kernel_rfl) (by kernel_rfl) (by kernel_rfl) (fun _ _ _ h=>h) (Or.inl ⟨by rfl,?hy⟩) (by assumption) ?_
 case hy=>(intro W hSw;go_simp;try with_reducible rfl)
 refine wpAnyH_take (i:=10) (v:=.pointer (some ⟨g,0,none⟩)) rfl (by kernel_rfl) (by kernel_rfl) (by kernel_rfl) (fun _ _ _ h=>h) (Or.inl ⟨by rfl,?hy⟩) (by assumption) ?_
 case hy=>(intro W hSw;go_simp;try with_reducible rfl)
 refine wpAnyH_take (i:=12) (v:=.pointer (some ⟨g,0,none⟩)) rfl (by kernel_rfl) (by kernel_rfl) (by kernel_rfl) (fun _ _ _ h=>h) (Or.inl ⟨by rfl,?hy⟩) (by assumption) ?_
 case hy=>(intro W hSw;go_simp;try with_reducible rfl)
 refine wpAnyH_take (i:=14) (v:=.pointer (some ⟨g,0,none⟩)) rfl (by kernel_rfl) (by kernel_rfl) (by kernel_rfl) (fun _ _ _ h=>h) (Or.inl ⟨by rfl,?hy⟩) (by assumption) ?_
 case hy=>(intro W hSw;go_simp;try with_reducible rfl)
 refine wpAnyH_take (i:=16) (v:=.pointer (some ⟨g,0,none⟩)) rfl (by kernel_rfl) (by kernel_rfl) (by kernel_rfl) (fun _ _ _ h=>h) (Or.inl ⟨by rfl,?hy⟩) (by assumption) ?_
 case hy=>(intro W hSw;go_simp;try with_reducible rfl)
 refine wpAnyH_ready (rs:=[1]) (by kernel_rfl) (by simp) ?_
 refine AllReadyH.cons rfl (fun K hK=>?_) AllReadyH.nil
 have HK:Hid _:=hK
 clear hK
 go_simp
 refine (HTX.out _ _ HP0.out.2 HP0.out.1 HL0.out).mono ?_
 rintro e w1 ⟨hr,⟨x0,r1,hn,rfl,hp⟩ | ⟨hn,rfl⟩⟩
 rotate_left
 ·exact ⟨rfl,HW0.out.trans (HP0.out.2.trans hr),.inr ⟨bind_no HF0.out hn,rfl⟩⟩
 have HF1:Hid _:=bind_go HF0.out hn
 have HP1:Hid (IsP g r1 w1∧Rp g W0 w1):=⟨hp,HP0.out.2.trans hr⟩
 have HL1:Hid (r1.length≤140737488355328):=(show _≤_ from Nat.le_trans (Nat.le_of_lt ((rdT_in hn).2)) HL0.out)
 clear hn hp hr HF0 HP0 HL0
 refine HK.out _ _ (HRC.out _ HP1.out.2) (fun hHeld=>?_)
 clear HK K
 refine wpAnyH_ready (rs:=[3]) (by kernel_rfl) (by simp) ?_
 refine AllReadyH.cons rfl (fun K hK=>?_) AllReadyH.nil
 have HK:Hid _:=hK
 clear hK
 go_simp
 refine (HTX.out _ _ HP1.out.2 HP1.out.1 HL1.out).mono ?_
 rintro e w2 ⟨hr,⟨x1,r2,hn,rfl,hp⟩ | ⟨hn,rfl⟩⟩
 rotate_left
 ·exact ⟨rfl,HW0.out.trans (HP1.out.2.trans hr),.inr ⟨bind_no HF1.out hn,rfl⟩⟩
 have HF2:Hid _:=bind_go HF1.out hn
 have HP2:Hid (IsP g r2 w2∧Rp g W0 w2):=⟨hp,HP1.out.2.trans hr⟩
 have HL2:Hid (r2.length≤140737488355328):=(show _≤_ from Nat.le_trans (Nat.le_of_lt ((rdT_in hn).2)) HL1.out)
 clear hn hp hr HF1 HP1 HL1
 refine HK.out _ _ (HRC.out _ HP2.out.2) (fun hHeld=>?_)
 clear HK K
 refine wpAnyH_ready (rs:=[5]) (by kernel_rfl) (by simp) ?_
 refine AllReadyH.cons rfl (fun K hK=>?_) AllReadyH.nil
 have HK:Hid _:=hK
 clear hK
 go_simp
 refine (HTX.out _ _ HP2.out.2 HP2.out.1 HL2.out).mono ?_
 rintro e w3 ⟨hr,⟨x2,r3,hn,rfl,hp⟩ | ⟨hn,rfl⟩⟩
 rotate_left
 ·exact ⟨rfl,HW0.out.trans (HP2.out.2.trans hr),.inr ⟨bind_no HF2.out hn,rfl⟩⟩
 have HF3:Hid _:=bind_go HF2.out hn
 have HP3:Hid (IsP g r3 w3∧Rp g W0 w3):=⟨hp,HP2.out.2.trans hr⟩
 have HL3:Hid (r3.length≤140737488355328):=(show _≤_ from Nat.le_trans (Nat.le_of_lt ((rdT_in hn).2)) HL2.out)
 clear hn hp hr HF2 HP2 HL2
 refine HK.out _ _ (HRC.out _ HP3.out.2) (fun hHeld=>?_)
 clear HK K
 refine wpAnyH_ready (rs:=[7]) (by kernel_rfl) (by simp) ?_
 refine AllReadyH.cons rfl (fun K hK=>?_) AllReadyH.nil
 have HK:Hid _:=hK
 clear hK
 go_simp
 refine (HTX.out _ _ HP3.out.2 HP3.out.1 HL3.out).mono ?_
 rintro e w4 ⟨hr,⟨x3,r4,hn,rfl,hp⟩ | ⟨hn,rfl⟩⟩
 rotate_left
 ·exact ⟨rfl,HW0.out.trans (HP3.out.2.trans hr),.inr ⟨bind_no HF3.out hn,rfl⟩⟩
 have HF4:Hid _:=bind_go HF3.out hn
 have HP4:Hid (IsP g r4 w4∧Rp g W0 w4):=⟨hp,HP3.out.2.trans hr⟩
 have HL4:Hid (r4.length≤140737488355328):=(show _≤_ from Nat.le_trans (Nat.le_of_lt ((rdT_in hn).2)) HL3.out)
 clear hn hp hr HF3 HP3 HL3
 refine HK.out _ _ (HRC.out _ HP4.out.2) (fun hHeld=>?_)
 clear HK K
 refine wpAnyH_ready (rs:=[9]) (by kernel_rfl) (by simp) ?_
 refine AllReadyH.cons rfl (fun K hK=>?_) AllReadyH.nil
 have HK:Hid _:=hK
 clear hK
 go_simp
 refine (HNX.out _ _ HP4.out.2 HP4.out.1 HL4.out).mono ?_
 rintro e w5 ⟨hr,⟨x4,r5,hn,rfl,hp⟩ | ⟨hn,rfl⟩⟩
 rotate_left
 ·exact ⟨rfl,HW0.out.trans (HP4.out.2.trans hr),.inr ⟨bind_no HF4.out hn,rfl⟩⟩
 have HF5:Hid _:=bind_go HF4.out hn
 have HP5:Hid (IsP g r5 w5∧Rp g W0 w5):=⟨hp,HP4.out.2.trans hr⟩
 have HL5:Hid (r5.length≤140737488355328):=(show _≤_ from Nat.le_trans (Nat.le_of_lt ((rdN_in hn).2)) HL4.out)
 clear hn hp hr HF4 HP4 HL4
 refine HK.out _ _ (HRC.out _ HP5.out.2) (fun hHeld=>?_)
 clear HK K
 refine wpAnyH_ready (rs:=[11]) (by kernel_rfl) (by simp) ?_
 refine AllReadyH.cons rfl (fun K hK=>?_) AllReadyH.nil
 have HK:Hid _:=hK
 clear hK
 go_simp
 refine (HNX.out _ _ HP5.out.2 HP5.out.1 HL5.out).mono ?_
 rintro e w6 ⟨hr,⟨x5,r6,hn,rfl,hp⟩ | ⟨hn,rfl⟩⟩
 rotate_left
 ·exact ⟨rfl,HW0.out.trans (HP5.out.2.trans hr),.inr ⟨bind_no HF5.out hn,rfl⟩⟩
 have HF6:Hid _:=bind_go HF5.out hn
 have HP6:Hid (IsP g r6 w6∧Rp g W0 w6):=⟨hp,HP5.out.2.trans hr⟩
 have HL6:Hid (r6.length≤140737488355328):=(show _≤_ from Nat.le_trans (Nat.le_of_lt ((rdN_in hn).2)) HL5.out)
 clear hn hp hr HF5 HP5 HL5
 refine HK.out _ _ (HRC.out _ HP6.out.2) (fun hHeld=>?_)
 clear HK K
 refine wpAnyH_ready (rs:=[13]) (by kernel_rfl) (by simp) ?_
 refine AllReadyH.cons rfl (fun K hK=>?_) AllReadyH.nil
 have HK:Hid _:=hK
 clear hK
 go_simp
 refine (HFX.out _ _ HP6.out.2 HP6.out.1 HL6.out).mono ?_
 rintro e w7 ⟨hr,⟨x6,r7,hn,rfl,hp⟩ | ⟨hn,rfl⟩⟩
 rotate_left
 ·exact ⟨rfl,HW0.out.trans (HP6.out.2.trans hr),.inr ⟨bind_no HF6.out hn,rfl⟩⟩
 have HF7:Hid _:=bind_go HF6.out hn
 have HP7:Hid (IsP g r7 w7∧Rp g W0 w7):=⟨hp,HP6.out.2.trans hr⟩
 have HL7:Hid (r7.length≤140737488355328):=(show _≤_ from Nat.le_trans (Nat.le_of_lt (rdF_in hn)) HL6.out)
 clear hn hp hr HF6 HP6 HL6
 refine HK.out _ _ (HRC.out _ HP7.out.2) (fun hHeld=>?_)
 clear HK K
 refine wpAnyH_ready (rs:=[15]) (by kernel_rfl) (by simp) ?_
 refine AllReadyH.cons rfl (fun K hK=>?_) AllReadyH.nil
 have HK:Hid _:=hK
 clear hK
 go_simp
 refine (HNX.out _ _ HP7.out.2 HP7.out.1 HL7.out).mono ?_
 rintro e w8 ⟨hr,⟨x7,r8,hn,rfl,hp⟩ | ⟨hn,rfl⟩⟩
 rotate_left
 ·exact ⟨rfl,HW0.out.trans (HP7.out.2.trans hr),.inr ⟨bind_no HF7.out hn,rfl⟩⟩
 have HF8:Hid _:=bind_go HF7.out hn
 have HP8:Hid (IsP g r8 w8∧Rp g W0 w8):=⟨hp,HP7.out.2.trans hr⟩
 have HL8:Hid (r8.length≤140737488355328):=(show _≤_ from Nat.le_trans (Nat.le_of_lt ((rdN_in hn).2)) HL7.out)
 clear hn hp hr HF7 HP7 HL7
 refine HK.out _ _ (HRC.out _ HP8.out.2) (fun hHeld=>?_)
 clear HK K
 refine wpAnyH_ready (rs:=[17]) (by kernel_rfl) (by simp) ?_
 refine AllReadyH.cons rfl (fun K hK=>?_) AllReadyH.nil
 have HK:Hid _:=hK
 clear hK
 go_simp
 refine (HFX.out _ _ HP8.out.2 HP8.out.1 HL8.out).mono ?_
 rintro e w9 ⟨hr,⟨x8,r9,hn,rfl,hp⟩ | ⟨hn,rfl⟩⟩
 rotate_left
 ·exact ⟨rfl,HW0.out.trans (HP8.out.2.trans hr),.inr ⟨bind_no HF8.out hn,rfl⟩⟩
 have HF9:Hid _:=bind_go HF8.out hn
 have HP9:Hid (IsP g r9 w9∧Rp g W0 w9):=⟨hp,HP8.out.2.trans hr⟩
 have HL9:Hid (r9.length≤140737488355328):=(show _≤_ from Nat.le_trans (Nat.le_of_lt (rdF_in hn)) HL8.out)
 clear hn hp hr HF8 HP8 HL8
 refine HK.out _ _ (HRC.out _ HP9.out.2) (fun hHeld=>?_)
 clear HK K
 refine wpAnyH_take (i:=18) (v:=?vb) rfl (by kernel_rfl) (by kernel_rfl) (by kernel_rfl) (fun _ _ _ h=>h) (Or.inl ⟨by rfl,?hy⟩) (by assumption) ?_
 case hy=>(intro W hSw;go_simp;try with_reducible rfl)
 obtain ⟨b0,b1,b2,b3,b4,b5,b6,b7,b8,z0,z1,z2,z3,z4,z5,z6,z7,z8⟩:=HBX.out w9 HP9.out.2
 refine wpAnyH_ready (rs:=[19]) (by kernel_rfl) (by simp) ?_
 refine AllReadyH.cons rfl (fun K hK=>?_) AllReadyH.nil
 have HK:Hid _:=hK
 clear hK
 go_simp
 obtain ⟨wf,hwf⟩:∃ wf,wf=(((((((((w9.setCell ⟨w.heap.size,0,none⟩ (.string x0)).setCell ⟨w.heap.size,1,none⟩ (.string x1)).setCell ⟨w.heap.size,2,none⟩ (.string x2)).setCell ⟨w.heap.size,3,none⟩ (.string x3)).setCell ⟨w.heap.size,4,none⟩ (.int .i64 x4)).setCell ⟨w.heap.size,5,none⟩ (.int .i64 x5)).setCell ⟨w.heap.size,6,none⟩ (.bool x6)).setCell ⟨w.heap.size,7,none⟩ (.int .i64 x7)).setCell ⟨w.heap.size,8,none⟩ (.bool x8)):=⟨_,rfl⟩
 have HX:Hid (IsP g r9 wf∧Rp g w wf∧wf.cell? ⟨c,0,none⟩=some (.pointer (some ⟨g,0,none⟩))):=by
  have hk:∀ k,k≠w.heap.size→wf.heap[k]?=w9.heap[k]?:=fun k hk=>by rw [hwf,Below.heap_setCell _ _ _ k hk,Below.heap_setCell _ _ _ k hk,Below.heap_setCell _ _ _ k hk,Below.heap_setCell _ _ _ k hk,Below.heap_setCell _ _ _ k hk,Below.heap_setCell _ _ _ k hk,Below.heap_setCell _ _ _ k hk,Below.heap_setCell _ _ _ k hk,Below.heap_setCell _ _ _ k hk]
  have hsz:wf.heap.size=w9.heap.size:=by rw [hwf];simp
  have hgk:=hk g (fun e=>hgn e.symm)
  have hck:=hk c hcn
  have hr:=HW0.out.trans HP9.out.2
  have hos:wf.os=w9.os:=by rw [hwf];simp only [os_set]
  have htp:wf.tape=w9.tape:=by rw [hwf];simp only [tape_set]
  have hot:wf.output=w9.output:=by rw [hwf];simp only [output_set]
  refine ⟨⟨?_,?_,by rw [hsz];exact HP9.out.1.hg⟩,⟨hos.trans hr.os,htp.trans hr.tape,hot.trans hr.output,by rw [hsz];exact hr.size,fun k hk1 hk2=>(hk k (by omega)).trans (hr.block k hk1 hk2)⟩,?_⟩
  ·have:=HP9.out.1.c0
   simp only [World.cell?] at this ⊢
   rw [hgk];exact this
  ·have:=HP9.out.1.hz
   simp only [World.frozen?] at this ⊢
   rw [hgk];exact this
  ·have:=HRC.out _ HP9.out.2
   simp only [World.cell?] at this ⊢
   rw [hck];exact this
 have f0:wf.cell? ⟨w.heap.size,0,none⟩=some (.string x0):=by rw [hwf];simp [go_sem,b0]
 have f1:wf.cell? ⟨w.heap.size,1,none⟩=some (.string x1):=by rw [hwf];simp [go_sem,b1]
 have f2:wf.cell? ⟨w.heap.size,2,none⟩=some (.string x2):=by rw [hwf];simp [go_sem,b2]
 have f3:wf.cell? ⟨w.heap.size,3,none⟩=some (.string x3):=by rw [hwf];simp [go_sem,b3]
 have f4:wf.cell? ⟨w.heap.size,4,none⟩=some (.int .i64 x4):=by rw [hwf];simp [go_sem,b4]
 have f5:wf.cell? ⟨w.heap.size,5,none⟩=some (.int .i64 x5):=by rw [hwf];simp [go_sem,b5]
 have f6:wf.cell? ⟨w.heap.size,6,none⟩=some (.bool x6):=by rw [hwf];simp [go_sem,b6]
 have f7:wf.cell? ⟨w.heap.size,7,none⟩=some (.int .i64 x7):=by rw [hwf];simp [go_sem,b7]
 have f8:wf.cell? ⟨w.heap.size,8,none⟩=some (.bool x8):=by rw [hwf];simp [go_sem,b8]
 rw [← hwf]
 clear hwf z0 b0 z1 b1 z2 b2 z3 b3 z4 b4 z5 b5 z6 b6 z7 b7 z8 b8 HRC HBX HFX HNX HTX
 have hcf:=HX.out.2.2
 refine HK.out _ _ hcf (fun hHeld=>?_)
 clear HK K
 refine wpAnyH_done (by kernel_rfl) ?_ _
 clear hHeld
 go_wp2_with fail
 simp [bodyPost,results,Tryz.results170,go_sem,f0,f1,f2,f3,f4,f5,f6,f7,f8]
 exact ⟨HX.out.2.1,.inl ⟨_,_,HF9.out,rfl,HX.out.1⟩⟩
end Sv
namespace Gw
def rdEl (l:List UInt8):Option (Gwy × List UInt8):=
 (rdT l).bind fun a0=>(rdN a0.2).bind fun a1=>(rdN a1.2).bind fun a2=>some (⟨a0.1,a1.1,a2.1⟩,a2.2)
def Gwy.val (m:Gwy):Value:=.agg #[.string m.centre,.int .i64 m.addr,.int .i64 m.version]
theorem rdEl_in {l r:List UInt8} {m:Gwy} (h:rdEl l=some (m,r)):(m.centre.size≤l.length)∧r.length < l.length:=by
 unfold rdEl at h
 simp only [Option.bind_eq_some_iff,Option.some.injEq,Prod.mk.injEq] at h
 obtain ⟨⟨x0,r1⟩,n0,⟨x1,r2⟩,n1,⟨x2,r3⟩,n2,rfl,rfl⟩:=h
 simp only at n0 n1 n2 ⊢
 have l0:=rdT_in n0
 have l1:=(rdN_in n1).2
 have l2:=(rdN_in n2).2
 omega
set_option maxHeartbeats 6400000 in
set_option maxRecDepth 100000 in
theorem one_b {B g c:Nat} {l:List UInt8} {w:World} (hV:Rv B w) (hBg:B≤g) (h:IsP g l w) (hs:l.length≤140737488355328) (hc:w.cell? ⟨c,0,none⟩=some (.pointer (some ⟨g,0,none⟩))) (hcg:c≠g) (hcl:c < w.heap.size) :
 Calls Tryz.prog 172 #[.pointer (some ⟨c,0,none⟩)] w (RdP g w Gwy.val (rdEl l)):=by
 obtain ⟨F,hF⟩:∃ F,F=rdEl l:=⟨_,rfl⟩
 rw [← hF]
 unfold rdEl at hF
 have HF0:Hid _:=hF
 have HL0:Hid (l.length≤140737488355328):=hs
 obtain ⟨W0,hW0⟩:∃ W0,W0=w.alloc (.cells #[.string ⟨#[]⟩,.int .i64 0,.int .i64 0] 107):=⟨_,rfl⟩
 have hb0:Below w.heap.size w W0:=by rw [hW0];exact (Below.refl _ _).alloc (Nat.le_refl _) _
 have hg0:W0.heap[w.heap.size]?=some (.cells #[.string ⟨#[]⟩,.int .i64 0,.int .i64 0] 107 (0,0)):=by rw [hW0];exact heap_alloc_new w _
 have hV0:Rv B W0:=hV.below (hb0.mono hV.le)
 have hgn:w.heap.size≠g:=by have:=h.hg;omega
 have hcn:c≠w.heap.size:=by omega
 have HW0:Hid (Rp g w W0):=Rp.of_below hb0 (Nat.le_refl _)
 have HP0:Hid (IsP g l W0.drew∧Rp g W0 W0.drew):=⟨(h.below hb0).drew,(Rp.refl _ _).drew⟩
 have HRC:Hid (∀ W,Rp g W0 W→W.cell? ⟨c,0,none⟩=some (.pointer (some ⟨g,0,none⟩))):=fun W hW=>by
  have e:=hW.block c (Nat.lt_of_lt_of_le hcl hb0.size) hcg
  have e0:=(hb0.cell (p:=⟨c,0,none⟩) hcl).trans hc
  simp only [World.cell?] at e0 ⊢
  rw [e];exact e0
 have HBX:Hid (∀ W,Rp g W0 W→W.cell? ⟨w.heap.size,0,none⟩=some (.string ⟨#[]⟩)∧W.cell? ⟨w.heap.size,1,none⟩=some (.int .i64 0)∧W.cell? ⟨w.heap.size,2,none⟩=some (.int .i64 0)∧W.frozen? ⟨w.heap.size,0,none⟩=false∧W.frozen? ⟨w.heap.size,1,none⟩=false∧W.frozen? ⟨w.heap.size,2,none⟩=false):=fun W hW=>by
  have e:=hW.block' hgn hg0
  exact ⟨cellsAt e 0,cellsAt e 1,cellsAt e 2,by simp [World.frozen?,e],by simp [World.frozen?,e],by simp [World.frozen?,e]⟩
 have HTX:Hid (∀ (W:World) (m:List UInt8),Rp g W0 W→IsP g m W→m.length≤140737488355328→Calls Tryz.prog 164 #[.pointer (some ⟨g,0,none⟩)] W (RdP g W (fun s:ByteArray=>.string s) (rdT m))):=fun W m hW hm hml=>text_b (hV0.rp hBg hW) hm hml
 have HNX:Hid (∀ (W:World) (m:List UInt8),Rp g W0 W→IsP g m W→m.length≤140737488355328→Calls Tryz.prog 168 #[.pointer (some ⟨g,0,none⟩)] W (RdP g W (fun n:Int=>.int .i64 n) (rdN m))):=fun W m hW hm hml=>num_b (hV0.rp hBg hW) hm hml
 clear hF h hV hb0 hg0 hV0 hBg hs hc hcl
 go_enter Tryz.func172,Tryz.ntmps172
 go_wp2_with fail
 rw [← hW0]
 clear hW0
 refine wp_region_held_drew (S:=fun W=>W.cell? ⟨c,0,none⟩=some (.pointer (some ⟨g,0,none⟩))) (by kernel_rfl) (HRC.out _ HP0.out.2) (fun hHeld=>?_)
 refine wpAnyH_take (i:=0) (v:=.pointer (some ⟨g,0,none⟩)) rfl (by kernel_rfl) (by kernel_rfl) (by kernel_rfl) (fun _ _ _ h=>h) (Or.inl ⟨by rfl,?hy⟩) (by assumption) ?_
 case hy=>(intro W hSw;go_simp;try with_reducible rfl)
 refine wpAnyH_take (i:=2) (v:=.pointer (some ⟨g,0,none⟩)) rfl (by kernel_rfl) (by kernel_rfl) (by kernel_rfl) (fun _ _ _ h=>h) (Or.inl ⟨by rfl,?hy⟩) (by assumption) ?_
 case hy=>(intro W hSw;go_simp;try with_reducible rfl)
 refine wpAnyH_take (i:=4) (v:=.pointer (some ⟨g,0,none⟩)) rfl (by kernel_rfl) (by kernel_rfl) (by kernel_rfl) (fun _ _ _ h=>h) (Or.inl ⟨by rfl,?hy⟩) (by assumption) ?_
 case hy=>(intro W hSw;go_simp;try with_reducible rfl)
 refine wpAnyH_ready (rs:=[1]) (by kernel_rfl) (by simp) ?_
 refine AllReadyH.cons rfl (fun K hK=>?_) AllReadyH.nil
 have HK:Hid _:=hK
 clear hK
 go_simp
 refine (HTX.out _ _ HP0.out.2 HP0.out.1 HL0.out).mono ?_
 rintro e w1 ⟨hr,⟨x0,r1,hn,rfl,hp⟩ | ⟨hn,rfl⟩⟩
 rotate_left
 ·exact ⟨rfl,HW0.out.trans (HP0.out.2.trans hr),.inr ⟨bind_no HF0.out hn,rfl⟩⟩
 have HF1:Hid _:=bind_go HF0.out hn
 have HP1:Hid (IsP g r1 w1∧Rp g W0 w1):=⟨hp,HP0.out.2.trans hr⟩
 have HL1:Hid (r1.length≤140737488355328):=(show _≤_ from Nat.le_trans (Nat.le_of_lt ((rdT_in hn).2)) HL0.out)
 clear hn hp hr HF0 HP0 HL0
 refine HK.out _ _ (HRC.out _ HP1.out.2) (fun hHeld=>?_)
 clear HK K
 refine wpAnyH_ready (rs:=[3]) (by kernel_rfl) (by simp) ?_
 refine AllReadyH.cons rfl (fun K hK=>?_) AllReadyH.nil
 have HK:Hid _:=hK
 clear hK
 go_simp
 refine (HNX.out _ _ HP1.out.2 HP1.out.1 HL1.out).mono ?_
 rintro e w2 ⟨hr,⟨x1,r2,hn,rfl,hp⟩ | ⟨hn,rfl⟩⟩
 rotate_left
 ·exact ⟨rfl,HW0.out.trans (HP1.out.2.trans hr),.inr ⟨bind_no HF1.out hn,rfl⟩⟩
 have HF2:Hid _:=bind_go HF1.out hn
 have HP2:Hid (IsP g r2 w2∧Rp g W0 w2):=⟨hp,HP1.out.2.trans hr⟩
 have HL2:Hid (r2.length≤140737488355328):=(show _≤_ from Nat.le_trans (Nat.le_of_lt ((rdN_in hn).2)) HL1.out)
 clear hn hp hr HF1 HP1 HL1
 refine HK.out _ _ (HRC.out _ HP2.out.2) (fun hHeld=>?_)
 clear HK K
 refine wpAnyH_ready (rs:=[5]) (by kernel_rfl) (by simp) ?_
 refine AllReadyH.cons rfl (fun K hK=>?_) AllReadyH.nil
 have HK:Hid _:=hK
 clear hK
 go_simp
 refine (HNX.out _ _ HP2.out.2 HP2.out.1 HL2.out).mono ?_
 rintro e w3 ⟨hr,⟨x2,r3,hn,rfl,hp⟩ | ⟨hn,rfl⟩⟩
 rotate_left
 ·exact ⟨rfl,HW0.out.trans (HP2.out.2.trans hr),.inr ⟨bind_no HF2.out hn,rfl⟩⟩
 have HF3:Hid _:=bind_go HF2.out hn
 have HP3:Hid (IsP g r3 w3∧Rp g W0 w3):=⟨hp,HP2.out.2.trans hr⟩
 have HL3:Hid (r3.length≤140737488355328):=(show _≤_ from Nat.le_trans (Nat.le_of_lt ((rdN_in hn).2)) HL2.out)
 clear hn hp hr HF2 HP2 HL2
 refine HK.out _ _ (HRC.out _ HP3.out.2) (fun hHeld=>?_)
 clear HK K
 refine wpAnyH_take (i:=6) (v:=?vb) rfl (by kernel_rfl) (by kernel_rfl) (by kernel_rfl) (fun _ _ _ h=>h) (Or.inl ⟨by rfl,?hy⟩) (by assumption) ?_
 case hy=>(intro W hSw;go_simp;try with_reducible rfl)
 obtain ⟨b0,b1,b2,z0,z1,z2⟩:=HBX.out w3 HP3.out.2
 refine wpAnyH_ready (rs:=[7]) (by kernel_rfl) (by simp) ?_
 refine AllReadyH.cons rfl (fun K hK=>?_) AllReadyH.nil
 have HK:Hid _:=hK
 clear hK
 go_simp
 obtain ⟨wf,hwf⟩:∃ wf,wf=(((w3.setCell ⟨w.heap.size,0,none⟩ (.string x0)).setCell ⟨w.heap.size,1,none⟩ (.int .i64 x1)).setCell ⟨w.heap.size,2,none⟩ (.int .i64 x2)):=⟨_,rfl⟩
 have HX:Hid (IsP g r3 wf∧Rp g w wf∧wf.cell? ⟨c,0,none⟩=some (.pointer (some ⟨g,0,none⟩))):=by
  have hk:∀ k,k≠w.heap.size→wf.heap[k]?=w3.heap[k]?:=fun k hk=>by rw [hwf,Below.heap_setCell _ _ _ k hk,Below.heap_setCell _ _ _ k hk,Below.heap_setCell _ _ _ k hk]
  have hsz:wf.heap.size=w3.heap.size:=by rw [hwf];simp
  have hgk:=hk g (fun e=>hgn e.symm)
  have hck:=hk c hcn
  have hr:=HW0.out.trans HP3.out.2
  have hos:wf.os=w3.os:=by rw [hwf];simp only [os_set]
  have htp:wf.tape=w3.tape:=by rw [hwf];simp only [tape_set]
  have hot:wf.output=w3.output:=by rw [hwf];simp only [output_set]
  refine ⟨⟨?_,?_,by rw [hsz];exact HP3.out.1.hg⟩,⟨hos.trans hr.os,htp.trans hr.tape,hot.trans hr.output,by rw [hsz];exact hr.size,fun k hk1 hk2=>(hk k (by omega)).trans (hr.block k hk1 hk2)⟩,?_⟩
  ·have:=HP3.out.1.c0
   simp only [World.cell?] at this ⊢
   rw [hgk];exact this
  ·have:=HP3.out.1.hz
   simp only [World.frozen?] at this ⊢
   rw [hgk];exact this
  ·have:=HRC.out _ HP3.out.2
   simp only [World.cell?] at this ⊢
   rw [hck];exact this
 have f0:wf.cell? ⟨w.heap.size,0,none⟩=some (.string x0):=by rw [hwf];simp [go_sem,b0]
 have f1:wf.cell? ⟨w.heap.size,1,none⟩=some (.int .i64 x1):=by rw [hwf];simp [go_sem,b1]
 have f2:wf.cell? ⟨w.heap.size,2,none⟩=some (.int .i64 x2):=by rw [hwf];simp [go_sem,b2]
 rw [← hwf]
 clear hwf z0 b0 z1 b1 z2 b2 HRC HBX HNX HTX
 have hcf:=HX.out.2.2
 refine HK.out _ _ hcf (fun hHeld=>?_)
 clear HK K
 refine wpAnyH_done (by kernel_rfl) ?_ _
 clear hHeld
 go_wp2_with fail
 simp [bodyPost,results,Tryz.results172,go_sem,f0,f1,f2]
 exact ⟨HX.out.2.1,.inl ⟨_,_,HF3.out,rfl,HX.out.1⟩⟩
end Gw
namespace Wh
def rdEl (l:List UInt8):Option (Whe × List UInt8):=
 (rdT l).bind fun a0=>(rdP a0.2).bind fun a1=>some (⟨a0.1,a1.1.1,a1.1.2.1,a1.1.2.2.1,a1.1.2.2.2.1,a1.1.2.2.2.2⟩,a1.2)
def Whe.val (m:Whe):Value:=.agg #[.string m.node,.int .i64 m.x,.int .i64 m.y,.int .i64 m.z,.int .i64 m.h,.int .i64 m.s]
theorem rdEl_in {l r:List UInt8} {m:Whe} (h:rdEl l=some (m,r)):(m.node.size≤l.length)∧r.length < l.length:=by
 unfold rdEl at h
 simp only [Option.bind_eq_some_iff,Option.some.injEq,Prod.mk.injEq] at h
 obtain ⟨⟨x0,r1⟩,n0,⟨x1,r2⟩,n1,rfl,rfl⟩:=h
 simp only at n0 n1 ⊢
 have l0:=rdT_in n0
 have l1:=rdP_in n1
 omega
set_option maxHeartbeats 6400000 in
set_option maxRecDepth 100000 in
theorem one_b {B g c:Nat} {l:List UInt8} {w:World} (hV:Rv B w) (hBg:B≤g) (h:IsP g l w) (hs:l.length≤140737488355328) (hc:w.cell? ⟨c,0,none⟩=some (.pointer (some ⟨g,0,none⟩))) (hcg:c≠g) (hcl:c < w.heap.size) :
 Calls Tryz.prog 174 #[.pointer (some ⟨c,0,none⟩)] w (RdP g w Whe.val (rdEl l)):=by
 obtain ⟨F,hF⟩:∃ F,F=rdEl l:=⟨_,rfl⟩
 rw [← hF]
 unfold rdEl at hF
 have HF0:Hid _:=hF
 have HL0:Hid (l.length≤140737488355328):=hs
 obtain ⟨W0,hW0⟩:∃ W0,W0=w.alloc (.cells #[.string ⟨#[]⟩,.int .i64 0,.int .i64 0,.int .i64 0,.int .i64 0,.int .i64 0] 109):=⟨_,rfl⟩
 have hb0:Below w.heap.size w W0:=by rw [hW0];exact (Below.refl _ _).alloc (Nat.le_refl _) _
 have hg0:W0.heap[w.heap.size]?=some (.cells #[.string ⟨#[]⟩,.int .i64 0,.int .i64 0,.int .i64 0,.int .i64 0,.int .i64 0] 109 (0,0)):=by rw [hW0];exact heap_alloc_new w _
 have hV0:Rv B W0:=hV.below (hb0.mono hV.le)
 have hgn:w.heap.size≠g:=by have:=h.hg;omega
 have hcn:c≠w.heap.size:=by omega
 have HW0:Hid (Rp g w W0):=Rp.of_below hb0 (Nat.le_refl _)
 have HP0:Hid (IsP g l W0.drew∧Rp g W0 W0.drew):=⟨(h.below hb0).drew,(Rp.refl _ _).drew⟩
 have HRC:Hid (∀ W,Rp g W0 W→W.cell? ⟨c,0,none⟩=some (.pointer (some ⟨g,0,none⟩))):=fun W hW=>by
  have e:=hW.block c (Nat.lt_of_lt_of_le hcl hb0.size) hcg
  have e0:=(hb0.cell (p:=⟨c,0,none⟩) hcl).trans hc
  simp only [World.cell?] at e0 ⊢
  rw [e];exact e0
 have HBX:Hid (∀ W,Rp g W0 W→W.cell? ⟨w.heap.size,0,none⟩=some (.string ⟨#[]⟩)∧W.cell? ⟨w.heap.size,1,none⟩=some (.int .i64 0)∧W.cell? ⟨w.heap.size,2,none⟩=some (.int .i64 0)∧W.cell? ⟨w.heap.size,3,none⟩=some (.int .i64 0)∧W.cell? ⟨w.heap.size,4,none⟩=some (.int .i64 0)∧W.cell? ⟨w.heap.size,5,none⟩=some (.int .i64 0)∧W.frozen? ⟨w.heap.size,0,none⟩=false∧W.frozen? ⟨w.heap.size,1,none⟩=false∧W.frozen? ⟨w.heap.size,2,none⟩=false∧W.frozen? ⟨w.heap.size,3,none⟩=false∧W.frozen? ⟨w.heap.size,4,none⟩=false∧W.frozen? ⟨w.heap.size,5,none⟩=false):=fun W hW=>by
  have e:=hW.block' hgn hg0
  exact ⟨cellsAt e 0,cellsAt e 1,cellsAt e 2,cellsAt e 3,cellsAt e 4,cellsAt e 5,by simp [World.frozen?,e],by simp [World.frozen?,e],by simp [World.frozen?,e],by simp [World.frozen?,e],by simp [World.frozen?,e],by simp [World.frozen?,e]⟩
 have HTX:Hid (∀ (W:World) (m:List UInt8),Rp g W0 W→IsP g m W→m.length≤140737488355328→Calls Tryz.prog 164 #[.pointer (some ⟨g,0,none⟩)] W (RdP g W (fun s:ByteArray=>.string s) (rdT m))):=fun W m hW hm hml=>text_b (hV0.rp hBg hW) hm hml
 have HPX:Hid (∀ (W:World) (m:List UInt8),Rp g W0 W→IsP g m W→m.length≤140737488355328→Calls Tryz.prog 175 #[.pointer (some ⟨g,0,none⟩)] W (RdP g W (fun q:Int × Int × Int × Int × Int=>.agg #[.int .i64 q.1,.int .i64 q.2.1,.int .i64 q.2.2.1,.int .i64 q.2.2.2.1,.int .i64 q.2.2.2.2]) (rdP m))):=fun W m hW hm hml=>place_b (hV0.rp hBg hW) hBg hm hml
 clear hF h hV hb0 hg0 hV0 hBg hs hc hcl
 go_enter Tryz.func174,Tryz.ntmps174
 go_wp2_with fail
 rw [← hW0]
 clear hW0
 refine wp_region_held_drew (S:=fun W=>W.cell? ⟨c,0,none⟩=some (.pointer (some ⟨g,0,none⟩))) (by kernel_rfl) (HRC.out _ HP0.out.2) (fun hHeld=>?_)
 refine wpAnyH_take (i:=0) (v:=.pointer (some ⟨g,0,none⟩)) rfl (by kernel_rfl) (by kernel_rfl) (by kernel_rfl) (fun _ _ _ h=>h) (Or.inl ⟨by rfl,?hy⟩) (by assumption) ?_
 case hy=>(intro W hSw;go_simp;try with_reducible rfl)
 refine wpAnyH_take (i:=2) (v:=.pointer (some ⟨g,0,none⟩)) rfl (by kernel_rfl) (by kernel_rfl) (by kernel_rfl) (fun _ _ _ h=>h) (Or.inl ⟨by rfl,?hy⟩) (by assumption) ?_
 case hy=>(intro W hSw;go_simp;try with_reducible rfl)
 refine wpAnyH_ready (rs:=[1]) (by kernel_rfl) (by simp) ?_
 refine AllReadyH.cons rfl (fun K hK=>?_) AllReadyH.nil
 have HK:Hid _:=hK
 clear hK
 go_simp
 refine (HTX.out _ _ HP0.out.2 HP0.out.1 HL0.out).mono ?_
 rintro e w1 ⟨hr,⟨x0,r1,hn,rfl,hp⟩ | ⟨hn,rfl⟩⟩
 rotate_left
 ·exact ⟨rfl,HW0.out.trans (HP0.out.2.trans hr),.inr ⟨bind_no HF0.out hn,rfl⟩⟩
 have HF1:Hid _:=bind_go HF0.out hn
 have HP1:Hid (IsP g r1 w1∧Rp g W0 w1):=⟨hp,HP0.out.2.trans hr⟩
 have HL1:Hid (r1.length≤140737488355328):=(show _≤_ from Nat.le_trans (Nat.le_of_lt ((rdT_in hn).2)) HL0.out)
 clear hn hp hr HF0 HP0 HL0
 refine HK.out _ _ (HRC.out _ HP1.out.2) (fun hHeld=>?_)
 clear HK K
 refine wpAnyH_ready (rs:=[3]) (by kernel_rfl) (by simp) ?_
 refine AllReadyH.cons rfl (fun K hK=>?_) AllReadyH.nil
 have HK:Hid _:=hK
 clear hK
 go_simp
 refine (HPX.out _ _ HP1.out.2 HP1.out.1 HL1.out).mono ?_
 rintro e w2 ⟨hr,⟨x1,r2,hn,rfl,hp⟩ | ⟨hn,rfl⟩⟩
 rotate_left
 ·exact ⟨rfl,HW0.out.trans (HP1.out.2.trans hr),.inr ⟨bind_no HF1.out hn,rfl⟩⟩
 have HF2:Hid _:=bind_go HF1.out hn
 have HP2:Hid (IsP g r2 w2∧Rp g W0 w2):=⟨hp,HP1.out.2.trans hr⟩
 have HL2:Hid (r2.length≤140737488355328):=(show _≤_ from Nat.le_trans (Nat.le_of_lt (rdP_in hn)) HL1.out)
 clear hn hp hr HF1 HP1 HL1
 refine HK.out _ _ (HRC.out _ HP2.out.2) (fun hHeld=>?_)
 clear HK K
 refine wpAnyH_take (i:=4) (v:=?vb) rfl (by kernel_rfl) (by kernel_rfl) (by kernel_rfl) (fun _ _ _ h=>h) (Or.inl ⟨by rfl,?hy⟩) (by assumption) ?_
 case hy=>(intro W hSw;go_simp;try with_reducible rfl)
 obtain ⟨b0,b1,b2,b3,b4,b5,z0,z1,z2,z3,z4,z5⟩:=HBX.out w2 HP2.out.2
 refine wpAnyH_ready (rs:=[5]) (by kernel_rfl) (by simp) ?_
 refine AllReadyH.cons rfl (fun K hK=>?_) AllReadyH.nil
 have HK:Hid _:=hK
 clear hK
 go_simp
 obtain ⟨wf,hwf⟩:∃ wf,wf=((((((w2.setCell ⟨w.heap.size,0,none⟩ (.string x0)).setCell ⟨w.heap.size,1,none⟩ (.int .i64 x1.1)).setCell ⟨w.heap.size,2,none⟩ (.int .i64 x1.2.1)).setCell ⟨w.heap.size,3,none⟩ (.int .i64 x1.2.2.1)).setCell ⟨w.heap.size,4,none⟩ (.int .i64 x1.2.2.2.1)).setCell ⟨w.heap.size,5,none⟩ (.int .i64 x1.2.2.2.2)):=⟨_,rfl⟩
 have HX:Hid (IsP g r2 wf∧Rp g w wf∧wf.cell? ⟨c,0,none⟩=some (.pointer (some ⟨g,0,none⟩))):=by
  have hk:∀ k,k≠w.heap.size→wf.heap[k]?=w2.heap[k]?:=fun k hk=>by rw [hwf,Below.heap_setCell _ _ _ k hk,Below.heap_setCell _ _ _ k hk,Below.heap_setCell _ _ _ k hk,Below.heap_setCell _ _ _ k hk,Below.heap_setCell _ _ _ k hk,Below.heap_setCell _ _ _ k hk]
  have hsz:wf.heap.size=w2.heap.size:=by rw [hwf];simp
  have hgk:=hk g (fun e=>hgn e.symm)
  have hck:=hk c hcn
  have hr:=HW0.out.trans HP2.out.2
  have hos:wf.os=w2.os:=by rw [hwf];simp only [os_set]
  have htp:wf.tape=w2.tape:=by rw [hwf];simp only [tape_set]
  have hot:wf.output=w2.output:=by rw [hwf];simp only [output_set]
  refine ⟨⟨?_,?_,by rw [hsz];exact HP2.out.1.hg⟩,⟨hos.trans hr.os,htp.trans hr.tape,hot.trans hr.output,by rw [hsz];exact hr.size,fun k hk1 hk2=>(hk k (by omega)).trans (hr.block k hk1 hk2)⟩,?_⟩
  ·have:=HP2.out.1.c0
   simp only [World.cell?] at this ⊢
   rw [hgk];exact this
  ·have:=HP2.out.1.hz
   simp only [World.frozen?] at this ⊢
   rw [hgk];exact this
  ·have:=HRC.out _ HP2.out.2
   simp only [World.cell?] at this ⊢
   rw [hck];exact this
 have f0:wf.cell? ⟨w.heap.size,0,none⟩=some (.string x0):=by rw [hwf];simp [go_sem,b0]
 have f1:wf.cell? ⟨w.heap.size,1,none⟩=some (.int .i64 x1.1):=by rw [hwf];simp [go_sem,b1]
 have f2:wf.cell? ⟨w.heap.size,2,none⟩=some (.int .i64 x1.2.1):=by rw [hwf];simp [go_sem,b2]
 have f3:wf.cell? ⟨w.heap.size,3,none⟩=some (.int .i64 x1.2.2.1):=by rw [hwf];simp [go_sem,b3]
 have f4:wf.cell? ⟨w.heap.size,4,none⟩=some (.int .i64 x1.2.2.2.1):=by rw [hwf];simp [go_sem,b4]
 have f5:wf.cell? ⟨w.heap.size,5,none⟩=some (.int .i64 x1.2.2.2.2):=by rw [hwf];simp [go_sem,b5]
 rw [← hwf]
 clear hwf z0 b0 z1 b1 z2 b2 z3 b3 z4 b4 z5 b5 HRC HBX HPX HTX
 have hcf:=HX.out.2.2
 refine HK.out _ _ hcf (fun hHeld=>?_)
 clear HK K
 refine wpAnyH_done (by kernel_rfl) ?_ _
 clear hHeld
 go_wp2_with fail
 simp [bodyPost,results,Tryz.results174,go_sem,f0,f1,f2,f3,f4,f5]
 exact ⟨HX.out.2.1,.inl ⟨_,_,HF2.out,rfl,HX.out.1⟩⟩
end Wh
end Go.Proofs.YtffdoiokmiklgaaGreatDoor
