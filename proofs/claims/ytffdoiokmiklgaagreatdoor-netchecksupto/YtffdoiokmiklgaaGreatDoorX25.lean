import Derived.Test.YtffdoiokmiklgaaGreatDoorX24
import Derived.Test.YtffdoiokmiklgaaGreatDoorX18
namespace Go.Proofs.YtffdoiokmiklgaaGreatDoor
open Go.RowKit
def rdPk (l:List UInt8):Option (Pk × List UInt8):=
 (rdT l).bind fun a0=>(rdF a0.2).bind fun a1=>(rdList a1.2).bind fun a2=>(Sv.rdList a2.2).bind fun a3=>(Gw.rdList a3.2).bind fun a4=>(Wh.rdList a4.2).bind fun a5=>some (⟨a0.1,a1.1,a2.1,a3.1,a4.1,a5.1⟩,a5.2)
structure PkOwn (base:Nat) (w:World) (p:Pk) (vm vs vg vw:Value):Prop where
 ms:Own base w vm p.ms
 sv:Sv.Own base w vs p.sv
 gw:Gw.Own base w vg p.gw
 wh:Wh.Own base w vw p.wh
theorem row_keep {base:Nat} {w w':World} {T:TypeId} {k n:Nat} {v:Value} {cs:List Value} (h:∀ b,base≤b→b < w.heap.size→w'.heap[b]?=w.heap[b]?) (ho:w.ownsRow base T k v n cs):w'.ownsRow base T k v n cs:=by
 rcases ho.2 with ⟨rfl,h0⟩ | ⟨b,c,cur,rfl,hbg,hb,hr⟩
 ·exact ⟨ho.1,.inl ⟨rfl,h0⟩⟩
 ·exact ⟨ho.1,.inr ⟨b,c,cur,rfl,hbg,(h b hbg (Array.getElem?_eq_some_iff.1 hb).1).trans hb,hr⟩⟩
theorem PkOwn.keep {base:Nat} {w w':World} {p:Pk} {vm vs vg vw:Value} (h:PkOwn base w p vm vs vg vw) (hk:∀ b,base≤b→b < w.heap.size→w'.heap[b]?=w.heap[b]?):PkOwn base w' p vm vs vg vw:=⟨row_keep hk h.ms,row_keep hk h.sv,row_keep hk h.gw,row_keep hk h.wh⟩
def PkP (g:Nat) (w:World) (o:Option (Pk × List UInt8)) (e:Ending) (w':World):Prop:=
 Rp g w w'∧((∃ p r vm vs vg vw,o=some (p,r)∧e=.returned (.agg #[.string p.frm,.bool p.whole,vm,vs,vg,vw])∧PkOwn (w.heap.size+2) w' p vm vs vg vw∧IsP g r w')∨(o=none∧e=outP 1))
theorem slice_of_row {base:Nat} {w:World} {T:TypeId} {k n:Nat} {v:Value} {cs:List Value} (h:w.ownsRow base T k v n cs):∃ a l c,v=.slice a l c:=by
 rcases h.2 with ⟨hv,_⟩ | ⟨_,_,_,hv,_⟩
 ·exact ⟨_,_,_,hv⟩
 ·exact ⟨_,_,_,hv⟩
set_option maxHeartbeats 12800000 in
set_option maxRecDepth 100000 in
theorem packet_b {B g:Nat} {l:List UInt8} {w:World} (hV:Rv B w) (hBg:B≤g) (h:IsP g l w) (hs:l.length≤16777216) :
 Calls Tryz.prog 122 #[.pointer (some ⟨g,0,none⟩)] w (PkP g w (rdPk l)):=by
 obtain ⟨F,hF⟩:∃ F,F=rdPk l:=⟨_,rfl⟩
 rw [← hF]
 unfold rdPk at hF
 have HF0:Hid _:=hF
 have hmf:∀ (fn:Fn) (first cap:Array Value) (w:World),(Instr.makeFunc fn first cap).run Tryz.prog w=.ok (.func fn first cap) w:=fun _ _ _ _=>rfl
 obtain ⟨W0,hW0⟩:∃ W0,W0=(w.alloc (.cells #[.pointer (some ⟨g,0,none⟩)] 185)).alloc (.cells #[.string ⟨#[]⟩,.bool false,.slice none 0 0,.slice none 0 0,.slice none 0 0,.slice none 0 0] 67):=⟨_,rfl⟩
 have hb0:Below w.heap.size w W0:=by rw [hW0];exact ((Below.refl _ _).alloc (Nat.le_refl _) _).alloc (by simp) _
 have hs0:W0.heap.size=w.heap.size+2:=by rw [hW0];simp
 have hg0:W0.heap[w.heap.size+1]?=some (.cells #[.string ⟨#[]⟩,.bool false,.slice none 0 0,.slice none 0 0,.slice none 0 0,.slice none 0 0] 67 (0,0)):=by
  rw [hW0]
  have:=heap_alloc_new (w.alloc (.cells #[.pointer (some ⟨g,0,none⟩)] 185)) (.cells #[.string ⟨#[]⟩,.bool false,.slice none 0 0,.slice none 0 0,.slice none 0 0,.slice none 0 0] 67)
  simpa using this
 have hp0:W0.heap[w.heap.size]?=some (.cells #[.pointer (some ⟨g,0,none⟩)] 185 (0,0)):=by
  rw [hW0]
  exact (Lib.alloc_old _ _ _ (by simp)).trans (heap_alloc_new w _)
 have hV0:Rv B W0:=hV.below (hb0.mono hV.le)
 have hgl:=h.hg
 have hgn:w.heap.size+1≠g:=by omega
 have hgm:w.heap.size≠g:=by omega
 have HW0:Hid (Rp g w W0):=Rp.of_below hb0 (Nat.le_refl _)
 have HS0:Hid (W0.heap.size=w.heap.size+2):=hs0
 have HP0:Hid (IsP g l W0.drew∧Rp g W0 W0.drew):=⟨(h.below hb0).drew,(Rp.refl _ _).drew⟩
 have HL0:Hid (l.length≤16777216):=hs
 have HRC:Hid (∀ W,Rp g W0 W→W.cell? ⟨w.heap.size,0,none⟩=some (.pointer (some ⟨g,0,none⟩))):=fun W hW=>cellsAt (hW.block' hgm hp0) 0
 have HBX:Hid (∀ W,Rp g W0 W→W.cell? ⟨w.heap.size+1,0,none⟩=some (.string ⟨#[]⟩)∧W.cell? ⟨w.heap.size+1,1,none⟩=some (.bool false)∧W.cell? ⟨w.heap.size+1,2,none⟩=some (.slice none 0 0)∧W.cell? ⟨w.heap.size+1,3,none⟩=some (.slice none 0 0)∧W.cell? ⟨w.heap.size+1,4,none⟩=some (.slice none 0 0)∧W.cell? ⟨w.heap.size+1,5,none⟩=some (.slice none 0 0)∧W.frozen? ⟨w.heap.size+1,0,none⟩=false∧W.frozen? ⟨w.heap.size+1,1,none⟩=false∧W.frozen? ⟨w.heap.size+1,2,none⟩=false∧W.frozen? ⟨w.heap.size+1,3,none⟩=false∧W.frozen? ⟨w.heap.size+1,4,none⟩=false∧W.frozen? ⟨w.heap.size+1,5,none⟩=false):=fun W hW=>by
  have e:=hW.block' hgn hg0
  exact ⟨cellsAt e 0,cellsAt e 1,cellsAt e 2,cellsAt e 3,cellsAt e 4,cellsAt e 5,by simp [World.frozen?,e],by simp [World.frozen?,e],by simp [World.frozen?,e],by simp [World.frozen?,e],by simp [World.frozen?,e],by simp [World.frozen?,e]⟩
 have HTX:Hid (∀ (W:World) (m:List UInt8),Rp g W0 W→IsP g m W→m.length≤16777216→Calls Tryz.prog 164 #[.pointer (some ⟨g,0,none⟩)] W (RdP g W (fun s:ByteArray=>.string s) (rdT m))):=fun W m hW hm hml=>text_b (hV0.rp hBg hW) hm (by omega)
 have HFX:Hid (∀ (W:World) (m:List UInt8),Rp g W0 W→IsP g m W→m.length≤16777216→Calls Tryz.prog 165 #[.pointer (some ⟨g,0,none⟩)] W (RdP g W (fun y:Bool=>.bool y) (rdF m))):=fun W m hW hm hml=>flag_b (hV0.rp hBg hW) hm (by omega)
 have HMX:Hid (∀ (W:World) (m:List UInt8),Rp g W0 W→IsP g m W→m.length≤16777216→Calls Tryz.prog 166 #[.pointer (some ⟨g,0,none⟩),.func (.func 167) #[] #[.pointer (some ⟨w.heap.size,0,none⟩)]] W (LsP g W (rdList m))):=fun W m hW hm hml=>list_b (hV0.rp hBg hW) hBg hm hml (HRC.out W hW) hgm (by have:=hW.size;omega)
 have HSX:Hid (∀ (W:World) (m:List UInt8),Rp g W0 W→IsP g m W→m.length≤16777216→Calls Tryz.prog 169 #[.pointer (some ⟨g,0,none⟩),.func (.func 170) #[] #[.pointer (some ⟨w.heap.size,0,none⟩)]] W (Sv.LsP g W (Sv.rdList m))):=fun W m hW hm hml=>Sv.list_b (hV0.rp hBg hW) hBg hm hml (HRC.out W hW) hgm (by have:=hW.size;omega)
 have HGX:Hid (∀ (W:World) (m:List UInt8),Rp g W0 W→IsP g m W→m.length≤16777216→Calls Tryz.prog 171 #[.pointer (some ⟨g,0,none⟩),.func (.func 172) #[] #[.pointer (some ⟨w.heap.size,0,none⟩)]] W (Gw.LsP g W (Gw.rdList m))):=fun W m hW hm hml=>Gw.list_b (hV0.rp hBg hW) hBg hm hml (HRC.out W hW) hgm (by have:=hW.size;omega)
 have HWX:Hid (∀ (W:World) (m:List UInt8),Rp g W0 W→IsP g m W→m.length≤16777216→Calls Tryz.prog 173 #[.pointer (some ⟨g,0,none⟩),.func (.func 174) #[] #[.pointer (some ⟨w.heap.size,0,none⟩)]] W (Wh.LsP g W (Wh.rdList m))):=fun W m hW hm hml=>Wh.list_b (hV0.rp hBg hW) hBg hm hml (HRC.out W hW) hgm (by have:=hW.size;omega)
 clear hF h hV hb0 hg0 hp0 hV0 hBg hs hs0
 go_enter Tryz.func122,Tryz.ntmps122
 go_wp2_with fail
 rw [← hW0]
 clear hW0
 refine wp_region_held_drew (S:=fun W=>W.cell? ⟨w.heap.size,0,none⟩=some (.pointer (some ⟨g,0,none⟩))) (by kernel_rfl) (HRC.out _ HP0.out.2) (fun hHeld=>?_)
 refine wpAnyH_take (i:=0) (v:=.pointer (some ⟨g,0,none⟩)) rfl (by kernel_rfl) (by kernel_rfl) (by kernel_rfl) (fun _ _ _ h=>h) (Or.inl ⟨by rfl,?hy⟩) (by assumption) ?_
 case hy=>(intro W hSw;go_simp;try with_reducible rfl)
 refine wpAnyH_take (i:=2) (v:=.pointer (some ⟨g,0,none⟩)) rfl (by kernel_rfl) (by kernel_rfl) (by kernel_rfl) (fun _ _ _ h=>h) (Or.inl ⟨by rfl,?hy⟩) (by assumption) ?_
 case hy=>(intro W hSw;go_simp;try with_reducible rfl)
 refine wpAnyH_take (i:=4) (v:=.pointer (some ⟨g,0,none⟩)) rfl (by kernel_rfl) (by kernel_rfl) (by kernel_rfl) (fun _ _ _ h=>h) (Or.inl ⟨by rfl,?hy⟩) (by assumption) ?_
 case hy=>(intro W hSw;go_simp;try with_reducible rfl)
 refine wpAnyH_take (i:=7) (v:=.pointer (some ⟨g,0,none⟩)) rfl (by kernel_rfl) (by kernel_rfl) (by kernel_rfl) (fun _ _ _ h=>h) (Or.inl ⟨by rfl,?hy⟩) (by assumption) ?_
 case hy=>(intro W hSw;go_simp;try with_reducible rfl)
 refine wpAnyH_take (i:=10) (v:=.pointer (some ⟨g,0,none⟩)) rfl (by kernel_rfl) (by kernel_rfl) (by kernel_rfl) (fun _ _ _ h=>h) (Or.inl ⟨by rfl,?hy⟩) (by assumption) ?_
 case hy=>(intro W hSw;go_simp;try with_reducible rfl)
 refine wpAnyH_take (i:=13) (v:=.pointer (some ⟨g,0,none⟩)) rfl (by kernel_rfl) (by kernel_rfl) (by kernel_rfl) (fun _ _ _ h=>h) (Or.inl ⟨by rfl,?hy⟩) (by assumption) ?_
 case hy=>(intro W hSw;go_simp;try with_reducible rfl)
 refine wpAnyH_take (i:=5) (v:=.func (.func 167) #[] #[.pointer (some ⟨w.heap.size,0,none⟩)]) rfl (by kernel_rfl) (by kernel_rfl) (by kernel_rfl) (fun _ _ _ h=>h) (Or.inl ⟨by rfl,?hy⟩) (by assumption) ?_
 case hy=>(intro W hSw;go_simp;try with_reducible rfl)
 refine wpAnyH_take (i:=8) (v:=.func (.func 170) #[] #[.pointer (some ⟨w.heap.size,0,none⟩)]) rfl (by kernel_rfl) (by kernel_rfl) (by kernel_rfl) (fun _ _ _ h=>h) (Or.inl ⟨by rfl,?hy⟩) (by assumption) ?_
 case hy=>(intro W hSw;go_simp;try with_reducible rfl)
 refine wpAnyH_take (i:=11) (v:=.func (.func 172) #[] #[.pointer (some ⟨w.heap.size,0,none⟩)]) rfl (by kernel_rfl) (by kernel_rfl) (by kernel_rfl) (fun _ _ _ h=>h) (Or.inl ⟨by rfl,?hy⟩) (by assumption) ?_
 case hy=>(intro W hSw;go_simp;try with_reducible rfl)
 refine wpAnyH_take (i:=14) (v:=.func (.func 174) #[] #[.pointer (some ⟨w.heap.size,0,none⟩)]) rfl (by kernel_rfl) (by kernel_rfl) (by kernel_rfl) (fun _ _ _ h=>h) (Or.inl ⟨by rfl,?hy⟩) (by assumption) ?_
 case hy=>(intro W hSw;go_simp;try with_reducible rfl)
 refine wpAnyH_ready (rs:=[1]) (by kernel_rfl) (by simp) ?_
 refine AllReadyH.cons rfl (fun K hK=>?_) AllReadyH.nil
 have HK:Hid _:=hK
 clear hK
 go_simp
 refine (HTX.out _ _ HP0.out.2 HP0.out.1 HL0.out).mono ?_
 rintro e w1 ⟨hr,⟨x0,r1,hn,rfl,hp⟩ | ⟨hn,rfl⟩⟩
 rotate_left
 ·exact ⟨rfl,HW0.out.trans (HP0.out.2.trans hr),.inr ⟨bind_no HF0.out hn,rfl⟩⟩
 have HF1:Hid _:=bind_go HF0.out hn
 have HP1:Hid (IsP g r1 w1∧Rp g W0 w1):=⟨hp,HP0.out.2.trans hr⟩
 have HL1:Hid (r1.length≤16777216):=(show _≤_ by have h1:=(rdT_in hn).2;have h2:=HL0.out;omega)
 clear hn hp hr HF0 HP0 HL0
 refine HK.out _ _ (HRC.out _ HP1.out.2) (fun hHeld=>?_)
 clear HK K
 refine wpAnyH_ready (rs:=[3]) (by kernel_rfl) (by simp) ?_
 refine AllReadyH.cons rfl (fun K hK=>?_) AllReadyH.nil
 have HK:Hid _:=hK
 clear hK
 go_simp
 refine (HFX.out _ _ HP1.out.2 HP1.out.1 HL1.out).mono ?_
 rintro e w2 ⟨hr,⟨x1,r2,hn,rfl,hp⟩ | ⟨hn,rfl⟩⟩
 rotate_left
 ·exact ⟨rfl,HW0.out.trans (HP1.out.2.trans hr),.inr ⟨bind_no HF1.out hn,rfl⟩⟩
 have HF2:Hid _:=bind_go HF1.out hn
 have HP2:Hid (IsP g r2 w2∧Rp g W0 w2):=⟨hp,HP1.out.2.trans hr⟩
 have HL2:Hid (r2.length≤16777216):=(show _≤_ by have h1:=rdF_in hn;have h2:=HL1.out;omega)
 clear hn hp hr HF1 HP1 HL1
 refine HK.out _ _ (HRC.out _ HP2.out.2) (fun hHeld=>?_)
 clear HK K
 refine wpAnyH_ready (rs:=[6]) (by kernel_rfl) (by simp) ?_
 refine AllReadyH.cons rfl (fun K hK=>?_) AllReadyH.nil
 have HK:Hid _:=hK
 clear hK
 go_simp
 refine (HMX.out _ _ HP2.out.2 HP2.out.1 HL2.out).mono ?_
 rintro e w3 ⟨hr,⟨x2,r3,v2,hn,rfl,ho,hp⟩ | ⟨hn,rfl⟩⟩
 rotate_left
 ·exact ⟨rfl,HW0.out.trans (HP2.out.2.trans hr),.inr ⟨bind_no HF2.out hn,rfl⟩⟩
 have HF3:Hid _:=bind_go HF2.out hn
 have HP3:Hid (IsP g r3 w3∧Rp g W0 w3):=⟨hp,HP2.out.2.trans hr⟩
 have HL3:Hid (r3.length≤16777216):=(show _≤_ by have h1:=(rdList_ok hn (by have:=HL2.out;omega)).2;have h2:=HL2.out;omega)
 have HO2:Hid (Own (w.heap.size+2) w3 v2 x2):=ho.mono (by have h1:=HP2.out.2.size;have h2:=HS0.out;omega)
 clear ho
 obtain ⟨a2,l2,c2,hv2⟩:=slice_of_row HO2.out
 subst hv2
 clear hn hp hr HF2 HP2 HL2
 refine HK.out _ _ (HRC.out _ HP3.out.2) (fun hHeld=>?_)
 clear HK K
 refine wpAnyH_ready (rs:=[9]) (by kernel_rfl) (by simp) ?_
 refine AllReadyH.cons rfl (fun K hK=>?_) AllReadyH.nil
 have HK:Hid _:=hK
 clear hK
 go_simp
 refine (HSX.out _ _ HP3.out.2 HP3.out.1 HL3.out).mono ?_
 rintro e w4 ⟨hr,⟨x3,r4,v3,hn,rfl,ho,hp⟩ | ⟨hn,rfl⟩⟩
 rotate_left
 ·exact ⟨rfl,HW0.out.trans (HP3.out.2.trans hr),.inr ⟨bind_no HF3.out hn,rfl⟩⟩
 have HF4:Hid _:=bind_go HF3.out hn
 have HP4:Hid (IsP g r4 w4∧Rp g W0 w4):=⟨hp,HP3.out.2.trans hr⟩
 have HL4:Hid (r4.length≤16777216):=(show _≤_ by have h1:=(Sv.rdList_ok hn (by have:=HL3.out;omega)).2;have h2:=HL3.out;omega)
 have HO3:Hid (Sv.Own (w.heap.size+2) w4 v3 x3):=ho.mono (by have h1:=HP3.out.2.size;have h2:=HS0.out;omega)
 clear ho
 have HO2n:Hid (Own (w.heap.size+2) w4 (.slice a2 l2 c2) x2):=hr.row HO2.out (by omega)
 clear HO2
 have HO2:Hid (Own (w.heap.size+2) w4 (.slice a2 l2 c2) x2):=HO2n.out
 clear HO2n
 obtain ⟨a3,l3,c3,hv3⟩:=slice_of_row HO3.out
 subst hv3
 clear hn hp hr HF3 HP3 HL3
 refine HK.out _ _ (HRC.out _ HP4.out.2) (fun hHeld=>?_)
 clear HK K
 refine wpAnyH_ready (rs:=[12]) (by kernel_rfl) (by simp) ?_
 refine AllReadyH.cons rfl (fun K hK=>?_) AllReadyH.nil
 have HK:Hid _:=hK
 clear hK
 go_simp
 refine (HGX.out _ _ HP4.out.2 HP4.out.1 HL4.out).mono ?_
 rintro e w5 ⟨hr,⟨x4,r5,v4,hn,rfl,ho,hp⟩ | ⟨hn,rfl⟩⟩
 rotate_left
 ·exact ⟨rfl,HW0.out.trans (HP4.out.2.trans hr),.inr ⟨bind_no HF4.out hn,rfl⟩⟩
 have HF5:Hid _:=bind_go HF4.out hn
 have HP5:Hid (IsP g r5 w5∧Rp g W0 w5):=⟨hp,HP4.out.2.trans hr⟩
 have HL5:Hid (r5.length≤16777216):=(show _≤_ by have h1:=(Gw.rdList_ok hn (by have:=HL4.out;omega)).2;have h2:=HL4.out;omega)
 have HO4:Hid (Gw.Own (w.heap.size+2) w5 v4 x4):=ho.mono (by have h1:=HP4.out.2.size;have h2:=HS0.out;omega)
 clear ho
 have HO2n:Hid (Own (w.heap.size+2) w5 (.slice a2 l2 c2) x2):=hr.row HO2.out (by omega)
 clear HO2
 have HO2:Hid (Own (w.heap.size+2) w5 (.slice a2 l2 c2) x2):=HO2n.out
 clear HO2n
 have HO3n:Hid (Sv.Own (w.heap.size+2) w5 (.slice a3 l3 c3) x3):=hr.row HO3.out (by omega)
 clear HO3
 have HO3:Hid (Sv.Own (w.heap.size+2) w5 (.slice a3 l3 c3) x3):=HO3n.out
 clear HO3n
 obtain ⟨a4,l4,c4,hv4⟩:=slice_of_row HO4.out
 subst hv4
 clear hn hp hr HF4 HP4 HL4
 refine HK.out _ _ (HRC.out _ HP5.out.2) (fun hHeld=>?_)
 clear HK K
 refine wpAnyH_ready (rs:=[15]) (by kernel_rfl) (by simp) ?_
 refine AllReadyH.cons rfl (fun K hK=>?_) AllReadyH.nil
 have HK:Hid _:=hK
 clear hK
 go_simp
 refine (HWX.out _ _ HP5.out.2 HP5.out.1 HL5.out).mono ?_
 rintro e w6 ⟨hr,⟨x5,r6,v5,hn,rfl,ho,hp⟩ | ⟨hn,rfl⟩⟩
 rotate_left
 ·exact ⟨rfl,HW0.out.trans (HP5.out.2.trans hr),.inr ⟨bind_no HF5.out hn,rfl⟩⟩
 have HF6:Hid _:=bind_go HF5.out hn
 have HP6:Hid (IsP g r6 w6∧Rp g W0 w6):=⟨hp,HP5.out.2.trans hr⟩
 have HL6:Hid (r6.length≤16777216):=(show _≤_ by have h1:=(Wh.rdList_ok hn (by have:=HL5.out;omega)).2;have h2:=HL5.out;omega)
 have HO5:Hid (Wh.Own (w.heap.size+2) w6 v5 x5):=ho.mono (by have h1:=HP5.out.2.size;have h2:=HS0.out;omega)
 clear ho
 have HO2n:Hid (Own (w.heap.size+2) w6 (.slice a2 l2 c2) x2):=hr.row HO2.out (by omega)
 clear HO2
 have HO2:Hid (Own (w.heap.size+2) w6 (.slice a2 l2 c2) x2):=HO2n.out
 clear HO2n
 have HO3n:Hid (Sv.Own (w.heap.size+2) w6 (.slice a3 l3 c3) x3):=hr.row HO3.out (by omega)
 clear HO3
 have HO3:Hid (Sv.Own (w.heap.size+2) w6 (.slice a3 l3 c3) x3):=HO3n.out
 clear HO3n
 have HO4n:Hid (Gw.Own (w.heap.size+2) w6 (.slice a4 l4 c4) x4):=hr.row HO4.out (by omega)
 clear HO4
 have HO4:Hid (Gw.Own (w.heap.size+2) w6 (.slice a4 l4 c4) x4):=HO4n.out
 clear HO4n
 obtain ⟨a5,l5,c5,hv5⟩:=slice_of_row HO5.out
 subst hv5
 clear hn hp hr HF5 HP5 HL5
 refine HK.out _ _ (HRC.out _ HP6.out.2) (fun hHeld=>?_)
 clear HK K
 refine wpAnyH_take (i:=16) (v:=?vb) rfl (by kernel_rfl) (by kernel_rfl) (by kernel_rfl) (fun _ _ _ h=>h) (Or.inl ⟨by rfl,?hy⟩) (by assumption) ?_
 case hy=>(intro W hSw;go_simp;try with_reducible rfl)
 obtain ⟨b0,b1,b2,b3,b4,b5,z0,z1,z2,z3,z4,z5⟩:=HBX.out w6 HP6.out.2
 refine wpAnyH_ready (rs:=[17]) (by kernel_rfl) (by simp) ?_
 refine AllReadyH.cons rfl (fun K hK=>?_) AllReadyH.nil
 have HK:Hid _:=hK
 clear hK
 go_simp
 obtain ⟨wf,hwf⟩:∃ wf,wf=((((((w6.setCell ⟨w.heap.size+1,0,none⟩ (.string x0)).setCell ⟨w.heap.size+1,1,none⟩ (.bool x1)).setCell ⟨w.heap.size+1,2,none⟩ (.slice a2 l2 c2)).setCell ⟨w.heap.size+1,3,none⟩ (.slice a3 l3 c3)).setCell ⟨w.heap.size+1,4,none⟩ (.slice a4 l4 c4)).setCell ⟨w.heap.size+1,5,none⟩ (.slice a5 l5 c5)):=⟨_,rfl⟩
 have HX:Hid (IsP g r6 wf∧Rp g w wf∧wf.cell? ⟨w.heap.size,0,none⟩=some (.pointer (some ⟨g,0,none⟩))∧PkOwn (w.heap.size+2) wf ⟨x0,x1,x2,x3,x4,x5⟩ (.slice a2 l2 c2) (.slice a3 l3 c3) (.slice a4 l4 c4) (.slice a5 l5 c5)):=by
  have hk:∀ k,k≠w.heap.size+1→wf.heap[k]?=w6.heap[k]?:=fun k hk=>by rw [hwf,Below.heap_setCell _ _ _ k hk,Below.heap_setCell _ _ _ k hk,Below.heap_setCell _ _ _ k hk,Below.heap_setCell _ _ _ k hk,Below.heap_setCell _ _ _ k hk,Below.heap_setCell _ _ _ k hk]
  have hsz:wf.heap.size=w6.heap.size:=by rw [hwf];simp
  have hgk:=hk g (fun e=>hgn e.symm)
  have hck:=hk w.heap.size (by omega)
  have hr:=HW0.out.trans HP6.out.2
  have hos:wf.os=w6.os:=by rw [hwf];simp only [os_set]
  have htp:wf.tape=w6.tape:=by rw [hwf];simp only [tape_set]
  have hot:wf.output=w6.output:=by rw [hwf];simp only [output_set]
  have hkk:∀ b,w.heap.size+2≤b→b < w6.heap.size→wf.heap[b]?=w6.heap[b]?:=fun b hb _=>hk b (by omega)
  refine ⟨⟨?_,?_,by rw [hsz];exact HP6.out.1.hg⟩,⟨hos.trans hr.os,htp.trans hr.tape,hot.trans hr.output,by rw [hsz];exact hr.size,fun k hk1 hk2=>(hk k (by omega)).trans (hr.block k hk1 hk2)⟩,?_,⟨row_keep hkk HO2.out,row_keep hkk HO3.out,row_keep hkk HO4.out,row_keep hkk HO5.out⟩⟩
  ·have:=HP6.out.1.c0
   simp only [World.cell?] at this ⊢
   rw [hgk];exact this
  ·have:=HP6.out.1.hz
   simp only [World.frozen?] at this ⊢
   rw [hgk];exact this
  ·have:=HRC.out _ HP6.out.2
   simp only [World.cell?] at this ⊢
   rw [hck];exact this
 have f0:wf.cell? ⟨w.heap.size+1,0,none⟩=some (.string x0):=by rw [hwf];simp [go_sem,b0]
 have f1:wf.cell? ⟨w.heap.size+1,1,none⟩=some (.bool x1):=by rw [hwf];simp [go_sem,b1]
 have f2:wf.cell? ⟨w.heap.size+1,2,none⟩=some (.slice a2 l2 c2):=by rw [hwf];simp [go_sem,b2]
 have f3:wf.cell? ⟨w.heap.size+1,3,none⟩=some (.slice a3 l3 c3):=by rw [hwf];simp [go_sem,b3]
 have f4:wf.cell? ⟨w.heap.size+1,4,none⟩=some (.slice a4 l4 c4):=by rw [hwf];simp [go_sem,b4]
 have f5:wf.cell? ⟨w.heap.size+1,5,none⟩=some (.slice a5 l5 c5):=by rw [hwf];simp [go_sem,b5]
 rw [← hwf]
 clear hwf z0 b0 z1 b1 z2 b2 z3 b3 z4 b4 z5 b5 HRC HBX HTX HFX HMX HSX HGX HWX
 have hcf:=HX.out.2.2.1
 refine HK.out _ _ hcf (fun hHeld=>?_)
 clear HK K
 refine wpAnyH_done (by kernel_rfl) ?_ _
 clear hHeld
 go_wp2_with fail
 simp [bodyPost,results,Tryz.results122,go_sem,f0,f1,f2,f3,f4,f5]
 exact ⟨HX.out.2.1,.inl ⟨_,_,_,_,_,_,HF6.out,rfl,HX.out.2.2.2,HX.out.1⟩⟩
end Go.Proofs.YtffdoiokmiklgaaGreatDoor
