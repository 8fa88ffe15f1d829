import Derived.Test.YtffdoiokmiklgaaGreatDoortr1
import Derived.Test.YtffdoiokmiklgaaGreatDoortr28
import Derived.Test.YtffdoiokmiklgaaGreatDoortr13
import Derived.Test.YtffdoiokmiklgaaGreatDoortr25
import Derived.Shelf.RegionOpen
import Derived.Test.YtffdoiokmiklgaaGreatDoortr15
namespace Go.Proofs.YtffdoiokmiklgaaGreatDoor
namespace Lt
open Go.RowKit
structure Ltr where
 to:Int
 text:ByteArray
def dm:Ltr:=⟨0,ByteArray.empty⟩
def Ltr.ok (m:Ltr):Prop:=m.text.size≤maxLen
theorem dm_ok:dm.ok:=by simp [Ltr.ok,dm]
def Row (w:World) (b off:Nat) (ms:List Ltr):Prop:=∀ j,j < ms.length →
 w.cell? ⟨b,off+j * 2,none⟩=some (.int .i64 (ms.getD j dm).to)∧w.cell? ⟨b,off+j * 2+1,none⟩=some (.string (ms.getD j dm).text)
def Sl (w:World) (v:Value) (ms:List Ltr):Prop:=
 ∃ (a:Option Addr) (cap:Nat),v=.slice a ms.length cap∧(∀ j,(ms.getD j dm).ok) ∧
  (ms=[]∨∃ b off,a=some ⟨b,off,none⟩∧b < w.heap.size∧Row w b off ms)
def Ltr.cs (m:Ltr):List Value:=[.int .i64 m.to,.string m.text]
def fl (ms:List Ltr):List Value:=ms.flatMap Ltr.cs
theorem cs_len (m:Ltr):m.cs.length=2:=rfl
theorem fl_cons (m:Ltr) (r:List Ltr):fl (m :: r)=m.cs++fl r:=by simp [fl]
theorem fl_append (a b:List Ltr):fl (a++b)=fl a++fl b:=by simp [fl]
theorem fl_len:∀ ms:List Ltr,(fl ms).length=ms.length * 2
 | []=>rfl
 | m :: r=>by rw [fl_cons,List.length_append,fl_len r,cs_len,List.length_cons];omega
theorem fl_take:∀ (ms:List Ltr) (i:Nat),(fl ms).take (i * 2)=fl (ms.take i)
 | [],i=>by simp [fl]
 | m :: r,0=>by simp [fl]
 | m :: r,i+1=>by
   rw [fl_cons,List.take_succ_cons,fl_cons,show (i+1) * 2=m.cs.length+i * 2 by rw [cs_len];omega,List.take_length_add_append,fl_take r i]
theorem fl_drop:∀ (ms:List Ltr) (i:Nat),(fl ms).drop (i * 2)=fl (ms.drop i)
 | [],i=>by simp [fl]
 | m :: r,0=>by simp
 | m :: r,i+1=>by
   rw [fl_cons,List.drop_succ_cons,show (i+1) * 2=m.cs.length+i * 2 by rw [cs_len];omega,List.drop_length_add_append,fl_drop r i]
theorem cs_one (m:Ltr):∀ v∈m.cs,v.oneCell'=true:=by
 intro v hv;simp [Ltr.cs] at hv;rcases hv with rfl | rfl<;>rfl
theorem fl_one (ms:List Ltr):∀ v∈fl ms,v.oneCell'=true:=by
 intro v hv
 obtain ⟨m,_,h⟩:=List.mem_flatMap.1 hv
 exact cs_one m v h
theorem fl_get (ms:List Ltr) (j:Nat) (hj:j < ms.length) (t:Nat) (ht:t < 2):(fl ms)[j * 2+t]?=(ms.getD j dm).cs[t]?:=by
 induction ms generalizing j with
 | nil=>simp at hj
 | cons m r ih=>
   rw [fl_cons]
   cases j with
   | zero=>rw [List.getElem?_append_left (by rw [cs_len];omega)];simp
   | succ j=>
     rw [List.getElem?_append_right (by rw [cs_len];omega),cs_len,show (j+1) * 2+t - 2=j * 2+t by omega,ih j (by simpa using hj)]
     simp
abbrev Own (base:Nat) (w:World) (v:Value) (ms:List Ltr):Prop:=w.ownsRow base 65 2 v ms.length (fl ms)
theorem Own.sl {base:Nat} {w:World} {v:Value} {ms:List Ltr} (h:Own base w v ms) (hs:∀ j,(ms.getD j dm).ok):Sl w v ms:=by
 rcases h.2 with ⟨rfl,h0⟩ | ⟨g,c,cur,rfl,hbg,hg,hnc,hcm,hcs,htake⟩
 ·exact ⟨none,0,by rw [h0],hs,.inl (List.eq_nil_of_length_eq_zero h0)⟩
 ·refine ⟨_,c,rfl,hs,.inr ⟨g,0,rfl,(Array.getElem?_eq_some_iff.1 hg).1,fun j hj=>?_⟩⟩
  have hc:∀ t,t < 2→w.cell? ⟨g,0+j * 2+t,none⟩=(ms.getD j dm).cs[t]?:=fun t ht=>by
   rw [cellsAt hg,← fl_get ms j hj t ht,← htake,List.getElem?_take_of_lt (by omega)];simp
  exact ⟨hc 0 (by omega),hc 1 (by omega)⟩
theorem Own.below {base:Nat} {w w':World} {v:Value} {ms:List Ltr} (h:Own base w v ms) (hb:Below w.heap.size w w'):Own base w' v ms:=by
 rcases h.2 with ⟨rfl,h0⟩ | ⟨g,c,cur,rfl,hbg,hg,hnc,hcm,hcs,htake⟩
 ·exact ⟨h.1,.inl ⟨rfl,h0⟩⟩
 ·have hlt:g < w.heap.size:=(Array.getElem?_eq_some_iff.1 hg).1
  exact ⟨h.1,.inr ⟨g,c,cur,rfl,hbg,(hb.block g hlt).trans hg,hnc,hcm,hcs,htake⟩⟩
theorem Sl.below {w w':World} {v:Value} {ms:List Ltr} (h:Sl w v ms) (hb:Below w.heap.size w w'):Sl w' v ms:=by
 obtain ⟨a,cap,rfl,hs,h⟩:=h
 refine ⟨a,cap,rfl,hs,?_⟩
 rcases h with h | ⟨b,off,rfl,hlt,hr⟩
 ·exact .inl h
 ·refine .inr ⟨b,off,rfl,Nat.lt_of_lt_of_le hlt hb.size,fun j hj=>?_⟩
  obtain ⟨hc,_⟩:=bcell hb
  obtain ⟨c0,c1⟩:=hr j hj
  exact ⟨(hc _ _ hlt).trans c0,(hc _ _ hlt).trans c1⟩
theorem Row.later {w w':World} {b off:Nat} {ms:List Ltr} (hr:Row w b off ms) (hb:Below w.heap.size w w') (hlt:b < w.heap.size):Row w' b off ms:=fun j hj=>by
 obtain ⟨hc,_⟩:=bcell hb
 obtain ⟨c0,c1⟩:=hr j hj
 exact ⟨(hc _ _ hlt).trans c0,(hc _ _ hlt).trans c1⟩
theorem Own.mono {base base':Nat} {w:World} {v:Value} {ms:List Ltr} (h:Own base w v ms) (hb:base'≤base):Own base' w v ms:=by
 rcases h.2 with ⟨rfl,h0⟩ | ⟨g,c,cur,rfl,hbg,hg,hnc,hcm,hcs,htake⟩
 ·exact ⟨h.1,.inl ⟨rfl,h0⟩⟩
 ·exact ⟨h.1,.inr ⟨g,c,cur,rfl,Nat.le_trans hb hbg,hg,hnc,hcm,hcs,htake⟩⟩
theorem own_nil (base:Nat) (w:World):Own base w (.slice none 0 0) []:=World.ownsRow_nil w base 65 2
theorem ns_get {ms:List Ltr} (h:∀ m∈ms,(m).ok):∀ j,(ms.getD j dm).ok:=by
 intro j
 by_cases hj:j < ms.length
 ·have:=h ms[j] (List.getElem_mem hj)
  simpa [List.getD,List.getElem?_eq_getElem hj] using this
 ·rw [List.getD,List.getElem?_eq_none (Nat.le_of_not_lt hj)];exact dm_ok
theorem own_names {base:Nat} {w:World} {v:Value} {ms:List Ltr} (h:Own base w v ms) (hs:∀ m∈ms,(m).ok):Sl w v ms:=h.sl (ns_get hs)
end Lt
end Go.Proofs.YtffdoiokmiklgaaGreatDoor
namespace Go.Proofs.YtffdoiokmiklgaaGreatDoor
open Go.RowKit
def rdPk (l:List UInt8):Option (Pk × List UInt8):=
 (rdT l).bind fun a0=>(rdF a0.2).bind fun a1=>(rdList a1.2).bind fun a2=>(Sv.rdList a2.2).bind fun a3=>(Gw.rdList a3.2).bind fun a4=>(Wh.rdList a4.2).bind fun a5=>some (⟨a0.1,a1.1,a2.1,a3.1,a4.1,a5.1⟩,a5.2)
structure PkOwn (base:Nat) (w:World) (p:Pk) (vm vs vg vw:Value):Prop where
 ms:Own base w vm p.ms
 sv:Sv.Own base w vs p.sv
 gw:Gw.Own base w vg p.gw
 wh:Wh.Own base w vw p.wh
theorem row_keep {base:Nat} {w w':World} {T:TypeId} {k n:Nat} {v:Value} {cs:List Value} (h:∀ b,base≤b→b < w.heap.size→w'.heap[b]?=w.heap[b]?) (ho:w.ownsRow base T k v n cs):w'.ownsRow base T k v n cs:=by
 rcases ho.2 with ⟨rfl,h0⟩ | ⟨b,c,cur,rfl,hbg,hb,hr⟩
 ·exact ⟨ho.1,.inl ⟨rfl,h0⟩⟩
 ·exact ⟨ho.1,.inr ⟨b,c,cur,rfl,hbg,(h b hbg (Array.getElem?_eq_some_iff.1 hb).1).trans hb,hr⟩⟩
theorem PkOwn.keep {base:Nat} {w w':World} {p:Pk} {vm vs vg vw:Value} (h:PkOwn base w p vm vs vg vw) (hk:∀ b,base≤b→b < w.heap.size→w'.heap[b]?=w.heap[b]?):PkOwn base w' p vm vs vg vw:=⟨row_keep hk h.ms,row_keep hk h.sv,row_keep hk h.gw,row_keep hk h.wh⟩
def PkP (g:Nat) (w:World) (o:Option (Pk × List UInt8)) (e:Ending) (w':World):Prop:=
 Rp g w w'∧((∃ p r vm vs vg vw,o=some (p,r)∧e=.returned (.agg #[.string p.frm,.bool p.whole,vm,vs,vg,vw])∧PkOwn (w.heap.size+2) w' p vm vs vg vw∧IsP g r w')∨(o=none∧e=outP 1))
theorem slice_of_row {base:Nat} {w:World} {T:TypeId} {k n:Nat} {v:Value} {cs:List Value} (h:w.ownsRow base T k v n cs):∃ a l c,v=.slice a l c:=by
 rcases h.2 with ⟨hv,_⟩ | ⟨_,_,_,hv,_⟩
 ·exact ⟨_,_,_,hv⟩
 ·exact ⟨_,_,_,hv⟩
set_option maxHeartbeats 12800000 in
set_option maxRecDepth 100000 in
theorem packet_b {B g:Nat} {l:List UInt8} {w:World} (hV:Rv B w) (hBg:B≤g) (h:IsP g l w) (hs:l.length≤16777216) :
 Calls Tryz.prog 122 #[.pointer (some ⟨g,0,none⟩)] w (PkP g w (rdPk l)):=by
 obtain ⟨F,hF⟩:∃ F,F=rdPk l:=⟨_,rfl⟩
 rw [← hF]
 unfold rdPk at hF
 have HF0:Hid _:=hF
 have hmf:∀ (fn:Fn) (first cap:Array Value) (w:World),(Instr.makeFunc fn first cap).run Tryz.prog w=.ok (.func fn first cap) w:=fun _ _ _ _=>rfl
 obtain ⟨W0,hW0⟩:∃ W0,W0=(w.alloc (.cells #[.pointer (some ⟨g,0,none⟩)] 185)).alloc (.cells #[.string ⟨#[]⟩,.bool false,.slice none 0 0,.slice none 0 0,.slice none 0 0,.slice none 0 0] 67):=⟨_,rfl⟩
 have hb0:Below w.heap.size w W0:=by rw [hW0];exact ((Below.refl _ _).alloc (Nat.le_refl _) _).alloc (by simp) _
 have hs0:W0.heap.size=w.heap.size+2:=by rw [hW0];simp
 have hg0:W0.heap[w.heap.size+1]?=some (.cells #[.string ⟨#[]⟩,.bool false,.slice none 0 0,.slice none 0 0,.slice none 0 0,.slice none 0 0] 67 (0,0)):=by
  rw [hW0]
  have:=heap_alloc_new (w.alloc (.cells #[.pointer (some ⟨g,0,none⟩)] 185)) (.cells #[.string ⟨#[]⟩,.bool false,.slice none 0 0,.slice none 0 0,.slice none 0 0,.slice none 0 0] 67)
  simpa using this
 have hp0:W0.heap[w.heap.size]?=some (.cells #[.pointer (some ⟨g,0,none⟩)] 185 (0,0)):=by
  rw [hW0]
  exact (Lib.alloc_old _ _ _ (by simp)).trans (heap_alloc_new w _)
 have hV0:Rv B W0:=hV.below (hb0.mono hV.le)
 have hgl:=h.hg
 have hgn:w.heap.size+1≠g:=by omega
 have hgm:w.heap.size≠g:=by omega
 have HW0:Hid (Rp g w W0):=Rp.of_below hb0 (Nat.le_refl _)
 have HS0:Hid (W0.heap.size=w.heap.size+2):=hs0
 have HP0:Hid (IsP g l W0.drew∧Rp g W0 W0.drew):=⟨(h.below hb0).drew,(Rp.refl _ _).drew⟩
 have HL0:Hid (l.length≤16777216):=hs
 have HRC:Hid (∀ W,Rp g W0 W→W.cell? ⟨w.heap.size,0,none⟩=some (.pointer (some ⟨g,0,none⟩))):=fun W hW=>cellsAt (hW.block' hgm hp0) 0
 have HBX:Hid (∀ W,Rp g W0 W→W.cell? ⟨w.heap.size+1,0,none⟩=some (.string ⟨#[]⟩)∧W.cell? ⟨w.heap.size+1,1,none⟩=some (.bool false)∧W.cell? ⟨w.heap.size+1,2,none⟩=some (.slice none 0 0)∧W.cell? ⟨w.heap.size+1,3,none⟩=some (.slice none 0 0)∧W.cell? ⟨w.heap.size+1,4,none⟩=some (.slice none 0 0)∧W.cell? ⟨w.heap.size+1,5,none⟩=some (.slice none 0 0)∧W.frozen? ⟨w.heap.size+1,0,none⟩=false∧W.frozen? ⟨w.heap.size+1,1,none⟩=false∧W.frozen? ⟨w.heap.size+1,2,none⟩=false∧W.frozen? ⟨w.heap.size+1,3,none⟩=false∧W.frozen? ⟨w.heap.size+1,4,none⟩=false∧W.frozen? ⟨w.heap.size+1,5,none⟩=false):=fun W hW=>by
  have e:=hW.block' hgn hg0
  exact ⟨cellsAt e 0,cellsAt e 1,cellsAt e 2,cellsAt e 3,cellsAt e 4,cellsAt e 5,by simp [World.frozen?,e],by simp [World.frozen?,e],by simp [World.frozen?,e],by simp [World.frozen?,e],by simp [World.frozen?,e],by simp [World.frozen?,e]⟩
 have HTX:Hid (∀ (W:World) (m:List UInt8),Rp g W0 W→IsP g m W→m.length≤16777216→Calls Tryz.prog 164 #[.pointer (some ⟨g,0,none⟩)] W (RdP g W (fun s:ByteArray=>.string s) (rdT m))):=fun W m hW hm hml=>text_b (hV0.rp hBg hW) hm (by omega)
 have HFX:Hid (∀ (W:World) (m:List UInt8),Rp g W0 W→IsP g m W→m.length≤16777216→Calls Tryz.prog 165 #[.pointer (some ⟨g,0,none⟩)] W (RdP g W (fun y:Bool=>.bool y) (rdF m))):=fun W m hW hm hml=>flag_b (hV0.rp hBg hW) hm (by omega)
 have HMX:Hid (∀ (W:World) (m:List UInt8),Rp g W0 W→IsP g m W→m.length≤16777216→Calls Tryz.prog 166 #[.pointer (some ⟨g,0,none⟩),.func (.func 167) #[] #[.pointer (some ⟨w.heap.size,0,none⟩)]] W (LsP g W (rdList m))):=fun W m hW hm hml=>list_b (hV0.rp hBg hW) hBg hm hml (HRC.out W hW) hgm (by have:=hW.size;omega)
 have HSX:Hid (∀ (W:World) (m:List UInt8),Rp g W0 W→IsP g m W→m.length≤16777216→Calls Tryz.prog 169 #[.pointer (some ⟨g,0,none⟩),.func (.func 170) #[] #[.pointer (some ⟨w.heap.size,0,none⟩)]] W (Sv.LsP g W (Sv.rdList m))):=fun W m hW hm hml=>Sv.list_b (hV0.rp hBg hW) hBg hm hml (HRC.out W hW) hgm (by have:=hW.size;omega)
 have HGX:Hid (∀ (W:World) (m:List UInt8),Rp g W0 W→IsP g m W→m.length≤16777216→Calls Tryz.prog 171 #[.pointer (some ⟨g,0,none⟩),.func (.func 172) #[] #[.pointer (some ⟨w.heap.size,0,none⟩)]] W (Gw.LsP g W (Gw.rdList m))):=fun W m hW hm hml=>Gw.list_b (hV0.rp hBg hW) hBg hm hml (HRC.out W hW) hgm (by have:=hW.size;omega)
 have HWX:Hid (∀ (W:World) (m:List UInt8),Rp g W0 W→IsP g m W→m.length≤16777216→Calls Tryz.prog 173 #[.pointer (some ⟨g,0,none⟩),.func (.func 174) #[] #[.pointer (some ⟨w.heap.size,0,none⟩)]] W (Wh.LsP g W (Wh.rdList m))):=fun W m hW hm hml=>Wh.list_b (hV0.rp hBg hW) hBg hm hml (HRC.out W hW) hgm (by have:=hW.size;omega)
 clear hF h hV hb0 hg0 hp0 hV0 hBg hs hs0
 go_enter Tryz.func122,Tryz.ntmps122
 go_wp2_with fail
 rw [← hW0]
 clear hW0
 refine wp_region_held_drew (S:=fun W=>W.cell? ⟨w.heap.size,0,none⟩=some (.pointer (some ⟨g,0,none⟩))) (by kernel_rfl) (HRC.out _ HP0.out.2) (fun hHeld=>?_)
 refine wpAnyH_take (i:=0) (v:=.pointer (some ⟨g,0,none⟩)) rfl (by kernel_rfl) (by kernel_rfl) (by kernel_rfl) (fun _ _ _ h=>h) (Or.inl ⟨by rfl,?hy⟩) (by assumption) ?_
 case hy=>(intro W hSw;go_simp;try with_reducible rfl)
 refine wpAnyH_take (i:=2) (v:=.pointer (some ⟨g,0,none⟩)) rfl (by kernel_rfl) (by kernel_rfl) (by kernel_rfl) (fun _ _ _ h=>h) (Or.inl ⟨by rfl,?hy⟩) (by assumption) ?_
 case hy=>(intro W hSw;go_simp;try with_reducible rfl)
 refine wpAnyH_take (i:=4) (v:=.pointer (some ⟨g,0,none⟩)) rfl (by kernel_rfl) (by kernel_rfl) (by kernel_rfl) (fun _ _ _ h=>h) (Or.inl ⟨by rfl,?hy⟩) (by assumption) ?_
 case hy=>(intro W hSw;go_simp;try with_reducible rfl)
 refine wpAnyH_take (i:=7) (v:=.pointer (some ⟨g,0,none⟩)) rfl (by kernel_rfl) (by kernel_rfl) (by kernel_rfl) (fun _ _ _ h=>h) (Or.inl ⟨by rfl,?hy⟩) (by assumption) ?_
 case hy=>(intro W hSw;go_simp;try with_reducible rfl)
 refine wpAnyH_take (i:=10) (v:=.pointer (some ⟨g,0,none⟩)) rfl (by kernel_rfl) (by kernel_rfl) (by kernel_rfl) (fun _ _ _ h=>h) (Or.inl ⟨by rfl,?hy⟩) (by assumption) ?_
 case hy=>(intro W hSw;go_simp;try with_reducible rfl)
 refine wpAnyH_take (i:=13) (v:=.pointer (some ⟨g,0,none⟩)) rfl (by kernel_rfl) (by kernel_rfl) (by kernel_rfl) (fun _ _ _ h=>h) (Or.inl ⟨by rfl,?hy⟩) (by assumption) ?_
 case hy=>(intro W hSw;go_simp;try with_reducible rfl)
 refine wpAnyH_take (i:=5) (v:=.func (.func 167) #[] #[.pointer (some ⟨w.heap.size,0,none⟩)]) rfl (by kernel_rfl) (by kernel_rfl) (by kernel_rfl) (fun _ _ _ h=>h) (Or.inl ⟨by rfl,?hy⟩) (by assumption) ?_
 case hy=>(intro W hSw;go_simp;try with_reducible rfl)
 refine wpAnyH_take (i:=8) (v:=.func (.func 170) #[] #[.pointer (some ⟨w.heap.size,0,none⟩)]) rfl (by kernel_rfl) (by kernel_rfl) (by kernel_rfl) (fun _ _ _ h=>h) (Or.inl ⟨by rfl,?hy⟩) (by assumption) ?_
 case hy=>(intro W hSw;go_simp;try with_reducible rfl)
 refine wpAnyH_take (i:=11) (v:=.func (.func 172) #[] #[.pointer (some ⟨w.heap.size,0,none⟩)]) rfl (by kernel_rfl) (by kernel_rfl) (by kernel_rfl) (fun _ _ _ h=>h) (Or.inl ⟨by rfl,?hy⟩) (by assumption) ?_
 case hy=>(intro W hSw;go_simp;try with_reducible rfl)
 refine wpAnyH_take (i:=14) (v:=.func (.func 174) #[] #[.pointer (some ⟨w.heap.size,0,none⟩)]) rfl (by kernel_rfl) (by kernel_rfl) (by kernel_rfl) (fun _ _ _ h=>h) (Or.inl ⟨by rfl,?hy⟩) (by assumption) ?_
 case hy=>(intro W hSw;go_simp;try with_reducible rfl)
 refine wpAnyH_ready (rs:=[1]) (by kernel_rfl) (by simp) ?_
 refine AllReadyH.cons rfl (fun K hK=>?_) AllReadyH.nil
 have HK:Hid _:=hK
 clear hK
 go_simp
 refine (HTX.out _ _ HP0.out.2 HP0.out.1 HL0.out).mono ?_
 rintro e w1 ⟨hr,⟨x0,r1,hn,rfl,hp⟩ | ⟨hn,rfl⟩⟩
 rotate_left
 ·exact ⟨rfl,HW0.out.trans (HP0.out.2.trans hr),.inr ⟨bind_no HF0.out hn,rfl⟩⟩
 have HF1:Hid _:=bind_go HF0.out hn
 have HP1:Hid (IsP g r1 w1∧Rp g W0 w1):=⟨hp,HP0.out.2.trans hr⟩
 have HL1:Hid (r1.length≤16777216):=(show _≤_ by have h1:=(rdT_in hn).2;have h2:=HL0.out;omega)
 clear hn hp hr HF0 HP0 HL0
 refine HK.out _ _ (HRC.out _ HP1.out.2) (fun hHeld=>?_)
 clear HK K
 refine wpAnyH_ready (rs:=[3]) (by kernel_rfl) (by simp) ?_
 refine AllReadyH.cons rfl (fun K hK=>?_) AllReadyH.nil
 have HK:Hid _:=hK
 clear hK
 go_simp
 refine (HFX.out _ _ HP1.out.2 HP1.out.1 HL1.out).mono ?_
 rintro e w2 ⟨hr,⟨x1,r2,hn,rfl,hp⟩ | ⟨hn,rfl⟩⟩
 rotate_left
 ·exact ⟨rfl,HW0.out.trans (HP1.out.2.trans hr),.inr ⟨bind_no HF1.out hn,rfl⟩⟩
 have HF2:Hid _:=bind_go HF1.out hn
 have HP2:Hid (IsP g r2 w2∧Rp g W0 w2):=⟨hp,HP1.out.2.trans hr⟩
 have HL2:Hid (r2.length≤16777216):=(show _≤_ by have h1:=rdF_in hn;have h2:=HL1.out;omega)
 clear hn hp hr HF1 HP1 HL1
 refine HK.out _ _ (HRC.out _ HP2.out.2) (fun hHeld=>?_)
 clear HK K
 refine wpAnyH_ready (rs:=[6]) (by kernel_rfl) (by simp) ?_
 refine AllReadyH.cons rfl (fun K hK=>?_) AllReadyH.nil
 have HK:Hid _:=hK
 clear hK
 go_simp
 refine (HMX.out _ _ HP2.out.2 HP2.out.1 HL2.out).mono ?_
 rintro e w3 ⟨hr,⟨x2,r3,v2,hn,rfl,ho,hp⟩ | ⟨hn,rfl⟩⟩
 rotate_left
 ·exact ⟨rfl,HW0.out.trans (HP2.out.2.trans hr),.inr ⟨bind_no HF2.out hn,rfl⟩⟩
 have HF3:Hid _:=bind_go HF2.out hn
 have HP3:Hid (IsP g r3 w3∧Rp g W0 w3):=⟨hp,HP2.out.2.trans hr⟩
 have HL3:Hid (r3.length≤16777216):=(show _≤_ by have h1:=(rdList_ok hn (by have:=HL2.out;omega)).2;have h2:=HL2.out;omega)
 have HO2:Hid (Own (w.heap.size+2) w3 v2 x2):=ho.mono (by have h1:=HP2.out.2.size;have h2:=HS0.out;omega)
 clear ho
 obtain ⟨a2,l2,c2,hv2⟩:=slice_of_row HO2.out
 subst hv2
 clear hn hp hr HF2 HP2 HL2
 refine HK.out _ _ (HRC.out _ HP3.out.2) (fun hHeld=>?_)
 clear HK K
 refine wpAnyH_ready (rs:=[9]) (by kernel_rfl) (by simp) ?_
 refine AllReadyH.cons rfl (fun K hK=>?_) AllReadyH.nil
 have HK:Hid _:=hK
 clear hK
 go_simp
 refine (HSX.out _ _ HP3.out.2 HP3.out.1 HL3.out).mono ?_
 rintro e w4 ⟨hr,⟨x3,r4,v3,hn,rfl,ho,hp⟩ | ⟨hn,rfl⟩⟩
 rotate_left
 ·exact ⟨rfl,HW0.out.trans (HP3.out.2.trans hr),.inr ⟨bind_no HF3.out hn,rfl⟩⟩
 have HF4:Hid _:=bind_go HF3.out hn
 have HP4:Hid (IsP g r4 w4∧Rp g W0 w4):=⟨hp,HP3.out.2.trans hr⟩
 have HL4:Hid (r4.length≤16777216):=(show _≤_ by have h1:=(Sv.rdList_ok hn (by have:=HL3.out;omega)).2;have h2:=HL3.out;omega)
 have HO3:Hid (Sv.Own (w.heap.size+2) w4 v3 x3):=ho.mono (by have h1:=HP3.out.2.size;have h2:=HS0.out;omega)
 clear ho
 have HO2n:Hid (Own (w.heap.size+2) w4 (.slice a2 l2 c2) x2):=hr.row HO2.out (by omega)
 clear HO2
 have HO2:Hid (Own (w.heap.size+2) w4 (.slice a2 l2 c2) x2):=HO2n.out
 clear HO2n
 obtain ⟨a3,l3,c3,hv3⟩:=slice_of_row HO3.out
 subst hv3
 clear hn hp hr HF3 HP3 HL3
 refine HK.out _ _ (HRC.out _ HP4.out.2) (fun hHeld=>?_)
 clear HK K
 refine wpAnyH_ready (rs:=[12]) (by kernel_rfl) (by simp) ?_
 refine AllReadyH.cons rfl (fun K hK=>?_) AllReadyH.nil
 have HK:Hid _:=hK
 clear hK
 go_simp
 refine (HGX.out _ _ HP4.out.2 HP4.out.1 HL4.out).mono ?_
 rintro e w5 ⟨hr,⟨x4,r5,v4,hn,rfl,ho,hp⟩ | ⟨hn,rfl⟩⟩
 rotate_left
 ·exact ⟨rfl,HW0.out.trans (HP4.out.2.trans hr),.inr ⟨bind_no HF4.out hn,rfl⟩⟩
 have HF5:Hid _:=bind_go HF4.out hn
 have HP5:Hid (IsP g r5 w5∧Rp g W0 w5):=⟨hp,HP4.out.2.trans hr⟩
 have HL5:Hid (r5.length≤16777216):=(show _≤_ by have h1:=(Gw.rdList_ok hn (by have:=HL4.out;omega)).2;have h2:=HL4.out;omega)
 have HO4:Hid (Gw.Own (w.heap.size+2) w5 v4 x4):=ho.mono (by have h1:=HP4.out.2.size;have h2:=HS0.out;omega)
 clear ho
 have HO2n:Hid (Own (w.heap.size+2) w5 (.slice a2 l2 c2) x2):=hr.row HO2.out (by omega)
 clear HO2
 have HO2:Hid (Own (w.heap.size+2) w5 (.slice a2 l2 c2) x2):=HO2n.out
 clear HO2n
 have HO3n:Hid (Sv.Own (w.heap.size+2) w5 (.slice a3 l3 c3) x3):=hr.row HO3.out (by omega)
 clear HO3
 have HO3:Hid (Sv.Own (w.heap.size+2) w5 (.slice a3 l3 c3) x3):=HO3n.out
 clear HO3n
 obtain ⟨a4,l4,c4,hv4⟩:=slice_of_row HO4.out
 subst hv4
 clear hn hp hr HF4 HP4 HL4
 refine HK.out _ _ (HRC.out _ HP5.out.2) (fun hHeld=>?_)
 clear HK K
 refine wpAnyH_ready (rs:=[15]) (by kernel_rfl) (by simp) ?_
 refine AllReadyH.cons rfl (fun K hK=>?_) AllReadyH.nil
 have HK:Hid _:=hK
 clear hK
 go_simp
 refine (HWX.out _ _ HP5.out.2 HP5.out.1 HL5.out).mono ?_
 rintro e w6 ⟨hr,⟨x5,r6,v5,hn,rfl,ho,hp⟩ | ⟨hn,rfl⟩⟩
 rotate_left
 ·exact ⟨rfl,HW0.out.trans (HP5.out.2.trans hr),.inr ⟨bind_no HF5.out hn,rfl⟩⟩
 have HF6:Hid _:=bind_go HF5.out hn
 have HP6:Hid (IsP g r6 w6∧Rp g W0 w6):=⟨hp,HP5.out.2.trans hr⟩
 have HL6:Hid (r6.length≤16777216):=(show _≤_ by have h1:=(Wh.rdList_ok hn (by have:=HL5.out;omega)).2;have h2:=HL5.out;omega)
 have HO5:Hid (Wh.Own (w.heap.size+2) w6 v5 x5):=ho.mono (by have h1:=HP5.out.2.size;have h2:=HS0.out;omega)
 clear ho
 have HO2n:Hid (Own (w.heap.size+2) w6 (.slice a2 l2 c2) x2):=hr.row HO2.out (by omega)
 clear HO2
 have HO2:Hid (Own (w.heap.size+2) w6 (.slice a2 l2 c2) x2):=HO2n.out
 clear HO2n
 have HO3n:Hid (Sv.Own (w.heap.size+2) w6 (.slice a3 l3 c3) x3):=hr.row HO3.out (by omega)
 clear HO3
 have HO3:Hid (Sv.Own (w.heap.size+2) w6 (.slice a3 l3 c3) x3):=HO3n.out
 clear HO3n
 have HO4n:Hid (Gw.Own (w.heap.size+2) w6 (.slice a4 l4 c4) x4):=hr.row HO4.out (by omega)
 clear HO4
 have HO4:Hid (Gw.Own (w.heap.size+2) w6 (.slice a4 l4 c4) x4):=HO4n.out
 clear HO4n
 obtain ⟨a5,l5,c5,hv5⟩:=slice_of_row HO5.out
 subst hv5
 clear hn hp hr HF5 HP5 HL5
 refine HK.out _ _ (HRC.out _ HP6.out.2) (fun hHeld=>?_)
 clear HK K
 refine wpAnyH_take (i:=16) (v:=?vb) rfl (by kernel_rfl) (by kernel_rfl) (by kernel_rfl) (fun _ _ _ h=>h) (Or.inl ⟨by rfl,?hy⟩) (by assumption) ?_
 case hy=>(intro W hSw;go_simp;try with_reducible rfl)
 obtain ⟨b0,b1,b2,b3,b4,b5,z0,z1,z2,z3,z4,z5⟩:=HBX.out w6 HP6.out.2
 refine wpAnyH_ready (rs:=[17]) (by kernel_rfl) (by simp) ?_
 refine AllReadyH.cons rfl (fun K hK=>?_) AllReadyH.nil
 have HK:Hid _:=hK
 clear hK
 go_simp
 obtain ⟨wf,hwf⟩:∃ wf,wf=((((((w6.setCell ⟨w.heap.size+1,0,none⟩ (.string x0)).setCell ⟨w.heap.size+1,1,none⟩ (.bool x1)).setCell ⟨w.heap.size+1,2,none⟩ (.slice a2 l2 c2)).setCell ⟨w.heap.size+1,3,none⟩ (.slice a3 l3 c3)).setCell ⟨w.heap.size+1,4,none⟩ (.slice a4 l4 c4)).setCell ⟨w.heap.size+1,5,none⟩ (.slice a5 l5 c5)):=⟨_,rfl⟩
 have HX:Hid (IsP g r6 wf∧Rp g w wf∧wf.cell? ⟨w.heap.size,0,none⟩=some (.pointer (some ⟨g,0,none⟩))∧PkOwn (w.heap.size+2) wf ⟨x0,x1,x2,x3,x4,x5⟩ (.slice a2 l2 c2) (.slice a3 l3 c3) (.slice a4 l4 c4) (.slice a5 l5 c5)):=by
  have hk:∀ k,k≠w.heap.size+1→wf.heap[k]?=w6.heap[k]?:=fun k hk=>by rw [hwf,Below.heap_setCell _ _ _ k hk,Below.heap_setCell _ _ _ k hk,Below.heap_setCell _ _ _ k hk,Below.heap_setCell _ _ _ k hk,Below.heap_setCell _ _ _ k hk,Below.heap_setCell _ _ _ k hk]
  have hsz:wf.heap.size=w6.heap.size:=by rw [hwf];simp
  have hgk:=hk g (fun e=>hgn e.symm)
  have hck:=hk w.heap.size (by omega)
  have hr:=HW0.out.trans HP6.out.2
  have hos:wf.os=w6.os:=by rw [hwf];simp only [os_set]
  have htp:wf.tape=w6.tape:=by rw [hwf];simp only [tape_set]
  have hot:wf.output=w6.output:=by rw [hwf];simp only [output_set]
  have hkk:∀ b,w.heap.size+2≤b→b < w6.heap.size→wf.heap[b]?=w6.heap[b]?:=fun b hb _=>hk b (by omega)
  refine ⟨⟨?_,?_,by rw [hsz];exact HP6.out.1.hg⟩,⟨hos.trans hr.os,htp.trans hr.tape,hot.trans hr.output,by rw [hsz];exact hr.size,fun k hk1 hk2=>(hk k (by omega)).trans (hr.block k hk1 hk2)⟩,?_,⟨row_keep hkk HO2.out,row_keep hkk HO3.out,row_keep hkk HO4.out,row_keep hkk HO5.out⟩⟩
  ·have:=HP6.out.1.c0
   simp only [World.cell?] at this ⊢
   rw [hgk];exact this
  ·have:=HP6.out.1.hz
   simp only [World.frozen?] at this ⊢
   rw [hgk];exact this
  ·have:=HRC.out _ HP6.out.2
   simp only [World.cell?] at this ⊢
   rw [hck];exact this
 have f0:wf.cell? ⟨w.heap.size+1,0,none⟩=some (.string x0):=by rw [hwf];simp [go_sem,b0]
 have f1:wf.cell? ⟨w.heap.size+1,1,none⟩=some (.bool x1):=by rw [hwf];simp [go_sem,b1]
 have f2:wf.cell? ⟨w.heap.size+1,2,none⟩=some (.slice a2 l2 c2):=by rw [hwf];simp [go_sem,b2]
 have f3:wf.cell? ⟨w.heap.size+1,3,none⟩=some (.slice a3 l3 c3):=by rw [hwf];simp [go_sem,b3]
 have f4:wf.cell? ⟨w.heap.size+1,4,none⟩=some (.slice a4 l4 c4):=by rw [hwf];simp [go_sem,b4]
 have f5:wf.cell? ⟨w.heap.size+1,5,none⟩=some (.slice a5 l5 c5):=by rw [hwf];simp [go_sem,b5]
 rw [← hwf]
 clear hwf z0 b0 z1 b1 z2 b2 z3 b3 z4 b4 z5 b5 HRC HBX HTX HFX HMX HSX HGX HWX
 have hcf:=HX.out.2.2.1
 refine HK.out _ _ hcf (fun hHeld=>?_)
 clear HK K
 refine wpAnyH_done (by kernel_rfl) ?_ _
 clear hHeld
 go_wp2_with fail
 simp [bodyPost,results,Tryz.results122,go_sem,f0,f1,f2,f3,f4,f5]
 exact ⟨HX.out.2.1,.inl ⟨_,_,_,_,_,_,HF6.out,rfl,HX.out.2.2.2,HX.out.1⟩⟩
theorem Tryz.cellsByte:Tryz.prog.cellsOf 5=1:=by kernel_rfl
set_option maxHeartbeats 1000000 in
set_option maxRecDepth 100000 in
theorem string_any (B b:Nat) (l:List UInt8) (w:World) (h:IsW B b (Lib.byteCells l) w) (h0:l≠[]) :
 Calls Tryz.prog 252 #[.pointer (some ⟨b,0,none⟩)] w fun e w'=>e=.returned (.string ⟨l.toArray⟩)∧Below B w w':=by
 obtain ⟨p,hB,v,hbk,hown,hne⟩:∃ p,WAt B b p (Lib.byteCells l) w:=by
  rcases h with h | h
  ·exact ⟨_,h⟩
  ·exact ⟨_,h⟩
 have hl0:l.length≠0:=by simpa using h0
 rw [Lib.byteCells_length] at hown
 obtain ⟨g,cap,cur,rfl,hbg,hg,hnc,hcm,hcs,htake⟩:∃ g cap cur,v=.slice (some ⟨g,0,none⟩) l.length cap∧B≤g∧w.heap[g]?=some (.cells cur 5 (0,0))∧l.length≤cap∧cap≤maxLen∧cur.size=cap * 1∧cur.toList.take (l.length * 1)=Lib.byteCells l:=by
  rcases hown.2 with ⟨_,hz⟩ | ⟨g,cap,cur,hv,r⟩
  ·exact absurd hz hl0
  ·exact ⟨g,cap,cur,hv,r⟩
 have c1:w.drew.cell? ⟨b,1,none⟩=some (.slice (some ⟨g,0,none⟩) l.length cap):=by
  have:w.drew.heap[b]?=some (.cells #[p,.slice (some ⟨g,0,none⟩) l.length cap] 272 (0,0)):=hbk
  rw [Lib.cell_of_heap this];rfl
 have hSD:(Builtin.unsafeSliceData_ #[157] 307 #[.slice (some ⟨g,0,none⟩) l.length cap]).run Tryz.prog w.drew=.ok (.pointer (some ⟨g,0,none⟩)) w.drew:=
  Lib.run_unsafeSliceData_row _ _ _ _ _ _ (by omega)
 have hUS:(Builtin.unsafeString_ #[307,3] 9 #[.pointer (some ⟨g,0,none⟩),.int .i64 l.length]).run Tryz.prog w.drew=.ok (.string ⟨l.toArray⟩) (w.drew.freeze ⟨g,0,none⟩ l.length):=by
  refine Lib.run_unsafeString_row w.drew 307 3 9 5 Tryz.underlying307 Tryz.cellsByte g cur.size (by have hg':w.drew.heap[g]?=some (.cells cur 5 (0,0)):=hg;simp [World.shape?,hg']) l h0 (by omega) (by unfold maxLen at hcm;omega) ?_
  intro j x hx
  have:=hown.cells (g:=g) rfl j (.int .u8 x.toNat) (by simp [Lib.byteCells,hx])
  exact this
 have mixed:Tryz.prog.follows .mixedOrders=true:=by kernel_rfl
 go_enter Tryz.func252,Tryz.ntmps252
 go_wp2_with fail
 go_region_o
 all_goals (go_wp2;go_ret;exact ⟨rfl,Lib.below_freeze (Below.drew (Below.refl B w)) (p:=⟨g,0,none⟩) hbg _⟩)
theorem lab_size {s:ByteArray} (h:labB s=true):s.size≤1000:=by
 unfold labB at h
 simp only [Bool.and_eq_true,decide_eq_true_eq] at h
 have:=h.1.2
 omega
theorem tag_size {s:ByteArray} (h:Sv.tagB s=true):s.size≤1000:=by
 unfold Sv.tagB at h
 rw [Bool.or_eq_true,decide_eq_true_eq] at h
 rcases h with rfl | h
 ·show 0≤1000;omega
 ·exact lab_size h
theorem within_in {n a b:Int} (h:within n a b=true) (ha : -9223372036854775808≤a) (hb:b≤9223372036854775807):In63 n:=by
 unfold within at h
 rw [Bool.and_eq_true,decide_eq_true_eq,decide_eq_true_eq] at h
 exact ⟨by omega,by omega⟩
theorem wokM {m:Mem} (h:m.e=0):wok m:=by
 unfold Mem.e oneE at h
 split at h
 ·rename_i h1
  split at h
  ·rename_i h2
   split at h
   ·rename_i h3
    split at h
    ·rename_i h4
     exact ⟨lab_size h1,within_in h2 (by omega) (by omega),within_in h3 (by omega) (by omega),within_in h4 (by omega) (by omega)⟩
    ·cases h
   ·cases h
  ·cases h
 ·cases h
theorem wokS {m:Sv.Svc} (h:m.e=0):Sv.wok m:=by
 unfold Sv.Svc.e at h
 split at h
 ·rename_i h1
  split at h
  ·rename_i h2
   simp only [Bool.and_eq_true] at h1 h2
   exact ⟨lab_size h1.1,lab_size h1.2.1,lab_size h1.2.2.1,tag_size h1.2.2.2,within_in h2.1 (by omega) (by omega),within_in h2.2.1 (by omega) (by omega),within_in h2.2.2 (by omega) (by omega)⟩
  ·cases h
 ·cases h
theorem wokG {m:Gw.Gwy} (h:m.e=0):Gw.wok m:=by
 unfold Gw.Gwy.e at h
 split at h
 ·rename_i h1
  split at h
  ·rename_i h2
   split at h
   ·rename_i h3
    exact ⟨lab_size h1,within_in h2 (by omega) (by omega),within_in h3 (by omega) (by omega)⟩
   ·cases h
  ·cases h
 ·cases h
theorem wokW {m:Wh.Whe} (h:m.e=0):Wh.wok m:=by
 unfold Wh.Whe.e at h
 split at h
 ·rename_i h1
  obtain ⟨a0,a1,a2,a3,a4,a5,a6,a7,a8,a9⟩:=(okP_iff _).1 h
  simp only at a0 a1 a2 a3 a4 a5 a6 a7 a8 a9
  exact ⟨lab_size h1,⟨by omega,by omega⟩,⟨by omega,by omega⟩,⟨by omega,by omega⟩,⟨by omega,by omega⟩,⟨by omega,by omega⟩⟩
 ·cases h
theorem chk_firstE {ms:List Mem} (h:chk ms=0):firstE ms=0:=(chk_zero h).2.2
theorem pk_wok {p:Pk} (h:p.e=0):p.Wok:=by
 unfold Pk.e at h
 split at h
 ·rename_i h0
  rw [Bool.and_eq_true] at h0
  split at h
  ·rename_i h1
   have hm:p.ms.length≤20∧∀ m∈p.ms,wok m:=by
    unfold Pk.mE at h1
    split at h1
    ·exact ⟨(chk_zero h1).1,fun m hm=>wokM (firstE_mem _ (chk_firstE h1) m hm)⟩
    ·obtain ⟨a,b,_⟩:=chkT_zero h1
     exact ⟨by omega,fun m hm=>wokM (firstE_mem _ b m hm)⟩
   split at h
   ·rename_i h2
    split at h
    ·rename_i h3
     exact ⟨lab_size h0.1,hm,⟨(Sv.chk_zero h2).1,fun m hm=>wokS (Sv.firstE_mem _ (Sv.chk_zero h2).2.2 m hm)⟩,⟨(Gw.chk_zero h3).1,fun m hm=>wokG (Gw.firstE_mem _ (Gw.chk_zero h3).2.2 m hm)⟩,⟨(Wh.chk_zero h).1,fun m hm=>wokW (Wh.firstE_mem _ (Wh.chk_zero h).2.2 m hm)⟩⟩
    ·rename_i h3;exact absurd h h3
   ·rename_i h2;exact absurd h h2
  ·rename_i h1;exact absurd h h1
 ·cases h
def Pk.T (p:Pk):ByteArray:=if p.e=0 then ⟨p.B.toArray⟩ else ⟨#[]⟩
theorem Pk.B_ne (p:Pk):p.B≠[]:=by
 unfold Pk.B txtB numB
 simp
set_option maxHeartbeats 3200000 in
set_option maxRecDepth 100000 in
theorem pwrite_any (p:Pk) (zm zs zg zw:Value) (w:World) (hx:PkIs w p zm zs zg zw) (hlen:p.whole=true∨p.sv.length+p.gw.length+p.wh.length≤4611686018427387904) (hT:Tab w.heap.size w) :
 Calls Tryz.prog 221 #[.agg #[.string p.frm,.bool p.whole,zm,zs,zg,zw]] w fun e w'=>e=.returned (.tuple #[.string p.T,.int .i64 p.e])∧Below w.heap.size w w':=by
 have HCK:Hid (∀ W,Below w.heap.size w W→Calls Tryz.prog 88 #[.agg #[.string p.frm,.bool p.whole,zm,zs,zg,zw]] W fun e w'=>e=.returned (.int .i64 p.e)∧Below W.heap.size W w'):=fun W hW=>pcheck_any p zm zs zg zw W (hx.below hW) hlen
 have HWP:Hid (p.e=0→∀ W b,Below w.heap.size w W→IsW w.heap.size b [] W→Calls Tryz.prog 251 #[.pointer (some ⟨b,0,none⟩),.agg #[.string p.frm,.bool p.whole,zm,zs,zg,zw]] W fun e w'=>e=.returned (.tuple #[])∧IsW w.heap.size b (Lib.byteCells p.B) w'∧Kp w.heap.size b W w'):=fun h0 W b hW hI=>by
  have h:=wpacket_any w.heap.size b p zm zs zg zw w W hI hx rfl hW hW.size (hT.below hW) (pk_wok h0)
  rw [p.L_eq] at h
  exact h
 have HPT:Hid (p.T=if p.e=0 then ⟨p.B.toArray⟩ else ⟨#[]⟩):=rfl
 have HNE:Hid (p.B≠[]):=p.B_ne
 generalize p.B=PB at *
 generalize p.T=PT at *
 generalize p.e=pe at *
 obtain ⟨frm,whole,ms,sv,gw,wh⟩:=p
 obtain ⟨⟨pm,cm,rfl,_,_⟩,⟨ps,cs,rfl,_,_⟩,⟨pg,cg,rfl,_,_⟩,⟨ph,ch,rfl,_,_⟩,_,_⟩:=hx
 simp only at HCK HWP ⊢
 generalize ms.length=nm at *
 generalize sv.length=ns at *
 generalize gw.length=ng at *
 generalize wh.length=nh at *
 clear hlen hT
 obtain ⟨W0,hW0⟩:∃ W0,W0=w.alloc (.cells #[.string frm,.bool whole,.slice pm nm cm,.slice ps ns cs,.slice pg ng cg,.slice ph nh ch] 67):=⟨_,rfl⟩
 have hb0:Below w.heap.size w W0:=by rw [hW0];exact (Below.refl _ _).alloc (Nat.le_refl _) _
 have hg0:W0.heap[w.heap.size]?=some (.cells #[.string frm,.bool whole,.slice pm nm cm,.slice ps ns cs,.slice pg ng cg,.slice ph nh ch] 67 (0,0)):=by rw [hW0];exact heap_alloc_new w _
 have HB0:Hid (Below w.heap.size w W0):=hb0
 have HG0:Hid (W0.heap[w.heap.size]?=some (.cells #[.string frm,.bool whole,.slice pm nm cm,.slice ps ns cs,.slice pg ng cg,.slice ph nh ch] 67 (0,0))):=hg0
 have p0:W0.cell? ⟨w.heap.size,0,none⟩=_:=cellsAt hg0 0
 have p1:W0.cell? ⟨w.heap.size,1,none⟩=_:=cellsAt hg0 1
 have p2:W0.cell? ⟨w.heap.size,2,none⟩=_:=cellsAt hg0 2
 have p3:W0.cell? ⟨w.heap.size,3,none⟩=_:=cellsAt hg0 3
 have p4:W0.cell? ⟨w.heap.size,4,none⟩=_:=cellsAt hg0 4
 have p5:W0.cell? ⟨w.heap.size,5,none⟩=_:=cellsAt hg0 5
 clear hb0 hg0
 go_enter Tryz.func221,Tryz.ntmps221
 go_upto_region 1 with fail
 rw [← hW0]
 clear hW0
 go_wp2_with fail
 refine (HCK.out W0 HB0.out).mono ?_
 rintro e w1 ⟨rfl,hb1⟩
 have HB1:Hid (Below w.heap.size w w1):=HB0.out.trans (hb1.mono HB0.out.size)
 have hg1:w1.heap[w.heap.size]?=some (.cells #[.string frm,.bool whole,.slice pm nm cm,.slice ps ns cs,.slice pg ng cg,.slice ph nh ch] 67 (0,0)):=(hb1.block _ (Array.getElem?_eq_some_iff.1 HG0.out).1).trans HG0.out
 have HG1:Hid (w1.heap[w.heap.size]?=some (.cells #[.string frm,.bool whole,.slice pm nm cm,.slice ps ns cs,.slice pg ng cg,.slice ph nh ch] 67 (0,0))):=hg1
 clear hb1 hg1 p0 p1 p2 p3 p4 p5
 by_cases h0:pe=0
 rotate_left
 ·have HT2:Hid (PT=⟨#[]⟩):=HPT.out.trans (if_neg h0)
  have h1:(pe != 0)=true:=by simpa using h0
  clear h0
  go_wp2_with fail
  refine bodyPost_ret (v:=.tuple #[.string ⟨#[]⟩,.int .i64 pe]) ?_ rfl ?_
  ·simp [results,Tryz.results221,go_sem]
  ·exact ⟨by rw [HT2.out],HB1.out⟩
 ·subst h0
  have HT2:Hid (PT=⟨PB.toArray⟩):=HPT.out.trans (if_pos rfl)
  have HWQ:=HWP.out rfl
  have HWR:Hid _:=HWQ
  clear HWQ HWP HPT
  obtain ⟨W2,hW2⟩:∃ W2,W2=w1.alloc (.cells #[.pointer none,.slice none 0 0] 272):=⟨_,rfl⟩
  have hb2:Below w1.heap.size w1 W2:=by rw [hW2];exact (Below.refl _ _).alloc (Nat.le_refl _) _
  have hw2:W2.heap[w1.heap.size]?=some (.cells #[.pointer none,.slice none 0 0] 272 (0,0)):=by rw [hW2];exact heap_alloc_new w1 _
  have HI2:Hid (IsW w.heap.size w1.heap.size [] W2):=.inl ⟨HB1.out.size,.slice none 0 0,hw2,⟨by simp,.inl ⟨rfl,rfl⟩⟩,by simp [Value.ownBlock]⟩
  have hbw2:Below w.heap.size w W2:=HB1.out.trans (hb2.mono HB1.out.size)
  have HBW2:Hid (Below w.heap.size w W2):=hbw2
  have hg2:W2.heap[w.heap.size]?=some (.cells #[.string frm,.bool whole,.slice pm nm cm,.slice ps ns cs,.slice pg ng cg,.slice ph nh ch] 67 (0,0)):=(hb2.block _ (Array.getElem?_eq_some_iff.1 HG1.out).1).trans HG1.out
  have p0:W2.cell? ⟨w.heap.size,0,none⟩=_:=cellsAt hg2 0
  have p1:W2.cell? ⟨w.heap.size,1,none⟩=_:=cellsAt hg2 1
  have p2:W2.cell? ⟨w.heap.size,2,none⟩=_:=cellsAt hg2 2
  have p3:W2.cell? ⟨w.heap.size,3,none⟩=_:=cellsAt hg2 3
  have p4:W2.cell? ⟨w.heap.size,4,none⟩=_:=cellsAt hg2 4
  have p5:W2.cell? ⟨w.heap.size,5,none⟩=_:=cellsAt hg2 5
  clear hb2 hw2 hg2 hbw2
  go_upto_region 5 with fail
  rw [← hW2]
  clear hW2
  go_wp2_with fail
  refine (HWR.out W2 w1.heap.size HBW2.out HI2.out).mono ?_
  rintro e w3 ⟨rfl,h3,hk3⟩
  have HI3:Hid (IsW w.heap.size w1.heap.size (Lib.byteCells PB) w3):=h3
  have HB3:Hid (Below w.heap.size w w3):=HBW2.out.trans hk3.bel
  clear h3 hk3 p0 p1 p2 p3 p4 p5
  go_wp2_with fail
  refine (string_any w.heap.size w1.heap.size PB w3 HI3.out HNE.out).mono ?_
  rintro e w4 ⟨rfl,hb4⟩
  have HB4:Hid (Below w.heap.size w w4):=HB3.out.trans hb4
  clear hb4
  go_wp2_with fail
  refine bodyPost_ret (v:=.tuple #[.string ⟨PB.toArray⟩,.int .i64 0]) ?_ rfl ?_
  ·simp [results,Tryz.results221,go_sem]
  ·exact ⟨by rw [HT2.out],HB4.out⟩
theorem dg_nat {d:Nat} (h:d < 10):(UInt8.ofNat (48+d)).toNat=48+d:=by
 rw [UInt8.toNat_ofNat']
 omega
theorem pu_dec (u:Nat) (hu:u < 18446744073709551616) (t:List UInt8):Lib.parseUint10 0 (Lib.decDigits u++t)=Lib.parseUint10 u t:=by
 induction u using Nat.strongRecOn generalizing t with
 | _ u ih=>
   rw [Lib.decDigits]
   split
   ·rename_i h
    rw [List.singleton_append,Lib.parseUint10,dg_nat h,if_pos (by omega),if_neg (by omega),if_neg (by omega)]
    congr 1
    omega
   ·rename_i h
    rw [List.append_assoc,ih (u / 10) (by omega) (by omega),List.singleton_append,Lib.parseUint10,dg_nat (by omega),if_pos (by omega),if_neg (by omega),if_neg (by omega)]
    congr 1
    omega
theorem dec_all (u:Nat):∀ c∈Lib.decDigits u,48≤c.toNat∧c.toNat≤57:=by
 induction u using Nat.strongRecOn with
 | _ u ih=>
   intro c hc
   rw [Lib.decDigits] at hc
   split at hc
   ·rename_i h
    rw [List.mem_singleton.1 hc,dg_nat h]
    omega
   ·rename_i h
    rcases List.mem_append.1 hc with hc | hc
    ·exact ih (u / 10) (by omega) c hc
    ·rw [List.mem_singleton.1 hc,dg_nat (by omega)]
     omega
theorem dec_ne (u:Nat):Lib.decDigits u≠[]:=by
 rw [Lib.decDigits]
 split<;>simp
theorem pm_dec {u:Nat} (hu:u < 18446744073709551616):Lib.parseMag (Lib.decDigits u)=.ok u:=by
 unfold Lib.parseMag
 rw [if_neg (dec_ne u)]
 have:=pu_dec u hu []
 rw [List.append_nil] at this
 rw [this];rfl
theorem atoi_itoa {n:Int} (h:In63 n):Lib.atoiAll (Lib.itoa n)=.ok n:=by
 unfold Lib.itoa
 obtain ⟨h1,h2⟩:=h
 split
 ·rw [Lib.atoiAll_minus,pm_dec (by omega)]
  unfold Lib.signed
  simp only
  rw [if_neg (by omega)]
  congr 1
  omega
 ·cases hd:Lib.decDigits n.toNat with
  | nil=>exact absurd hd (dec_ne _)
  | cons c r=>
    have hc:=dec_all n.toNat c (by rw [hd];exact List.mem_cons_self)
    rw [Lib.atoiAll_plain c r (by omega) (by omega),← hd,pm_dec (by omega)]
    unfold Lib.signless
    simp only
    rw [if_neg (by omega)]
    congr 1
    omega
theorem itoa_no59 (n:Int):∀ c∈Lib.itoa n,c≠59:=by
 intro c hc
 unfold Lib.itoa at hc
 split at hc
 ·rcases List.mem_cons.1 hc with rfl | hc
  ·decide
  ·have:=dec_all _ c hc
   intro e
   subst e
   have:(59:UInt8).toNat=59:=rfl
   omega
 ·have:=dec_all _ c hc
  intro e
  subst e
  have:(59:UInt8).toNat=59:=rfl
  omega
theorem ix_at:∀ (l r:List UInt8),(∀ c∈l,c≠59)→Lib.indexByte (l++59 :: r) 59=(l.length:Int)
 | [],r,_=>by
   unfold Lib.indexByte
   simp
 | x :: l,r,h=>by
   have ih:=ix_at l r (fun c hc=>h c (List.mem_cons_of_mem _ hc))
   have hx:=h x List.mem_cons_self
   rw [List.cons_append,Lib.indexByte,if_neg (by simpa using hx),ih,if_neg (by simp)]
   rw [List.length_cons];omega
theorem ix_byte (c:UInt8):∀ {l:List UInt8} {i:Nat},Lib.indexByte l c=(i:Int)→l=l.take i++c :: l.drop (i+1)
 | [],i,h=>by unfold Lib.indexByte at h;omega
 | x :: r,i,h=>by
   unfold Lib.indexByte at h
   split at h
   ·rename_i hx
    have hi:i=0:=by omega
    subst hi
    have:x=c:=by simpa using hx
    rw [this];simp
   ·split at h
    ·omega
    ·rename_i h2
     have hg:=Lib.indexByte_ge r c
     obtain ⟨j,rfl⟩:∃ j,i=j+1:=⟨i - 1,by have:Lib.indexByte r c ≠ -1:=by simpa using h2
                                         omega⟩
     have:=ix_byte c (l:=r) (i:=j) (by omega)
     rw [List.take_succ_cons,List.drop_succ_cons,List.cons_append,← this]
theorem rdN_num {n:Int} (h:In63 n) (r:List UInt8):rdN (numB n++r)=some (n,r):=by
 unfold rdN numB
 rw [List.append_assoc,List.singleton_append,ix_at _ r (itoa_no59 n),if_neg (by omega),Int.toNat_natCast,List.take_left,atoi_itoa h]
 simp only [if_true]
 congr 2
 have e:Lib.itoa n++59 :: r=(Lib.itoa n++[59])++r:=by simp
 rw [e,List.drop_left' (by simp)]
theorem rdN_eq {l r:List UInt8} {n:Int} (h:rdN l=some (n,r)):l=numB n++r∧In63 n:=by
 have hin:=(rdN_in h).1
 unfold rdN at h
 split at h
 ·simp at h
 rename_i hne
 obtain ⟨i,hi⟩:∃ i:Nat,Lib.indexByte l 59=(i:Int):=⟨(Lib.indexByte l 59).toNat,by have:=Lib.indexByte_ge l 59;omega⟩
 rw [hi] at h
 simp only [Int.toNat_natCast] at h
 split at h
 case h_2=>simp at h
 rename_i m hm
 split at h
 case isFalse=>simp at h
 rename_i hd
 simp only [Option.some.injEq,Prod.mk.injEq] at h
 obtain ⟨rfl,rfl⟩:=h
 refine ⟨?_,hin⟩
 unfold numB
 rw [hd,List.append_assoc,List.singleton_append]
 exact ix_byte 59 hi
theorem rdT_txt {s:ByteArray} (h:s.size≤140737488355328) (r:List UInt8):rdT (txtB s++r)=some (s,r):=by
 unfold rdT txtB
 rw [List.append_assoc,rdN_num ⟨by omega,by omega⟩]
 simp only
 have hl:s.data.toList.length=s.size:=rfl
 rw [if_pos ⟨by omega,by rw [List.length_append];omega⟩,Int.toNat_natCast,List.take_left' hl,List.drop_left' hl]
 rfl
theorem rdT_eq {l r:List UInt8} {s:ByteArray} (h:rdT l=some (s,r)):l=txtB s++r:=by
 unfold rdT at h
 split at h
 case h_2=>simp at h
 rename_i n r' hn
 split at h
 case isFalse=>simp at h
 rename_i hk
 simp only [Option.some.injEq,Prod.mk.injEq] at h
 obtain ⟨rfl,rfl⟩:=h
 have e:=(rdN_eq hn).1
 unfold txtB
 rw [bstr_size,List.length_take,Nat.min_eq_left (by omega),bstr_list,List.append_assoc,List.take_append_drop,show ((n.toNat:Nat):Int)=n by omega]
 exact e
theorem rdF_flg (y:Bool) (r:List UInt8):rdF (flgB y++r)=some (y,r):=by
 unfold rdF flgB
 rw [rdN_num (by split<;>exact ⟨by omega,by omega⟩)]
 cases y<;>simp
theorem rdF_eq {l r:List UInt8} {y:Bool} (h:rdF l=some (y,r)):l=flgB y++r:=by
 unfold rdF at h
 split at h
 case h_2=>simp at h
 rename_i n r' hn
 have e:=(rdN_eq hn).1
 unfold flgB
 split at h
 ·rename_i h0
  simp only [Option.some.injEq,Prod.mk.injEq] at h
  obtain ⟨rfl,rfl⟩:=h
  rw [e,h0];simp
 ·split at h
  ·rename_i h1
   simp only [Option.some.injEq,Prod.mk.injEq] at h
   obtain ⟨rfl,rfl⟩:=h
   rw [e,h1];simp
  ·simp at h
theorem rdP_nums {x y z u v:Int} (h1:In63 x) (h2:In63 y) (h3:In63 z) (h4:In63 u) (h5:In63 v) (r:List UInt8):rdP ([x,y,z,u,v].flatMap numB++r)=some ((x,y,z,u,v),r):=by
 unfold rdP
 simp only [List.flatMap_cons,List.flatMap_nil,List.append_nil,List.append_assoc,rdN_num h1,rdN_num h2,rdN_num h3,rdN_num h4,rdN_num h5,Option.bind_some]
theorem rdP_eq {l r:List UInt8} {x y z u v:Int} (h:rdP l=some ((x,y,z,u,v),r)):l=[x,y,z,u,v].flatMap numB++r:=by
 unfold rdP at h
 simp only [Option.bind_eq_some_iff,Option.some.injEq,Prod.mk.injEq] at h
 obtain ⟨⟨x',r1⟩,n1,⟨y',r2⟩,n2,⟨z',r3⟩,n3,⟨u',r4⟩,n4,⟨v',r5⟩,n5,⟨rfl,rfl,rfl,rfl,rfl⟩,rfl⟩:=h
 simp only at n1 n2 n3 n4 n5 ⊢
 have e1:=(rdN_eq n1).1
 have e2:=(rdN_eq n2).1
 have e3:=(rdN_eq n3).1
 have e4:=(rdN_eq n4).1
 have e5:=(rdN_eq n5).1
 simp only [List.flatMap_cons,List.flatMap_nil,List.append_nil,List.append_assoc]
 rw [e1,e2,e3,e4,e5]
theorem rdEl_el {m:Mem} (h:wok m) (r:List UInt8):rdEl (elB m++r)=some (m,r):=by
 obtain ⟨h0,h1,h2,h3⟩:=h
 unfold rdEl elB
 simp only [List.flatMap_cons,List.flatMap_nil,List.append_nil,List.append_assoc,rdT_txt (s:=m.name) (by omega),rdN_num h1,rdN_num h2,rdN_num h3,rdF_flg m.server,Option.bind_some]
theorem rdEl_eq {l r:List UInt8} {m:Mem} (h:rdEl l=some (m,r)):l=elB m++r:=by
 unfold rdEl at h
 simp only [Option.bind_eq_some_iff,Option.some.injEq,Prod.mk.injEq] at h
 obtain ⟨⟨x0,r1⟩,n0,⟨x1,r2⟩,n1,⟨x2,r3⟩,n2,⟨x3,r4⟩,n3,⟨x4,r5⟩,n4,rfl,rfl⟩:=h
 simp only at n0 n1 n2 n3 n4 ⊢
 have e0:=rdT_eq n0
 have e1:=(rdN_eq n1).1
 have e2:=(rdN_eq n2).1
 have e3:=(rdN_eq n3).1
 have e4:=rdF_eq n4
 unfold elB
 simp only [List.flatMap_cons,List.flatMap_nil,List.append_nil,List.append_assoc]
 rw [e0,e1,e2,e3,e4]
theorem rdLs_el:∀ (E:List Mem),(∀ m∈E,wok m)→∀ (D:List Mem) (r:List UInt8),rdLs E.length (E.flatMap elB++r) D=some (D++E,r)
 | [],_,D,r=>by simp [rdLs]
 | m :: E,h,D,r=>by
   rw [List.flatMap_cons,List.append_assoc,List.length_cons,rdLs,rdEl_el (h m List.mem_cons_self)]
   simp only
   rw [rdLs_el E (fun x hx=>h x (List.mem_cons_of_mem _ hx)) (D++[m]) r,List.append_assoc];rfl
theorem rdLs_eq:∀ {n:Nat} {l r:List UInt8} {D E:List Mem},rdLs n l D=some (E,r)→∃ X:List Mem,X.length=n∧E=D++X∧l=X.flatMap elB++r
 | 0,l,r,D,E,h=>by
   simp only [rdLs,Option.some.injEq,Prod.mk.injEq] at h
   obtain ⟨rfl,rfl⟩:=h
   exact ⟨[],rfl,by simp,by simp⟩
 | n+1,l,r,D,E,h=>by
   simp only [rdLs] at h
   split at h
   ·cases h
   ·rename_i m r' he
    obtain ⟨X,h1,h2,h3⟩:=rdLs_eq h
    exact ⟨m :: X,by simp [h1],by rw [h2];simp,by rw [rdEl_eq he,h3,List.flatMap_cons,List.append_assoc]⟩
theorem rdList_el {E:List Mem} (hl:E.length≤1000) (h:∀ m∈E,wok m) (r:List UInt8):rdList (numB E.length++E.flatMap elB++r)=some (E,r):=by
 unfold rdList
 rw [List.append_assoc,rdN_num ⟨by omega,by omega⟩,Option.bind_some]
 simp only
 rw [if_pos (by omega),Int.toNat_natCast,rdLs_el E h [] r];rfl
theorem rdList_eq {l r:List UInt8} {E:List Mem} (h:rdList l=some (E,r)):l=numB E.length++E.flatMap elB++r:=by
 unfold rdList at h
 rw [Option.bind_eq_some_iff] at h
 obtain ⟨⟨n,r1⟩,h1,h2⟩:=h
 simp only at h2
 split at h2
 ·rename_i h0
  obtain ⟨X,g1,g2,g3⟩:=rdLs_eq h2
  rw [List.nil_append] at g2
  subst g2
  rw [(rdN_eq h1).1,g3,g1,show ((n.toNat:Nat):Int)=n by omega,List.append_assoc]
 ·cases h2
namespace Sv
theorem rdEl_el {m:Svc} (h:wok m) (r:List UInt8):rdEl (elB m++r)=some (m,r):=by
 obtain ⟨h0,h1,h2,h3,h4,h5,h6⟩:=h
 unfold rdEl elB
 simp only [List.flatMap_cons,List.flatMap_nil,List.append_nil,List.append_assoc,rdT_txt (s:=m.node) (by omega),rdT_txt (s:=m.idn) (by omega),rdT_txt (s:=m.name) (by omega),rdT_txt (s:=m.tag) (by omega),rdN_num h4,rdN_num h5,rdF_flg m.passing,rdN_num h6,rdF_flg m.gone,Option.bind_some]
theorem rdEl_eq {l r:List UInt8} {m:Svc} (h:rdEl l=some (m,r)):l=elB m++r:=by
 unfold rdEl at h
 simp only [Option.bind_eq_some_iff,Option.some.injEq,Prod.mk.injEq] at h
 obtain ⟨⟨x0,r1⟩,n0,⟨x1,r2⟩,n1,⟨x2,r3⟩,n2,⟨x3,r4⟩,n3,⟨x4,r5⟩,n4,⟨x5,r6⟩,n5,⟨x6,r7⟩,n6,⟨x7,r8⟩,n7,⟨x8,r9⟩,n8,rfl,rfl⟩:=h
 simp only at n0 n1 n2 n3 n4 n5 n6 n7 n8 ⊢
 have e0:=rdT_eq n0
 have e1:=rdT_eq n1
 have e2:=rdT_eq n2
 have e3:=rdT_eq n3
 have e4:=(rdN_eq n4).1
 have e5:=(rdN_eq n5).1
 have e6:=rdF_eq n6
 have e7:=(rdN_eq n7).1
 have e8:=rdF_eq n8
 unfold elB
 simp only [List.flatMap_cons,List.flatMap_nil,List.append_nil,List.append_assoc]
 rw [e0,e1,e2,e3,e4,e5,e6,e7,e8]
theorem rdLs_el:∀ (E:List Svc),(∀ m∈E,wok m)→∀ (D:List Svc) (r:List UInt8),rdLs E.length (E.flatMap elB++r) D=some (D++E,r)
 | [],_,D,r=>by simp [rdLs]
 | m :: E,h,D,r=>by
   rw [List.flatMap_cons,List.append_assoc,List.length_cons,rdLs,rdEl_el (h m List.mem_cons_self)]
   simp only
   rw [rdLs_el E (fun x hx=>h x (List.mem_cons_of_mem _ hx)) (D++[m]) r,List.append_assoc];rfl
theorem rdLs_eq:∀ {n:Nat} {l r:List UInt8} {D E:List Svc},rdLs n l D=some (E,r)→∃ X:List Svc,X.length=n∧E=D++X∧l=X.flatMap elB++r
 | 0,l,r,D,E,h=>by
   simp only [rdLs,Option.some.injEq,Prod.mk.injEq] at h
   obtain ⟨rfl,rfl⟩:=h
   exact ⟨[],rfl,by simp,by simp⟩
 | n+1,l,r,D,E,h=>by
   simp only [rdLs] at h
   split at h
   ·cases h
   ·rename_i m r' he
    obtain ⟨X,h1,h2,h3⟩:=rdLs_eq h
    exact ⟨m :: X,by simp [h1],by rw [h2];simp,by rw [rdEl_eq he,h3,List.flatMap_cons,List.append_assoc]⟩
theorem rdList_el {E:List Svc} (hl:E.length≤1000) (h:∀ m∈E,wok m) (r:List UInt8):rdList (numB E.length++E.flatMap elB++r)=some (E,r):=by
 unfold rdList
 rw [List.append_assoc,rdN_num ⟨by omega,by omega⟩,Option.bind_some]
 simp only
 rw [if_pos (by omega),Int.toNat_natCast,rdLs_el E h [] r];rfl
theorem rdList_eq {l r:List UInt8} {E:List Svc} (h:rdList l=some (E,r)):l=numB E.length++E.flatMap elB++r:=by
 unfold rdList at h
 rw [Option.bind_eq_some_iff] at h
 obtain ⟨⟨n,r1⟩,h1,h2⟩:=h
 simp only at h2
 split at h2
 ·rename_i h0
  obtain ⟨X,g1,g2,g3⟩:=rdLs_eq h2
  rw [List.nil_append] at g2
  subst g2
  rw [(rdN_eq h1).1,g3,g1,show ((n.toNat:Nat):Int)=n by omega,List.append_assoc]
 ·cases h2
end Sv
namespace Gw
theorem rdEl_el {m:Gwy} (h:wok m) (r:List UInt8):rdEl (elB m++r)=some (m,r):=by
 obtain ⟨h0,h1,h2⟩:=h
 unfold rdEl elB
 simp only [List.flatMap_cons,List.flatMap_nil,List.append_nil,List.append_assoc,rdT_txt (s:=m.centre) (by omega),rdN_num h1,rdN_num h2,Option.bind_some]
theorem rdEl_eq {l r:List UInt8} {m:Gwy} (h:rdEl l=some (m,r)):l=elB m++r:=by
 unfold rdEl at h
 simp only [Option.bind_eq_some_iff,Option.some.injEq,Prod.mk.injEq] at h
 obtain ⟨⟨x0,r1⟩,n0,⟨x1,r2⟩,n1,⟨x2,r3⟩,n2,rfl,rfl⟩:=h
 simp only at n0 n1 n2 ⊢
 have e0:=rdT_eq n0
 have e1:=(rdN_eq n1).1
 have e2:=(rdN_eq n2).1
 unfold elB
 simp only [List.flatMap_cons,List.flatMap_nil,List.append_nil,List.append_assoc]
 rw [e0,e1,e2]
theorem rdLs_el:∀ (E:List Gwy),(∀ m∈E,wok m)→∀ (D:List Gwy) (r:List UInt8),rdLs E.length (E.flatMap elB++r) D=some (D++E,r)
 | [],_,D,r=>by simp [rdLs]
 | m :: E,h,D,r=>by
   rw [List.flatMap_cons,List.append_assoc,List.length_cons,rdLs,rdEl_el (h m List.mem_cons_self)]
   simp only
   rw [rdLs_el E (fun x hx=>h x (List.mem_cons_of_mem _ hx)) (D++[m]) r,List.append_assoc];rfl
theorem rdLs_eq:∀ {n:Nat} {l r:List UInt8} {D E:List Gwy},rdLs n l D=some (E,r)→∃ X:List Gwy,X.length=n∧E=D++X∧l=X.flatMap elB++r
 | 0,l,r,D,E,h=>by
   simp only [rdLs,Option.some.injEq,Prod.mk.injEq] at h
   obtain ⟨rfl,rfl⟩:=h
   exact ⟨[],rfl,by simp,by simp⟩
 | n+1,l,r,D,E,h=>by
   simp only [rdLs] at h
   split at h
   ·cases h
   ·rename_i m r' he
    obtain ⟨X,h1,h2,h3⟩:=rdLs_eq h
    exact ⟨m :: X,by simp [h1],by rw [h2];simp,by rw [rdEl_eq he,h3,List.flatMap_cons,List.append_assoc]⟩
theorem rdList_el {E:List Gwy} (hl:E.length≤1000) (h:∀ m∈E,wok m) (r:List UInt8):rdList (numB E.length++E.flatMap elB++r)=some (E,r):=by
 unfold rdList
 rw [List.append_assoc,rdN_num ⟨by omega,by omega⟩,Option.bind_some]
 simp only
 rw [if_pos (by omega),Int.toNat_natCast,rdLs_el E h [] r];rfl
theorem rdList_eq {l r:List UInt8} {E:List Gwy} (h:rdList l=some (E,r)):l=numB E.length++E.flatMap elB++r:=by
 unfold rdList at h
 rw [Option.bind_eq_some_iff] at h
 obtain ⟨⟨n,r1⟩,h1,h2⟩:=h
 simp only at h2
 split at h2
 ·rename_i h0
  obtain ⟨X,g1,g2,g3⟩:=rdLs_eq h2
  rw [List.nil_append] at g2
  subst g2
  rw [(rdN_eq h1).1,g3,g1,show ((n.toNat:Nat):Int)=n by omega,List.append_assoc]
 ·cases h2
end Gw
namespace Wh
theorem rdEl_el {m:Whe} (h:wok m) (r:List UInt8):rdEl (elB m++r)=some (m,r):=by
 obtain ⟨h0,h1,h2,h3,h4,h5⟩:=h
 unfold rdEl elB
 rw [List.append_assoc,rdT_txt (s:=m.node) (by omega),Option.bind_some]
 simp only
 rw [rdP_nums h1 h2 h3 h4 h5,Option.bind_some]
theorem rdEl_eq {l r:List UInt8} {m:Whe} (h:rdEl l=some (m,r)):l=elB m++r:=by
 unfold rdEl at h
 simp only [Option.bind_eq_some_iff,Option.some.injEq,Prod.mk.injEq] at h
 obtain ⟨⟨x0,r1⟩,n0,⟨⟨x1,x2,x3,x4,x5⟩,r2⟩,n1,rfl,rfl⟩:=h
 simp only at n0 n1 ⊢
 unfold elB
 rw [rdT_eq n0,rdP_eq n1,List.append_assoc]
theorem rdLs_el:∀ (E:List Whe),(∀ m∈E,wok m)→∀ (D:List Whe) (r:List UInt8),rdLs E.length (E.flatMap elB++r) D=some (D++E,r)
 | [],_,D,r=>by simp [rdLs]
 | m :: E,h,D,r=>by
   rw [List.flatMap_cons,List.append_assoc,List.length_cons,rdLs,rdEl_el (h m List.mem_cons_self)]
   simp only
   rw [rdLs_el E (fun x hx=>h x (List.mem_cons_of_mem _ hx)) (D++[m]) r,List.append_assoc];rfl
theorem rdLs_eq:∀ {n:Nat} {l r:List UInt8} {D E:List Whe},rdLs n l D=some (E,r)→∃ X:List Whe,X.length=n∧E=D++X∧l=X.flatMap elB++r
 | 0,l,r,D,E,h=>by
   simp only [rdLs,Option.some.injEq,Prod.mk.injEq] at h
   obtain ⟨rfl,rfl⟩:=h
   exact ⟨[],rfl,by simp,by simp⟩
 | n+1,l,r,D,E,h=>by
   simp only [rdLs] at h
   split at h
   ·cases h
   ·rename_i m r' he
    obtain ⟨X,h1,h2,h3⟩:=rdLs_eq h
    exact ⟨m :: X,by simp [h1],by rw [h2];simp,by rw [rdEl_eq he,h3,List.flatMap_cons,List.append_assoc]⟩
theorem rdList_el {E:List Whe} (hl:E.length≤1000) (h:∀ m∈E,wok m) (r:List UInt8):rdList (numB E.length++E.flatMap elB++r)=some (E,r):=by
 unfold rdList
 rw [List.append_assoc,rdN_num ⟨by omega,by omega⟩,Option.bind_some]
 simp only
 rw [if_pos (by omega),Int.toNat_natCast,rdLs_el E h [] r];rfl
theorem rdList_eq {l r:List UInt8} {E:List Whe} (h:rdList l=some (E,r)):l=numB E.length++E.flatMap elB++r:=by
 unfold rdList at h
 rw [Option.bind_eq_some_iff] at h
 obtain ⟨⟨n,r1⟩,h1,h2⟩:=h
 simp only at h2
 split at h2
 ·rename_i h0
  obtain ⟨X,g1,g2,g3⟩:=rdLs_eq h2
  rw [List.nil_append] at g2
  subst g2
  rw [(rdN_eq h1).1,g3,g1,show ((n.toNat:Nat):Int)=n by omega,List.append_assoc]
 ·cases h2
end Wh
theorem rdPk_B {p:Pk} (h:p.Wok) (r:List UInt8):rdPk (p.B++r)=some (p,r):=by
 unfold rdPk Pk.B
 rw [List.append_assoc,List.append_assoc,List.append_assoc,List.append_assoc,List.append_assoc,rdT_txt (by have:=h.frm;omega),Option.bind_some]
 simp only
 rw [rdF_flg,Option.bind_some]
 simp only
 rw [rdList_el (by have:=h.ms.1;omega) h.ms.2,Option.bind_some]
 simp only
 rw [Sv.rdList_el (by have:=h.sv.1;omega) h.sv.2,Option.bind_some]
 simp only
 rw [Gw.rdList_el (by have:=h.gw.1;omega) h.gw.2,Option.bind_some]
 simp only
 rw [Wh.rdList_el (by have:=h.wh.1;omega) h.wh.2,Option.bind_some]
theorem rdPk_eq {l r:List UInt8} {p:Pk} (h:rdPk l=some (p,r)):l=p.B++r:=by
 unfold rdPk at h
 simp only [Option.bind_eq_some_iff,Option.some.injEq,Prod.mk.injEq] at h
 obtain ⟨⟨x0,r1⟩,n0,⟨x1,r2⟩,n1,⟨x2,r3⟩,n2,⟨x3,r4⟩,n3,⟨x4,r5⟩,n4,⟨x5,r6⟩,n5,rfl,rfl⟩:=h
 simp only at n0 n1 n2 n3 n4 n5 ⊢
 have e0:=rdT_eq n0
 have e1:=rdF_eq n1
 have e2:=rdList_eq n2
 have e3:=Sv.rdList_eq n3
 have e4:=Gw.rdList_eq n4
 have e5:=Wh.rdList_eq n5
 unfold Pk.B
 simp only [List.append_assoc] at e2 e3 e4 e5 ⊢
 rw [e0,e1,e2,e3,e4,e5]
def rdR (l:List UInt8):Option Pk:=(rdPk l).bind fun a=>if a.2=[]∧a.1.e=0 then some a.1 else none
theorem rdR_some {l:List UInt8} {p:Pk}:rdR l=some p↔l=p.B∧p.e=0:=by
 unfold rdR
 rw [Option.bind_eq_some_iff]
 constructor
 ·rintro ⟨⟨q,r⟩,h1,h2⟩
  simp only at h2
  split at h2
  ·rename_i h3
   simp only [Option.some.injEq] at h2
   subst h2
   have:=rdPk_eq h1
   rw [h3.1,List.append_nil] at this
   exact ⟨this,h3.2⟩
  ·cases h2
 ·rintro ⟨rfl,he⟩
  have:=rdPk_B (pk_wok he) []
  rw [List.append_nil] at this
  exact ⟨(p,[]),this,by simp [he]⟩
structure Nt where
 ns:List Nd
 ls:List Lt.Ltr
def ndZ:Nd:=⟨⟨#[]⟩,⟨#[]⟩,[],[],[],[],⟨0,0,0,0,0⟩,[]⟩
def ApartN (ns:List Nd):Prop:=∀ i j,i < j→j < ns.length→(ns.getD i ndZ).name≠(ns.getD j ndZ).name
def apN (ns:List Nd):Bool:=(List.range ns.length).all fun j=>(List.range j).all fun i=>decide ((ns.getD i ndZ).name≠(ns.getD j ndZ).name)
theorem apN_iff (ns:List Nd):apN ns=true↔ApartN ns:=by
 simp only [apN,List.all_eq_true,List.mem_range,decide_eq_true_eq]
 exact ⟨fun h i j hij hj=>h j hj i hij,fun h j hj i hij=>h i j hij hj⟩
def fstE {α:Type} (f:α→Int):List α→Int
 | []=>0
 | x :: r=>if f x=0 then fstE f r else f x
theorem fstE_at {α:Type} (f:α→Int) (d:α):∀ (l:List α) (k:Nat),k < l.length→(∀ j,j < k→f (l.getD j d)=0)→f (l.getD k d)≠0→fstE f l=f (l.getD k d)
 | [],k,hk,_,_=>by simp at hk
 | x :: r,0,_,_,hne=>by
   have:f x≠0:=by simpa using hne
   simp only [fstE]
   rw [if_neg this];simp
 | x :: r,k+1,hk,hz,hne=>by
   have h0:f x=0:=by simpa using hz 0 (by omega)
   simp only [fstE]
   rw [if_pos h0,fstE_at f d r k (by simpa using hk) (fun j hj=>by simpa using hz (j+1) (by omega)) (by simpa using hne)]
   simp
theorem fstE_zero {α:Type} (f:α→Int) (d:α):∀ (l:List α),(∀ j,j < l.length→f (l.getD j d)=0)→fstE f l=0
 | [],_=>rfl
 | x :: r,h=>by
   have h0:f x=0:=by simpa using h 0 (by simp)
   simp only [fstE]
   rw [if_pos h0]
   exact fstE_zero f d r (fun j hj=>by simpa using h (j+1) (by simpa using hj))
theorem fstE_mem {α:Type} (f:α→Int):∀ {l:List α},fstE f l=0→∀ x∈l,f x=0
 | y :: r,h,x,hx=>by
   simp only [fstE] at h
   split at h
   ·rename_i h0
    rcases List.mem_cons.1 hx with rfl | hx
    ·exact h0
    ·exact fstE_mem f h x hx
   ·rename_i h0;exact absurd h h0
def ltE (k:Nat) (l:Lt.Ltr):Int:=if within l.to 0 ((k:Int) - 1)=true then (if (rdR l.text.data.toList).isSome=true then 0 else 1) else 3
def chkN (ns:List Nd):Int:=if fstE Nd.e ns=0 then (if apN ns=true then 0 else 6) else fstE Nd.e ns
def Nt.e (t:Nt):Int:=if 6 < t.ns.length∨20 < t.ls.length then 2 else if chkN t.ns=0 then fstE (ltE t.ns.length) t.ls else chkN t.ns
theorem chkN_e {ns:List Nd} {k:Nat} (hk:k < ns.length) (hz:∀ j,j < k→(ns.getD j ndZ).e=0) (hne:(ns.getD k ndZ).e≠0):chkN ns=(ns.getD k ndZ).e:=by
 have h:=fstE_at Nd.e ndZ ns k hk hz hne
 rw [chkN,h,if_neg hne]
theorem chkN_twice {ns:List Nd} (hz:∀ j,j < ns.length→(ns.getD j ndZ).e=0) (hd:¬ ApartN ns):chkN ns=6:=by
 rw [chkN,if_pos (fstE_zero _ ndZ ns hz),if_neg (fun h=>hd ((apN_iff ns).1 h))]
theorem chkN_ok {ns:List Nd} (hz:∀ j,j < ns.length→(ns.getD j ndZ).e=0) (hd:ApartN ns):chkN ns=0:=by
 rw [chkN,if_pos (fstE_zero _ ndZ ns hz),if_pos ((apN_iff ns).2 hd)]
def NRow (w:World) (b off:Nat) (ns:List Nd):Prop:=∀ j,j < ns.length→∃ vm vr vs vg vw,NdIs w (ns.getD j ndZ) vm vr vs vg vw∧∀ i,i < 12→w.cell? ⟨b,off+j * 12+i,none⟩=(ndA (ns.getD j ndZ) vm vr vs vg vw)[i]?
theorem NRow.below {w w':World} {b off:Nat} {ns:List Nd} (h:NRow w b off ns) (hb:Below w.heap.size w w') (hl:b < w.heap.size):NRow w' b off ns:=fun j hj=>by
 obtain ⟨vm,vr,vs,vg,vw,h1,h2⟩:=h j hj
 exact ⟨vm,vr,vs,vg,vw,h1.below hb,fun i hi=>(hb.cell (p:=⟨b,off+j * 12+i,none⟩) hl).trans (h2 i hi)⟩
def NSl (w:World) (v:Value) (ns:List Nd):Prop:=∃ (a:Option Addr) (cap:Nat),v=.slice a ns.length cap∧(ns=[]∨∃ b off,a=some ⟨b,off,none⟩∧b < w.heap.size∧NRow w b off ns)
theorem NSl.below {w w':World} {v:Value} {ns:List Nd} (h:NSl w v ns) (hb:Below w.heap.size w w'):NSl w' v ns:=by
 obtain ⟨a,cap,rfl,h⟩:=h
 refine ⟨a,cap,rfl,?_⟩
 rcases h with h | ⟨b,off,rfl,hl,hr⟩
 ·exact .inl h
 ·exact .inr ⟨b,off,rfl,Nat.lt_of_lt_of_le hl hb.size,hr.below hb hl⟩
theorem NRow.at {w:World} {b off k:Nat} {ns:List Nd} (h:NRow w b off ns) (hk:k < ns.length):∃ vm vr vs vg vw,NdIs w (ns.getD k ndZ) vm vr vs vg vw∧w.cell? ⟨b,off+k * 12,none⟩=some (.string (ns.getD k ndZ).name)∧w.cell? ⟨b,off+k * 12+1,none⟩=some (.string (ns.getD k ndZ).centre)∧w.cell? ⟨b,off+k * 12+2,none⟩=some vm∧w.cell? ⟨b,off+k * 12+3,none⟩=some vr∧w.cell? ⟨b,off+k * 12+4,none⟩=some vs∧w.cell? ⟨b,off+k * 12+5,none⟩=some vg∧w.cell? ⟨b,off+k * 12+6,none⟩=some (.int .i64 (ns.getD k ndZ).p.x)∧w.cell? ⟨b,off+k * 12+7,none⟩=some (.int .i64 (ns.getD k ndZ).p.y)∧w.cell? ⟨b,off+k * 12+8,none⟩=some (.int .i64 (ns.getD k ndZ).p.z)∧w.cell? ⟨b,off+k * 12+9,none⟩=some (.int .i64 (ns.getD k ndZ).p.h)∧w.cell? ⟨b,off+k * 12+10,none⟩=some (.int .i64 (ns.getD k ndZ).p.s)∧w.cell? ⟨b,off+k * 12+11,none⟩=some vw:=by
 obtain ⟨vm,vr,vs,vg,vw,h1,h2⟩:=h k hk
 exact ⟨vm,vr,vs,vg,vw,h1,h2 0 (by omega),h2 1 (by omega),h2 2 (by omega),h2 3 (by omega),h2 4 (by omega),h2 5 (by omega),h2 6 (by omega),h2 7 (by omega),h2 8 (by omega),h2 9 (by omega),h2 10 (by omega),h2 11 (by omega)⟩
end Go.Proofs.YtffdoiokmiklgaaGreatDoor
