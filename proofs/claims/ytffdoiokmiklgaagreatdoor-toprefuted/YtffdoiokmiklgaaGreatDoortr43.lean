import Derived.Test.YtffdoiokmiklgaaGreatDoortr42
import Derived.Test.YtffdoiokmiklgaaGreatDoortr40
import Derived.Lib.QuietBelow
namespace Go.Proofs.YtffdoiokmiklgaaGreatDoor
open Go.RowKit
theorem Nd.e_parts {n:Nd} (h:n.e=0):n.Parts:=by
 unfold Nd.e at h
 split at h
 ·rename_i h0;exact Nd.parts h0
 ·rename_i h0;exact absurd h h0
theorem Nd.e_len {n:Nd} (h:n.e=0):n.ms.length≤1000∧n.rs.length≤1000∧n.sv.length≤1000∧n.gw.length≤1000∧n.wh.length≤1000:=by
 have p:=Nd.e_parts h
 have h1:=(chk_zero p.ms).1
 have h3:=(Sv.chk_zero p.sv).1
 have h4:=(Gw.chk_zero p.gw).1
 have h5:=(Wh.chk_zero p.wh).1
 have h2:n.rs.length≤20:=by
  apply Classical.byContradiction
  intro hh
  have:=chkR_many (rs:=n.rs) (by omega)
  rw [p.rs] at this
  cases this
 omega
theorem Nt.e_zero {t:Nt} (h:t.e=0):t.ns.length≤6∧t.ls.length≤20∧(∀ n∈t.ns,n.e=0)∧ApartN t.ns∧∀ l∈t.ls,ltE t.ns.length l=0:=by
 unfold Nt.e at h
 split at h
 ·cases h
 ·rename_i h0
  split at h
  ·rename_i h1
   unfold chkN at h1
   split at h1
   ·rename_i h2
    split at h1
    ·rename_i h3
     exact ⟨by omega,by omega,fstE_mem _ h2,(apN_iff _).1 h3,fstE_mem _ h⟩
    ·cases h1
   ·rename_i h2;exact absurd h1 h2
  ·rename_i h1;exact absurd h h1
def NetSays (w:World) (te:Int) (t:Nt) (e:Ending) (w':World):Prop:=
 Below w.heap.size w w'∧((te=0∧∃ a l c d m k nb L,e=.returned (.tuple #[.agg #[.slice a l c,.slice d m k],.int .i64 0])∧NtOwn w.heap.size w' t (.slice a l c) (.slice d m k) nb L)∨(te≠0∧e=.returned (.tuple #[.agg #[.slice none 0 0,.slice none 0 0],.int .i64 te])))
set_option maxHeartbeats 6400000 in
set_option maxRecDepth 100000 in
theorem netNew_any (ns:List Nd) (vn:Value) (w:World) (hV:Rv w.heap.size w) (h:NSl w vn ns) :
 Calls Tryz.prog 6 #[vn] w (NetSays w (Nt.mk ns []).e ⟨ns,[]⟩):=by
 have hnil:∀ W:World,Lt.Sl W (.slice none 0 0) []:=fun W=>Lt.own_names (Lt.own_nil W.heap.size W) (fun m hm=>by cases hm)
 have HCK:Hid (∀ W,Below w.heap.size w W→Calls Tryz.prog 11 #[.agg #[vn,.slice none 0 0]] W fun e w'=>e=.returned (.int .i64 (Nt.mk ns []).e)∧Below W.heap.size W w'):=fun W hW=>netCheck_any ⟨ns,[]⟩ vn _ W (hV.after hW) ⟨h.below hW,hnil W⟩ (fun _ l hl=>by cases hl)
 have HCP:Hid ((Nt.mk ns []).e=0→∀ W,Below w.heap.size w W→Calls Tryz.prog 18 #[.agg #[vn,.slice none 0 0]] W fun e w'=>∃ un a l c L,e=.returned (.agg #[un,.slice a l c])∧NtOwn W.heap.size w' ⟨ns,[]⟩ un (.slice a l c) (W.heap.size+2) L∧Below W.heap.size W w'):=fun he W hW=>by
  have hz:=Nt.e_zero he
  exact copied_any ⟨ns,[]⟩ vn _ W ⟨h.below hW,hnil W⟩ hz.1 hz.2.1 (fun n hn=>Nd.e_len (hz.2.2.1 n hn))
 obtain ⟨pn,cn,hvn,_⟩:=h
 subst hvn
 generalize hte:(Nt.mk ns []).e=te at *
 clear hte
 generalize ns.length=n at *
 clear hV hnil
 obtain ⟨W0,hW0⟩:∃ W0,W0=(w.alloc (.cells #[.slice none 0 0,.slice none 0 0] 25)).alloc (.cells #[.slice pn n cn,.slice none 0 0] 25):=⟨_,rfl⟩
 have hb0:Below w.heap.size w W0:=by rw [hW0];exact ((Below.refl _ _).alloc (Nat.le_refl _) _).alloc (by simp) _
 have k0:W0.heap[w.heap.size]?=some (.cells #[.slice none 0 0,.slice none 0 0] 25 (0,0)):=by
  rw [hW0];exact (Lib.alloc_old _ _ _ (by simp)).trans (heap_alloc_new w _)
 have k1:W0.heap[w.heap.size+1]?=some (.cells #[.slice pn n cn,.slice none 0 0] 25 (0,0)):=by
  rw [hW0]
  have:=heap_alloc_new (w.alloc (.cells #[.slice none 0 0,.slice none 0 0] 25)) (.cells #[.slice pn n cn,.slice none 0 0] 25)
  simpa using this
 have HS0:Hid (w.heap.size+2≤W0.heap.size):=by show _≤_;rw [hW0];simp
 have HB0:Hid (Below w.heap.size w W0):=hb0
 have HK:Hid (∀ W,Below W0.heap.size W0 W→W.heap[w.heap.size]?=some (.cells #[.slice none 0 0,.slice none 0 0] 25 (0,0))∧W.heap[w.heap.size+1]?=some (.cells #[.slice pn n cn,.slice none 0 0] 25 (0,0))):=fun W hW=>⟨(hW.block _ (by have:=HS0.out;omega)).trans k0,(hW.block _ (by have:=HS0.out;omega)).trans k1⟩
 have x0:W0.cell? ⟨w.heap.size+1,0,none⟩=some (.slice pn n cn):=cellsAt k1 0
 have x1:W0.cell? ⟨w.heap.size+1,1,none⟩=some (.slice none 0 0):=cellsAt k1 1
 clear hb0 k0 k1
 go_enter Tryz.func6,Tryz.ntmps6
 go_upto_region 2 with fail
 rw [← hW0]
 clear hW0
 go_wp2_with fail
 refine (HCK.out W0 HB0.out).mono ?_
 rintro e w1 ⟨rfl,hb1⟩
 have HB1:Hid (Below W0.heap.size W0 w1):=hb1
 have HBW1:Hid (Below w.heap.size w w1):=HB0.out.trans (hb1.mono HB0.out.size)
 clear hb1 x0 x1 HCK
 by_cases h0:te=0
 ·subst h0
  have hcp:=HCP.out rfl
  clear HCP
  have HCP:Hid _:=hcp
  clear hcp
  have x0:w1.cell? ⟨w.heap.size+1,0,none⟩=some (.slice pn n cn):=cellsAt (HK.out w1 HB1.out).2 0
  have x1:w1.cell? ⟨w.heap.size+1,1,none⟩=some (.slice none 0 0):=cellsAt (HK.out w1 HB1.out).2 1
  go_wp2_with fail
  refine Calls.mono (HCP.out w1 HBW1.out) ?_
  rintro e w2 ⟨un,a,l,c,L,rfl,hown,hb2⟩
  have hun:=hown.un
  subst hun
  have hk2:=(HK.out w2 (HB1.out.trans (hb2.mono HB1.out.size))).1
  obtain ⟨W3,hW3⟩:∃ W3,W3=setAll w.heap.size [.slice (some ⟨w1.heap.size+2,0,none⟩) ns.length ns.length,.slice a l c] 0 w2:=⟨_,rfl⟩
  have hk3:W3.heap[w.heap.size]?=some (.cells #[.slice (some ⟨w1.heap.size+2,0,none⟩) ns.length ns.length,.slice a l c] 25 (0,0)):=by rw [hW3];exact setAll_block [.slice (some ⟨w1.heap.size+2,0,none⟩) ns.length ns.length,.slice a l c] [] [.slice none 0 0,.slice none 0 0] hk2 rfl
  have hoth:∀ q,q≠w.heap.size→W3.heap[q]?=w2.heap[q]?:=fun q hq=>by rw [hW3];exact setAll_other hq _ _ _
  have hw1s:=HBW1.out.size
  have HRES:Hid (NetSays w 0 ⟨ns,[]⟩ (.returned (.tuple #[.agg #[.slice (some ⟨w1.heap.size+2,0,none⟩) ns.length ns.length,.slice a l c],.int .i64 0])) W3):=by
   refine ⟨by rw [hW3];exact setAll_below (Nat.le_refl _) _ _ (HBW1.out.trans (hb2.mono HBW1.out.size)),.inl ⟨rfl,_,_,_,_,_,_,w1.heap.size+2,L,rfl,⟨rfl,by omega,hown.ns,?_,?_,?_⟩⟩⟩
   ·exact (hoth _ (by omega)).trans hown.row
   ·exact fun x hx=>(hown.own x hx).keep (fun q hq _=>hoth q (by omega))
   ·exact row_keep (fun q hq _=>hoth q (by omega)) hown.ls
  have g0:w2.cell? ⟨w.heap.size,0,none⟩=some (.slice none 0 0):=cellsAt hk2 0
  have g1:w2.cell? ⟨w.heap.size,1,none⟩=some (.slice none 0 0):=cellsAt hk2 1
  have f0:w2.frozen? ⟨w.heap.size,0,none⟩=false:=by simp [World.frozen?,hk2]
  have f1:w2.frozen? ⟨w.heap.size,1,none⟩=false:=by simp [World.frozen?,hk2]
  have q0:W3.cell? ⟨w.heap.size,0,none⟩=some (.slice (some ⟨w1.heap.size+2,0,none⟩) ns.length ns.length):=cellsAt hk3 0
  have q1:W3.cell? ⟨w.heap.size,1,none⟩=some (.slice a l c):=cellsAt hk3 1
  clear hk2 hk3 hoth hw1s hown hb2 HK HB1 HBW1 HB0 HS0 x0 x1 HCP
  simp only at HRES hW3 q0 ⊢
  go_wp2_with fail
  simp only [setAll,Nat.zero_add] at hW3
  rw [← hW3]
  clear hW3 g0 g1 f0 f1
  exact bodyPost_ret (v:=.tuple #[.agg #[.slice (some ⟨w1.heap.size+2,0,none⟩) ns.length ns.length,.slice a l c],.int .i64 0]) (by simp [results,Tryz.results6,go_sem,q0,q1]) rfl HRES.out
 ·have he:(te != 0)=true:=by simpa using h0
  have hk1:=(HK.out w1 HB1.out).1
  obtain ⟨W3,hW3⟩:∃ W3,W3=setAll w.heap.size [.slice none 0 0,.slice none 0 0] 0 w1:=⟨_,rfl⟩
  have hk3:W3.heap[w.heap.size]?=some (.cells #[.slice none 0 0,.slice none 0 0] 25 (0,0)):=by rw [hW3];exact setAll_block [.slice none 0 0,.slice none 0 0] [] [.slice none 0 0,.slice none 0 0] hk1 rfl
  have HRES:Hid (NetSays w te ⟨ns,[]⟩ (.returned (.tuple #[.agg #[.slice none 0 0,.slice none 0 0],.int .i64 te])) W3):=⟨by rw [hW3];exact setAll_below (Nat.le_refl _) _ _ HBW1.out,.inr ⟨h0,rfl⟩⟩
  have g0:w1.cell? ⟨w.heap.size,0,none⟩=some (.slice none 0 0):=cellsAt hk1 0
  have g1:w1.cell? ⟨w.heap.size,1,none⟩=some (.slice none 0 0):=cellsAt hk1 1
  have f0:w1.frozen? ⟨w.heap.size,0,none⟩=false:=by simp [World.frozen?,hk1]
  have f1:w1.frozen? ⟨w.heap.size,1,none⟩=false:=by simp [World.frozen?,hk1]
  have q0:W3.cell? ⟨w.heap.size,0,none⟩=some (.slice none 0 0):=cellsAt hk3 0
  have q1:W3.cell? ⟨w.heap.size,1,none⟩=some (.slice none 0 0):=cellsAt hk3 1
  clear hk1 hk3 HK HB1 HBW1 HB0 HS0 HCP h0
  go_wp2_with fail
  simp only [setAll,Nat.zero_add] at hW3
  rw [← hW3]
  clear hW3 g0 g1 f0 f1
  exact bodyPost_ret (v:=.tuple #[.agg #[.slice none 0 0,.slice none 0 0],.int .i64 te]) (by simp [results,Tryz.results6,go_sem,q0,q1]) rfl HRES.out
theorem NSl.ok {w:World} {v:Value} {ns:List Nd} (h:NSl w v ns):∀ n∈ns,NdOk n:=fun n hn=>by
 obtain ⟨a,cap,_,h⟩:=h
 rcases h with h | ⟨b,off,_,_,hr⟩
 ·subst h;cases hn
 ·obtain ⟨j,hj,rfl⟩:=List.mem_iff_getElem.1 hn
  obtain ⟨vm,vr,vs,vg,vw,h1,_⟩:=hr j hj
  rw [List.getD,List.getElem?_eq_getElem hj] at h1
  exact h1.ok
theorem NtOwn.row_at {B nb:Nat} {w:World} {t:Nt} {un ul:Value} {L:List Nx} (h:NtOwn B w t un ul nb L) (hk:∀ n∈t.ns,NdOk n):NRow w nb 0 t.ns:=fun j hj=>by
 have hl:L.length=t.ns.length:=by rw [← h.ns,List.length_map]
 have hjL:j < L.length:=by omega
 have hx:L.getD j nx0∈L:=by rw [List.getD,List.getElem?_eq_getElem hjL];exact List.getElem_mem hjL
 have hn:(L.getD j nx0).n=t.ns.getD j ndZ:=by
  rw [← h.ns,List.getD,List.getD,List.getElem?_map,List.getElem?_eq_getElem hjL];rfl
 have hm:t.ns.getD j ndZ∈t.ns:=by rw [List.getD,List.getElem?_eq_getElem hj];exact List.getElem_mem hj
 have ho:=h.own _ hx
 have hg:=fun i hi=>nfl_get L j hjL i hi
 have hr:=h.row
 generalize L.getD j nx0=x at *
 obtain ⟨xn,vm,vr,vs,vg,vw⟩:=x
 simp only at hn ho
 subst hn
 refine ⟨vm,vr,vs,vg,vw,ho.is (hk _ hm),fun i hi=>?_⟩
 have hgi:=hg i hi
 have hlt:i < (ndA (t.ns.getD j ndZ) vm vr vs vg vw).size:=hi
 have hc:=cellsAt hr (0+j * 12+i)
 rw [hc]
 simpa [Nx.cs] using hgi
theorem NtOwn.sl {B nb:Nat} {w:World} {t:Nt} {un ul:Value} {L:List Nx} (h:NtOwn B w t un ul nb L) (hk:∀ n∈t.ns,NdOk n):NSl w un t.ns:=by
 have hb:nb < w.heap.size:=(Array.getElem?_eq_some_iff.1 h.row).1
 exact ⟨_,_,h.un,.inr ⟨nb,0,rfl,hb,h.row_at hk⟩⟩
end Go.Proofs.YtffdoiokmiklgaaGreatDoor
