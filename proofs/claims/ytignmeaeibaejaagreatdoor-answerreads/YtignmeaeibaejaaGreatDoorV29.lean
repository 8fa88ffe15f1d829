import Derived.Test.YtignmeaeibaejaaGreatDoorV8
import Derived.Test.YtignmeaeibaejaaGreatDoorV16
import Derived.Deep.RegionHeld3
import Derived.StillTactics
import Derived.Test.YtignmeaeibaejaaGreatDoorV1
import Derived.Maps.AppendAt
import Derived.OwnWalk
namespace Go.Proofs.YtignmeaeibaejaaGreatDoor
open Go.RowKit
set_option maxHeartbeats 1600000 in
set_option maxRecDepth 100000 in
theorem take_no (g a n:Nat) (t:ByteArray) (w:World) (c0:w.cell? ⟨g,0,none⟩=some (.string t)) (c1:w.cell? ⟨g,1,none⟩=some (.int .i64 a)) (hs:t.size≤1000) (ha:a≤t.size) (han:¬ a+n≤t.size) :
 Calls Tryz.prog 92 #[.pointer (some ⟨g,0,none⟩),.int .i64 n] w fun e w'=>e=outE 1∧∃ m,w'=w.drewN m:=by
 have h1:IntKind.i64.wrap ((t.size:Int) - (a:Int))=(t.size:Int) - (a:Int):=by rw [IntKind.wrap_i64];omega
 have h2:decide ((n:Int)≤(t.size:Int) - (a:Int))=false:=by simp;omega
 go_enter Tryz.func92,Tryz.ntmps92
 go_wp2_with fail
 refine wp_region_held_drew (S:=fun W=>W.cell? ⟨g,0,none⟩=some (.string t)∧W.cell? ⟨g,1,none⟩=some (.int .i64 a)) (by kernel_rfl) ⟨c0,c1⟩ (fun hHeld=>?_)
 refine wpAnyH_take (i:=0) (v:=?v0) rfl (by kernel_rfl) (by kernel_rfl) (by kernel_rfl) (fun _ _ _ h=>h) (Or.inl ⟨by rfl,?hy0⟩) (by assumption) ?_
 case hy0=>(intro W hSw;obtain ⟨d0,d1⟩:=hSw;go_simp;try with_reducible rfl)
 refine wpAnyH_take (i:=1) (v:=?v1) rfl (by kernel_rfl) (by kernel_rfl) (by kernel_rfl) (fun _ _ _ h=>h) (Or.inl ⟨by rfl,?hy1⟩) (by assumption) ?_
 case hy1=>(intro W hSw;obtain ⟨d0,d1⟩:=hSw;go_simp;try with_reducible rfl)
 refine wpAnyH_take (i:=2) (v:=?v2) rfl (by kernel_rfl) (by kernel_rfl) (by kernel_rfl) (fun _ _ _ h=>h) (Or.inl ⟨by rfl,?hy2⟩) (by assumption) ?_
 case hy2=>(intro W hSw;obtain ⟨d0,d1⟩:=hSw;go_simp;try with_reducible rfl)
 refine wpAnyH_take (i:=3) (v:=?v3) rfl (by kernel_rfl) (by kernel_rfl) (by kernel_rfl) (fun _ _ _ h=>h) (Or.inl ⟨by rfl,?hy3⟩) (by assumption) ?_
 case hy3=>(intro W hSw;obtain ⟨d0,d1⟩:=hSw;go_simp;try with_reducible rfl)
 refine wpAnyH_take (i:=4) (v:=?v4) rfl (by kernel_rfl) (by kernel_rfl) (by kernel_rfl) (fun _ _ _ h=>h) (Or.inl ⟨by rfl,?hy4⟩) (by assumption) ?_
 case hy4=>(intro W hSw;obtain ⟨d0,d1⟩:=hSw;go_simp;try with_reducible rfl)
 refine wpAnyH_take (i:=5) (v:=?v5) rfl (by kernel_rfl) (by kernel_rfl) (by kernel_rfl) (fun _ _ _ h=>h) (Or.inl ⟨by rfl,?hy5⟩) (by assumption) ?_
 case hy5=>(intro W hSw;obtain ⟨d0,d1⟩:=hSw;go_simp;try with_reducible rfl)
 refine wpAnyH_take (i:=6) (v:=?v6) rfl (by kernel_rfl) (by kernel_rfl) (by kernel_rfl) (fun _ _ _ h=>h) (Or.inl ⟨by rfl,?hy6⟩) (by assumption) ?_
 case hy6=>(intro W hSw;obtain ⟨d0,d1⟩:=hSw;go_simp;try with_reducible rfl)
 refine wpAnyH_take (i:=7) (v:=?v7) rfl (by kernel_rfl) (by kernel_rfl) (by kernel_rfl) (fun _ _ _ h=>h) (Or.inl ⟨by rfl,?hy7⟩) (by assumption) ?_
 case hy7=>(intro W hSw;obtain ⟨d0,d1⟩:=hSw;go_simp;try with_reducible rfl)
 refine wpAnyH_take (i:=8) (v:=?v8) rfl (by kernel_rfl) (by kernel_rfl) (by kernel_rfl) (fun _ _ _ h=>h) (Or.inl ⟨by rfl,?hy8⟩) (by assumption) ?_
 case hy8=>(intro W hSw;obtain ⟨d0,d1⟩:=hSw;go_simp;try with_reducible rfl)
 refine wpAnyH_take (i:=9) (v:=?v9) rfl (by kernel_rfl) (by kernel_rfl) (by kernel_rfl) (fun _ _ _ h=>h) (Or.inl ⟨by rfl,?hy9⟩) (by assumption) ?_
 case hy9=>(intro W hSw;obtain ⟨d0,d1⟩:=hSw;go_simp;try with_reducible rfl)
 refine wpAnyH_take (i:=10) (v:=?v10) rfl (by kernel_rfl) (by kernel_rfl) (by kernel_rfl) (fun _ _ _ h=>h) (Or.inl ⟨by rfl,?hy10⟩) (by assumption) ?_
 case hy10=>(intro W hSw;obtain ⟨d0,d1⟩:=hSw;go_simp;try with_reducible rfl)
 refine wpAnyH_take (i:=11) (v:=?v11) rfl (by kernel_rfl) (by kernel_rfl) (by kernel_rfl) (fun _ _ _ h=>h) (Or.inl ⟨by rfl,?hy11⟩) (by assumption) ?_
 case hy11=>(intro W hSw;obtain ⟨d0,d1⟩:=hSw;go_simp;try with_reducible rfl)
 refine wpAnyH_ready (rs:=[12]) (by kernel_rfl) (by simp) ?_
 refine AllReadyH.cons rfl (fun K hK=>?_) AllReadyH.nil
 go_simp
 refine (need_no _ _).mono ?_
 rintro e w5 ⟨rfl,rfl⟩
 exact ⟨rfl,rfl,1,rfl⟩
set_option maxHeartbeats 1600000 in
set_option maxRecDepth 100000 in
theorem peek_no (g a:Nat) (t:ByteArray) (w:World) (c0:w.cell? ⟨g,0,none⟩=some (.string t)) (c1:w.cell? ⟨g,1,none⟩=some (.int .i64 a)) (ha:¬ a < t.size) :
 Calls Tryz.prog 93 #[.pointer (some ⟨g,0,none⟩)] w fun e w'=>e=outE 1∧∃ m,w'=w.drewN m:=by
 have h2:decide ((a:Int) < (t.size:Int))=false:=by simp;omega
 go_enter Tryz.func93,Tryz.ntmps93
 go_wp2_with fail
 refine wp_region_held_drew (S:=fun W=>W.cell? ⟨g,0,none⟩=some (.string t)∧W.cell? ⟨g,1,none⟩=some (.int .i64 a)) (by kernel_rfl) ⟨c0,c1⟩ (fun hHeld=>?_)
 refine wpAnyH_take (i:=0) (v:=?v0) rfl (by kernel_rfl) (by kernel_rfl) (by kernel_rfl) (fun _ _ _ h=>h) (Or.inl ⟨by rfl,?hy0⟩) (by assumption) ?_
 case hy0=>(intro W hSw;obtain ⟨d0,d1⟩:=hSw;go_simp;try with_reducible rfl)
 refine wpAnyH_take (i:=1) (v:=?v1) rfl (by kernel_rfl) (by kernel_rfl) (by kernel_rfl) (fun _ _ _ h=>h) (Or.inl ⟨by rfl,?hy1⟩) (by assumption) ?_
 case hy1=>(intro W hSw;obtain ⟨d0,d1⟩:=hSw;go_simp;try with_reducible rfl)
 refine wpAnyH_take (i:=2) (v:=?v2) rfl (by kernel_rfl) (by kernel_rfl) (by kernel_rfl) (fun _ _ _ h=>h) (Or.inl ⟨by rfl,?hy2⟩) (by assumption) ?_
 case hy2=>(intro W hSw;obtain ⟨d0,d1⟩:=hSw;go_simp;try with_reducible rfl)
 refine wpAnyH_take (i:=3) (v:=?v3) rfl (by kernel_rfl) (by kernel_rfl) (by kernel_rfl) (fun _ _ _ h=>h) (Or.inl ⟨by rfl,?hy3⟩) (by assumption) ?_
 case hy3=>(intro W hSw;obtain ⟨d0,d1⟩:=hSw;go_simp;try with_reducible rfl)
 refine wpAnyH_take (i:=4) (v:=?v4) rfl (by kernel_rfl) (by kernel_rfl) (by kernel_rfl) (fun _ _ _ h=>h) (Or.inl ⟨by rfl,?hy4⟩) (by assumption) ?_
 case hy4=>(intro W hSw;obtain ⟨d0,d1⟩:=hSw;go_simp;try with_reducible rfl)
 refine wpAnyH_take (i:=5) (v:=?v5) rfl (by kernel_rfl) (by kernel_rfl) (by kernel_rfl) (fun _ _ _ h=>h) (Or.inl ⟨by rfl,?hy5⟩) (by assumption) ?_
 case hy5=>(intro W hSw;obtain ⟨d0,d1⟩:=hSw;go_simp;try with_reducible rfl)
 refine wpAnyH_take (i:=6) (v:=?v6) rfl (by kernel_rfl) (by kernel_rfl) (by kernel_rfl) (fun _ _ _ h=>h) (Or.inl ⟨by rfl,?hy6⟩) (by assumption) ?_
 case hy6=>(intro W hSw;obtain ⟨d0,d1⟩:=hSw;go_simp;try with_reducible rfl)
 refine wpAnyH_take (i:=7) (v:=?v7) rfl (by kernel_rfl) (by kernel_rfl) (by kernel_rfl) (fun _ _ _ h=>h) (Or.inl ⟨by rfl,?hy7⟩) (by assumption) ?_
 case hy7=>(intro W hSw;obtain ⟨d0,d1⟩:=hSw;go_simp;try with_reducible rfl)
 refine wpAnyH_take (i:=8) (v:=?v8) rfl (by kernel_rfl) (by kernel_rfl) (by kernel_rfl) (fun _ _ _ h=>h) (Or.inl ⟨by rfl,?hy8⟩) (by assumption) ?_
 case hy8=>(intro W hSw;obtain ⟨d0,d1⟩:=hSw;go_simp;try with_reducible rfl)
 refine wpAnyH_take (i:=9) (v:=?v9) rfl (by kernel_rfl) (by kernel_rfl) (by kernel_rfl) (fun _ _ _ h=>h) (Or.inl ⟨by rfl,?hy9⟩) (by assumption) ?_
 case hy9=>(intro W hSw;obtain ⟨d0,d1⟩:=hSw;go_simp;try with_reducible rfl)
 refine wpAnyH_ready (rs:=[10]) (by kernel_rfl) (by simp) ?_
 refine AllReadyH.cons rfl (fun K hK=>?_) AllReadyH.nil
 go_simp
 refine (need_no _ _).mono ?_
 rintro e w5 ⟨rfl,rfl⟩
 exact ⟨rfl,rfl,1,rfl⟩
theorem rd_drewN (g:Nat) (w:World) (m:Nat):Rd g w (w.drewN m):=Rd.ext ⟨rfl,rfl,rfl,Nat.le_refl _,fun _ _=>rfl,fun _ _=>rfl,fun _ _=>rfl⟩
set_option maxHeartbeats 800000 in
theorem number_no (g a n:Nat) (t:ByteArray) (w:World) (h:IsR g t a w) (hs:t.size≤1000) (ha:a≤t.size) (han:¬ a+n≤t.size) :
 Calls Tryz.prog 59 #[.pointer (some ⟨g,0,none⟩),.int .i64 n] w fun e w'=>e=outE 1∧Hid (Rd g w w'):=by
 have HT:Hid (Calls Tryz.prog 92 #[.pointer (some ⟨g,0,none⟩),.int .i64 n] w fun e w'=>e=outE 1∧∃ m,w'=w.drewN m):=take_no g a n t w h.c0 h.c1 hs ha han
 clear h
 go_enter Tryz.func59,Tryz.ntmps59
 go_wp2_with fail
 refine HT.out.mono ?_
 rintro e w1 ⟨rfl,m,rfl⟩
 exact ⟨rfl,rfl,rd_drewN g w m⟩
theorem number_b (g a n:Nat) (t:ByteArray) (w:World) (h:IsR g t a w) (hs:t.size≤1000) (ha:a≤t.size) (hn:n≤4) :
 Calls Tryz.prog 59 #[.pointer (some ⟨g,0,none⟩),.int .i64 n] w fun e w'=>Hid (Rd g w w')∧((a+n≤t.size∧e=.returned (.int .i64 (rnum t a n))∧Hid (IsR g t (a+n) w'))∨(¬ a+n≤t.size∧e=outE 1)):=by
 by_cases han:a+n≤t.size
 ·refine (number_r g a n t w h hs han hn).mono ?_
  rintro e w' ⟨rfl,h1,h2⟩
  exact ⟨h2,.inl ⟨han,rfl,h1⟩⟩
 ·refine (number_no g a n t w h hs ha han).mono ?_
  rintro e w' ⟨rfl,h2⟩
  exact ⟨h2,.inr ⟨han,rfl⟩⟩
theorem peek_b (g a:Nat) (t:ByteArray) (w:World) (h:IsR g t a w) :
 Calls Tryz.prog 93 #[.pointer (some ⟨g,0,none⟩)] w fun e w'=>Hid (Rd g w w')∧((a < t.size∧e=.returned (.int .u8 (rnum t a 1:Nat))∧Hid (IsR g t a w'))∨(¬ a < t.size∧e=outE 1)):=by
 by_cases han:a < t.size
 ·refine (peek_r g a t w h han).mono ?_
  rintro e w' ⟨rfl,h1,h2⟩
  exact ⟨h2,.inl ⟨han,rfl,h1⟩⟩
 ·refine (peek_no g a t w h.c0 h.c1 han).mono ?_
  rintro e w' ⟨rfl,m,rfl⟩
  exact ⟨rd_drewN g w m,.inr ⟨han,rfl⟩⟩
set_option maxHeartbeats 800000 in
theorem expect_b (g a n:Nat) (x:Int) (t:ByteArray) (w:World) (h:IsR g t a w) (hs:t.size≤1000) (ha:a≤t.size) (hn:n≤4) :
 Calls Tryz.prog 61 #[.pointer (some ⟨g,0,none⟩),.int .i64 n,.int .i64 x] w fun e w'=>Hid (Rd g w w')∧(((a+n≤t.size∧(rnum t a n:Int)=x)∧e=.returned (.tuple #[])∧Hid (IsR g t (a+n) w'))∨(¬ (a+n≤t.size∧(rnum t a n:Int)=x)∧e=outE 1)):=by
 have HT:Hid (Calls Tryz.prog 59 #[.pointer (some ⟨g,0,none⟩),.int .i64 n] w fun e w'=>Hid (Rd g w w')∧((a+n≤t.size∧e=.returned (.int .i64 (rnum t a n))∧Hid (IsR g t (a+n) w'))∨(¬ a+n≤t.size∧e=outE 1))):=number_b g a n t w h hs ha hn
 clear h
 go_enter Tryz.func61,Tryz.ntmps61
 go_wp2_with fail
 refine HT.out.mono ?_
 rintro e w1 ⟨HD,⟨han,rfl,HI⟩ | ⟨han,rfl⟩⟩
 ·by_cases hx:(rnum t a n:Int)=x
  ·have hb:((rnum t a n:Int) == x)=true:=by simpa using hx
   have HX:Hid ((rnum t a n:Int)=x):=hx
   clear hx
   go_wp2_with fail
   refine (need_ok _ _).mono ?_
   rintro e w5 ⟨rfl,rfl⟩
   go_wp2_with fail
   simp [bodyPost,results,Tryz.results61]
   exact ⟨HD,.inl ⟨⟨han,HX.out⟩,HI⟩⟩
  ·have hb:((rnum t a n:Int) == x)=false:=by simpa using hx
   have HX:Hid (¬ (rnum t a n:Int)=x):=hx
   clear hx
   go_wp2_with fail
   refine (need_no _ _).mono ?_
   rintro e w5 ⟨rfl,rfl⟩
   exact ⟨rfl,HD,.inr ⟨fun h=>HX.out h.2,rfl⟩⟩
 ·exact ⟨rfl,HD,.inr ⟨fun h=>han h.1,rfl⟩⟩
set_option maxHeartbeats 800000 in
theorem counted_no (g a:Nat) (t:ByteArray) (w:World) (h:IsR g t a w) (hs:t.size≤1000) (ha:a≤t.size) (han:¬ a+1+rnum t a 1≤t.size) :
 Calls Tryz.prog 96 #[.pointer (some ⟨g,0,none⟩)] w fun e w'=>e=outE 1∧Hid (Rd g w w'):=by
 have HT:Hid (Calls Tryz.prog 59 #[.pointer (some ⟨g,0,none⟩),.int .i64 1] w fun e w'=>Hid (Rd g w w')∧((a+1≤t.size∧e=.returned (.int .i64 (rnum t a 1))∧Hid (IsR g t (a+1) w'))∨(¬ a+1≤t.size∧e=outE 1))):=number_b g a 1 t w h hs ha (by omega)
 clear h
 go_enter Tryz.func96,Tryz.ntmps96
 go_wp2_with fail
 refine HT.out.mono ?_
 rintro e w1 ⟨HD,⟨h1,rfl,HI⟩ | ⟨h1,rfl⟩⟩
 ·have HT2:Hid (Calls Tryz.prog 92 #[.pointer (some ⟨g,0,none⟩),.int .i64 (rnum t a 1:Nat)] w1 fun e w'=>e=outE 1∧∃ m,w'=w1.drewN m):=take_no g (a+1) (rnum t a 1) t w1 HI.out.c0 HI.out.c1 hs h1 han
  go_wp2_with fail
  refine HT2.out.mono ?_
  rintro e w2 ⟨rfl,m,rfl⟩
  exact ⟨rfl,rfl,HD.out.trans (rd_drewN g w1 m)⟩
 ·exact ⟨rfl,rfl,HD⟩
theorem counted_b (g a:Nat) (t:ByteArray) (w:World) (h:IsR g t a w) (hs:t.size≤1000) (ha:a≤t.size) :
 Calls Tryz.prog 96 #[.pointer (some ⟨g,0,none⟩)] w fun e w'=>Hid (Rd g w w')∧((a+1+rnum t a 1≤t.size∧e=.returned (.string (t.extract (a+1) (a+1+rnum t a 1)))∧Hid (IsR g t (a+1+rnum t a 1) w'))∨(¬ a+1+rnum t a 1≤t.size∧e=outE 1)):=by
 by_cases han:a+1+rnum t a 1≤t.size
 ·refine (counted_r g a _ t _ w h hs rfl han rfl).mono ?_
  rintro e w' ⟨rfl,h1,h2⟩
  exact ⟨h2,.inl ⟨han,rfl,h1⟩⟩
 ·refine (counted_no g a t w h hs ha han).mono ?_
  rintro e w' ⟨rfl,h2⟩
  exact ⟨h2,.inr ⟨han,rfl⟩⟩
def lwb (c:UInt8):UInt8:=if 65≤c.toNat∧c.toNat≤90 then (c.toNat+32).toUInt8 else c
def lwS (s:ByteArray):ByteArray:=mk (s.data.toList.map lwb)
theorem lwS_size (s:ByteArray):(lwS s).size=s.size:=by unfold lwS;rw [mk_size];simp
def lwAt (s:ByteArray) (k j:Nat):Nat:=if j < k then (lwb (s.data.toList.getD j 0)).toNat else (s.data.toList.getD j 0).toNat
theorem lwAt_end (s:ByteArray) (j:Nat) (hj:j < s.size):lwAt s s.size j=((lwS s).data.toList.getD j 0).toNat:=by
 have hj2:j < s.data.toList.length:=by simpa using hj
 unfold lwAt lwS
 rw [if_pos hj,data_mk]
 simp only [List.getD_eq_getElem?_getD,List.getElem?_map,List.getElem?_eq_getElem hj2]
 rfl
theorem lwAt_keep (s:ByteArray) (k j:Nat) (hl:¬ (65≤(s.data.toList.getD k 0).toNat∧(s.data.toList.getD k 0).toNat≤90)):lwAt s (k+1) j=lwAt s k j:=by
 unfold lwAt
 by_cases h1:j < k
 ·rw [if_pos h1,if_pos (by omega)]
 ·by_cases h2:j=k
  ·subst h2
   rw [if_pos (by omega),if_neg (by omega)]
   unfold lwb
   rw [if_neg hl]
  ·rw [if_neg h1,if_neg (by omega)]
theorem lwAt_turn (s:ByteArray) (k:Nat) (hl:65≤(s.data.toList.getD k 0).toNat∧(s.data.toList.getD k 0).toNat≤90):lwAt s (k+1) k=(s.data.toList.getD k 0).toNat+32:=by
 unfold lwAt lwb
 rw [if_pos (by omega),if_pos hl]
 show ((s.data.toList.getD k 0).toNat+32)%256=_
 omega
theorem lwAt_else (s:ByteArray) (k j:Nat) (h:j≠k):lwAt s (k+1) j=lwAt s k j:=by
 unfold lwAt
 by_cases h1:j < k
 ·rw [if_pos h1,if_pos (by omega)]
 ·rw [if_neg h1,if_neg (by omega)]
set_option maxHeartbeats 1600000 in
set_option maxRecDepth 100000 in
theorem small_any (s:ByteArray) (w:World) (hs:s.size≤1000) :
 Calls Tryz.prog 95 #[.string s] w fun e w'=>e=.returned (.string (lwS s))∧Below w.heap.size w w':=by
 have hcv:=fun w s=>Lib.run_convert_string_bytes (P:=Tryz.prog) w 9 102 5 s (u:=.string) Tryz.underlying9 Tryz.underlying102 Tryz.underlying5
 have HB0:Hid (∀ j,j < s.size→(Lib.bytesWorld w 5 s).cell? ⟨w.heap.size,j,none⟩=some (.int .u8 (lwAt s 0 j:Nat))):=fun j hj=>Lib.bytesWorld_cell w 5 s j hj
 have HF0:Hid (∀ j,j < s.size→(Lib.bytesWorld w 5 s).frozen? ⟨w.heap.size,j,none⟩=false):=fun j hj=>by
  have h:=Lib.bytesWorld_at_new w 5 s
  have h2:s.size≤(Lib.bytesCells w 5 s).size:=by simp [Lib.bytesCells]
  simp only [World.frozen?,h]
  simp
  omega
 have hX:Below w.heap.size w (Lib.bytesWorld w 5 s):=by
  rw [← run_bytesW w s]
  exact ((Below.refl _ _).drew).alloc (Nat.le_refl _) _
 have HX0:Hid (Below w.heap.size w (Lib.bytesWorld w 5 s)):=hX
 clear hX
 obtain ⟨W1,hW1⟩:∃ W1,W1=Lib.bytesWorld w 5 s:=⟨_,rfl⟩
 go_enter Tryz.func95,Tryz.ntmps95
 go_wp2_with fail
 rw [← hW1] at HB0 HX0 HF0 ⊢
 clear hcv hW1
 have hsz2:(lwS s).data.toList.length=s.size:=by have:=lwS_size s;simpa using this
 have HBK:Hid (∀ cap W,(∀ j,j < s.size→W.cell? ⟨w.heap.size,j,none⟩=some (.int .u8 (lwAt s s.size j:Nat)))→(convert 102 9 (.slice (some ⟨w.heap.size,0,none⟩) s.size cap)).run Tryz.prog W=.ok (.string (lwS s)) W):=fun cap W hW=>by
  have h:=run_convert_bytes_back (P:=Tryz.prog) W 102 9 5 ⟨w.heap.size,0,none⟩ cap (lwS s).data.toList Tryz.underlying102 Tryz.underlying5 Tryz.underlying9 (fun j hj=>by
   have h2:=hW j (by omega)
   rw [lwAt_end s j (by omega),List.getD_eq_getElem?_getD,List.getElem?_eq_getElem hj] at h2
   have ha:(⟨w.heap.size,0,none⟩:Addr).add j=⟨w.heap.size,j,none⟩:=by
    by_cases hj0:j=0<;>simp [Addr.add,hj0]
   rw [ha]
   simpa using h2)
  rw [hsz2] at h
  exact h
 clear hsz2
 go_loopw [10] (fun vi wr=>∃ (k:Nat),vi=.int .i64 k∧k≤s.size∧Hid (∀ j,j < s.size→wr.cell? ⟨w.heap.size,j,none⟩=some (.int .u8 (lwAt s k j:Nat)))∧Hid (∀ j,j < s.size→wr.frozen? ⟨w.heap.size,j,none⟩=false)∧Hid (Below w.heap.size w wr))
  (fun vi _=>s.size - (intOf vi).toNat)
 case atStart=>exact ⟨0,rfl,by omega,HB0,HF0,HX0⟩
 case round=>
  obtain ⟨k,rfl,hk,HB,HF,HX⟩:=hrel
  by_cases hkn:k < s.size
  ·have hc:decide ((k:Int) < (s.size:Int))=true:=by simp;omega
   have hcell:=HB.out k hkn
   have hfz:=HF.out k hkn
   have hi0:(0:Int)≤(k:Int):=by omega
   have hi1:(k:Int) < (s.size:Int):=by omega
   have hi2:((k:Int)).toNat=k:=by omega
   have HV:Hid (lwAt s k k=(s.data.toList.getD k 0).toNat):=(show _=_ by unfold lwAt;rw [if_neg (by omega)])
   rw [HV.out] at hcell
   have hb256:=(s.data.toList.getD k 0).toNat_lt
   by_cases hl:65≤(s.data.toList.getD k 0).toNat∧(s.data.toList.getD k 0).toNat≤90
   ·have HT:Hid (lwAt s (k+1) k=(s.data.toList.getD k 0).toNat+32):=lwAt_turn s k hl
    generalize hb:(s.data.toList.getD k 0).toNat=b at *
    clear hb
    have hd1:decide ((65:Int)≤(b:Int))=true:=by simp;omega
    have hd2:decide ((b:Int)≤90)=true:=by simp;omega
    have hw1:IntKind.u8.wrap ((b:Int) - 65)=(b:Int) - 65:=by rw [IntKind.wrap_u8];omega
    have hw2:IntKind.u8.wrap ((b:Int) - 65+97)=((b+32:Nat):Int):=by rw [IntKind.wrap_u8];omega
    go_wp2_with fail
    refine ⟨⟨k+1,by simp,by omega,?_,?_,?_⟩,by simp [intOf];omega⟩
    ·show ∀ _,_
     intro j hj
     by_cases hjk:j=k
     ·subst hjk
      rw [World.cell?_setCell_same _ _ _ hcell,HT.out]
      simp
     ·refine (World.cell?_setCell_other _ _ _ _ (fun e=>by injection e with e1 e2;exact hjk e2.symm)).trans ?_
      rw [lwAt_else s k j hjk]
      exact HB.out j hj
    ·show ∀ _,_
     intro j hj
     simpa using HF.out j hj
    ·exact HX.out.setCell (p:=⟨w.heap.size,k,none⟩) (Nat.le_refl _) _
   ·have HT:Hid (∀ j,lwAt s (k+1) j=lwAt s k j):=fun j=>lwAt_keep s k j hl
    generalize hb:(s.data.toList.getD k 0).toNat=b at *
    clear hb
    have HB1:Hid (∀ j,j < s.size→wr.cell? ⟨w.heap.size,j,none⟩=some (.int .u8 (lwAt s (k+1) j:Nat))):=fun j hj=>by rw [HT.out j];exact HB.out j hj
    by_cases h65:65≤b
    ·have hd1:decide ((65:Int)≤(b:Int))=true:=by simp;omega
     have hd2:decide ((b:Int)≤90)=false:=by simp;omega
     go_wp2_with fail
     refine ⟨⟨k+1,by simp,by omega,HB1,HF,HX⟩,by simp [intOf];omega⟩
    ·have hd1:decide ((65:Int)≤(b:Int))=false:=by simp;omega
     go_wp2_with fail
     refine ⟨⟨k+1,by simp,by omega,HB1,HF,HX⟩,by simp [intOf];omega⟩
  ·have hc:decide ((k:Int) < (s.size:Int))=false:=by simp;omega
   have hkn2:k=s.size:=by omega
   subst hkn2
   have hbk:=fun cap=>HBK.out cap wr HB.out
   go_wp2_with fail
   simp [bodyPost,results,Tryz.results95]
   exact HX.out
end Go.Proofs.YtignmeaeibaejaaGreatDoor
namespace Go.Proofs.YtignmeaeibaejaaGreatDoor
open Go.RowKit Go.Lib
def nmG (t:ByteArray):Nat→Nat→Nat→List ByteArray→Option Nat→Option (List ByteArray × Nat)
 | 0,_,_,_,_=>none
 | f+1,b,bg,D,p=>
   if b < t.size then
    if rnum t b 1=0 then some (D,p.getD (b+1))
    else if 192≤rnum t b 1 then
     (if b+2≤t.size∧rnum t b 2 - 49152 < bg then nmG t f (rnum t b 2 - 49152) (rnum t b 2 - 49152) D (some (p.getD (b+2))) else none)
    else
     (if b+1+rnum t b 1≤t.size∧labB (lwS (t.extract (b+1) (b+1+rnum t b 1)))=true∧D.length < 8 then nmG t f (b+1+rnum t b 1) bg (D++[lwS (t.extract (b+1) (b+1+rnum t b 1))]) p else none)
   else none
def nmF (t:ByteArray) (b bg:Nat) (D:List ByteArray) (p:Option Nat):Option (List ByteArray × Nat):=nmG t (bg * 9+(8 - D.length)+1) b bg D p
theorem nmG_more (t:ByteArray):∀ (f g b bg:Nat) (D:List ByteArray) (p:Option Nat),bg * 9+(8 - D.length) < f→bg * 9+(8 - D.length) < g→nmG t f b bg D p=nmG t g b bg D p
 | 0,_,_,_,_,_,h,_=>by omega
 | _+1,0,_,_,_,_,_,h=>by omega
 | f+1,g+1,b,bg,D,p,hf,hg=>by
   simp only [nmG]
   by_cases h1:b < t.size
   ·rw [if_pos h1,if_pos h1]
    by_cases h2:rnum t b 1=0
    ·rw [if_pos h2,if_pos h2]
    ·rw [if_neg h2,if_neg h2]
     by_cases h3:192≤rnum t b 1
     ·rw [if_pos h3,if_pos h3]
      by_cases h4:b+2≤t.size∧rnum t b 2 - 49152 < bg
      ·rw [if_pos h4,if_pos h4]
       exact nmG_more t f g _ _ _ _ (by omega) (by omega)
      ·rw [if_neg h4,if_neg h4]
     ·rw [if_neg h3,if_neg h3]
      by_cases h4:b+1+rnum t b 1≤t.size∧labB (lwS (t.extract (b+1) (b+1+rnum t b 1)))=true∧D.length < 8
      ·rw [if_pos h4,if_pos h4]
       exact nmG_more t f g _ _ _ _ (by rw [List.length_append,List.length_singleton];omega) (by rw [List.length_append,List.length_singleton];omega)
      ·rw [if_neg h4,if_neg h4]
   ·rw [if_neg h1,if_neg h1]
theorem nmF_no {t:ByteArray} {b bg:Nat} {D:List ByteArray} {p:Option Nat} (h:¬ b < t.size):nmF t b bg D p=none:=by unfold nmF;simp only [nmG];rw [if_neg h]
theorem nmF_end {t:ByteArray} {b bg:Nat} {D:List ByteArray} {p:Option Nat} (h:b < t.size) (h0:rnum t b 1=0):nmF t b bg D p=some (D,p.getD (b+1)):=by unfold nmF;simp only [nmG];rw [if_pos h,if_pos h0]
theorem nmF_rest {t:ByteArray} {b bg:Nat} {D:List ByteArray} {p:Option Nat} (h:b < t.size) (h0:192≤rnum t b 1):nmF t b bg D p=if b+2≤t.size∧rnum t b 2 - 49152 < bg then nmF t (rnum t b 2 - 49152) (rnum t b 2 - 49152) D (some (p.getD (b+2))) else none:=by
 have e:nmF t b bg D p=if b+2≤t.size∧rnum t b 2 - 49152 < bg then nmG t (bg * 9+(8 - D.length)) (rnum t b 2 - 49152) (rnum t b 2 - 49152) D (some (p.getD (b+2))) else none:=by
  unfold nmF
  simp only [nmG]
  rw [if_pos h,if_neg (by omega),if_pos h0]
 rw [e]
 by_cases h1:b+2≤t.size∧rnum t b 2 - 49152 < bg
 ·rw [if_pos h1,if_pos h1]
  exact nmG_more t _ _ _ _ _ _ (by omega) (by omega)
 ·rw [if_neg h1,if_neg h1]
theorem nmF_label {t:ByteArray} {b bg:Nat} {D:List ByteArray} {p:Option Nat} (h:b < t.size) (h0:rnum t b 1≠0) (h1:¬ 192≤rnum t b 1):nmF t b bg D p=if b+1+rnum t b 1≤t.size∧labB (lwS (t.extract (b+1) (b+1+rnum t b 1)))=true∧D.length < 8 then nmF t (b+1+rnum t b 1) bg (D++[lwS (t.extract (b+1) (b+1+rnum t b 1))]) p else none:=by
 have e:nmF t b bg D p=if b+1+rnum t b 1≤t.size∧labB (lwS (t.extract (b+1) (b+1+rnum t b 1)))=true∧D.length < 8 then nmG t (bg * 9+(8 - D.length)) (b+1+rnum t b 1) bg (D++[lwS (t.extract (b+1) (b+1+rnum t b 1))]) p else none:=by
  unfold nmF
  simp only [nmG]
  rw [if_pos h,if_neg h0,if_neg h1]
 rw [e]
 by_cases h2:b+1+rnum t b 1≤t.size∧labB (lwS (t.extract (b+1) (b+1+rnum t b 1)))=true∧D.length < 8
 ·rw [if_pos h2,if_pos h2]
  exact nmG_more t _ _ _ _ _ _ (by rw [List.length_append,List.length_singleton];omega) (by omega)
 ·rw [if_neg h2,if_neg h2]
structure Nm (g:Nat) (t:ByteArray) (w:World) (lv:Value) (k b:Nat) (D:List ByteArray) (p:Option Nat) (W:World):Prop where
 isR:IsR k t b W
 rd:Rd g w W
 own:OwnS w.heap.size W lv D
 wh:(p=none∧k=g)∨(∃ q,p=some q∧w.heap.size≤k∧IsR g t q W∧q≤t.size∧lv.ownBlock≠some k)
 lt:g < w.heap.size
theorem Nm.ne {g k b:Nat} {t:ByteArray} {w W:World} {lv:Value} {D:List ByteArray} {p:Option Nat} (h:Nm g t w lv k b D p W):lv.ownBlock≠some k:=by
 rcases h.wh with ⟨_,rfl⟩ | ⟨_,_,_,_,_,h5⟩
 ·intro e
  have:=(h.own.lt _ e).1
  have:=h.lt
  omega
 ·exact h5
theorem Nm.text {g k b:Nat} {t:ByteArray} {w W:World} {lv:Value} {D:List ByteArray} {p:Option Nat} (h:Nm g t w lv k b D p W):W.cell? ⟨g,0,none⟩=some (.string t):=by
 rcases h.wh with ⟨_,rfl⟩ | ⟨_,_,_,h4,_,_⟩
 ·exact h.isR.c0
 ·exact h4.c0
theorem Rd.isR {k g a:Nat} {t:ByteArray} {W W':World} (h:Rd k W W') (hg:IsR g t a W) (hne:g≠k):IsR g t a W' where
 c0:=(World.cell?_of_block (a:=⟨g,0,none⟩) (h.block g hg.hg hne)).trans hg.c0
 c1:=(World.cell?_of_block (a:=⟨g,1,none⟩) (h.block g hg.hg hne)).trans hg.c1
 hz:=(World.frozen?_of_block (a:=⟨g,1,none⟩) (h.block g hg.hg hne)).trans hg.hz
 hg:=Nat.lt_of_lt_of_le hg.hg h.size
theorem Nm.rd2 {g k b:Nat} {t:ByteArray} {w W W':World} {lv:Value} {D:List ByteArray} {p:Option Nat} (h:Nm g t w lv k b D p W) (h2:Hid (Rd k W W')):Rd g w W':=by
 rcases h.wh with ⟨_,rfl⟩ | ⟨q,_,h3,_,_,_⟩
 ·exact h.rd.trans h2.out
 ·exact ⟨h2.out.os.trans h.rd.os,h2.out.tape.trans h.rd.tape,h2.out.output.trans h.rd.output,Nat.le_trans h.rd.size h2.out.size,fun j hj hg=>(h2.out.block j (Nat.lt_of_lt_of_le hj h.rd.size) (by omega)).trans (h.rd.block j hj hg)⟩
theorem Nm.call {g k b c:Nat} {t:ByteArray} {w W W':World} {lv:Value} {D:List ByteArray} {p:Option Nat} (h:Nm g t w lv k b D p W) (h1:Hid (IsR k t c W')) (h2:Hid (Rd k W W')):Nm g t w lv k c D p W':=by
 have hl:=h.lt
 refine ⟨h1.out,h.rd2 h2,?_,?_,hl⟩
 ·have hne:=h.ne
  rcases h.own.2 with ⟨rfl,h0⟩ | ⟨j,c,cur,rfl,hbg,hk,r⟩
  ·exact ⟨h.own.1,.inl ⟨rfl,h0⟩⟩
  ·refine ⟨h.own.1,.inr ⟨j,c,cur,rfl,hbg,(h2.out.block j (Array.getElem?_eq_some_iff.1 hk).1 ?_).trans hk,r⟩⟩
   intro e
   exact hne (by rw [e];rfl)
 ·rcases h.wh with ⟨h3,h4⟩ | ⟨q,h3,h4,h5,h6,h7⟩
  ·exact .inl ⟨h3,h4⟩
  ·exact .inr ⟨q,h3,h4,h2.out.isR h5 (by omega),h6,h7⟩
theorem Nm.below {g k b:Nat} {t:ByteArray} {w W W':World} {lv:Value} {D:List ByteArray} {p:Option Nat} (h:Nm g t w lv k b D p W) (hb:Below W.heap.size W W'):Nm g t w lv k b D p W':=
 h.call (h.isR.below hb h.isR.hg) (Rd.of_below hb (Nat.le_refl _):Rd k W W')
theorem Nm.grown {g k b:Nat} {t l:ByteArray} {w W W':World} {lv v':Value} {D:List ByteArray} {p:Option Nat} (h:Nm g t w lv k b D p W) (h1:OwnS w.heap.size W' v' (D++[l])) (h2:W.grownBy W' lv.ownBlock) (h3:v'.ownBlock=lv.ownBlock∨v'.ownBlock=some W.heap.size):Nm g t w v' k b (D++[l]) p W':=by
 have hl:=h.lt
 have hne:=h.ne
 have hk:=h.isR.hg
 have hblk:∀ q,q < w.heap.size→W'.heap[q]?=W.heap[q]?:=fun q hq=>h2.block q (Nat.lt_of_lt_of_le hq h.rd.size) (fun e=>by have:=(h.own.lt _ e.symm).1;omega)
 have isr:∀ q a,(q=k∨q=g)→IsR q t a W→IsR q t a W':=fun q a hq hr=>by
  have hqb:W'.heap[q]?=W.heap[q]?:=by
   rcases hq with rfl | rfl
   ·exact h2.block q hk (fun e=>hne e.symm)
   ·exact hblk q hl
  exact ⟨(World.cell?_of_block (a:=⟨q,0,none⟩) hqb).trans hr.c0,(World.cell?_of_block (a:=⟨q,1,none⟩) hqb).trans hr.c1,(World.frozen?_of_block (a:=⟨q,1,none⟩) hqb).trans hr.hz,Nat.lt_of_lt_of_le hr.hg h2.size⟩
 refine ⟨isr k b (.inl rfl) h.isR,⟨h2.os.trans h.rd.os,h2.tape.trans h.rd.tape,h2.output.trans h.rd.output,Nat.le_trans h.rd.size h2.size,fun j hj hg=>(hblk j hj).trans (h.rd.block j hj hg)⟩,h1,?_,hl⟩
 rcases h.wh with ⟨h4,h5⟩ | ⟨q,h4,h5,h6,h7,h8⟩
 ·exact .inl ⟨h4,h5⟩
 ·refine .inr ⟨q,h4,h5,isr g q (.inr rfl) h6,h7,?_⟩
  rcases h3 with e | e
  ·rw [e];exact h8
  ·rw [e];intro e2;have:=Option.some.inj e2;omega
theorem Nm.rest {g k b r:Nat} {t:ByteArray} {w W:World} {lv:Value} {D:List ByteArray} {p:Option Nat} (h:Nm g t w lv k b D p W) (hb:b≤t.size):Nm g t w lv W.heap.size r D (some (p.getD b)) (W.alloc (.cells #[.string t,.int .i64 r] 64)):=by
 have hx:W.Extends (W.alloc (.cells #[.string t,.int .i64 r] 64)):=(World.Extends.refl W).alloc _
 have hn:(W.alloc (.cells #[.string t,.int .i64 r] 64)).heap[W.heap.size]?=some (.cells #[.string t,.int .i64 r] 64 (0,0)):=heap_alloc_new W _
 have hbl:Below W.heap.size W (W.alloc (.cells #[.string t,.int .i64 r] 64)):=(Below.refl _ _).alloc (Nat.le_refl _) _
 refine ⟨⟨by simp only [World.cell?,hn];rfl,by simp only [World.cell?,hn];rfl,by simp only [World.frozen?,hn];rfl,by simp⟩,h.rd.trans (Rd.ext hx),h.own.below hbl,.inr ⟨p.getD b,rfl,h.rd.size,?_,?_,?_⟩,h.lt⟩
 ·rcases h.wh with ⟨rfl,rfl⟩ | ⟨q,rfl,_,h5,_,_⟩
  ·exact h.isR.ext hx
  ·exact h5.ext hx
 ·rcases h.wh with ⟨rfl,rfl⟩ | ⟨q,rfl,_,_,h6,_⟩
  ·exact hb
  ·exact h6
 ·intro e
  have:=(h.own.lt _ e).2
  omega
theorem Nm.fin {g k b:Nat} {t:ByteArray} {w W:World} {lv:Value} {D:List ByteArray} {p:Option Nat} (h:Nm g t w lv k b D p W) (hb:b≤t.size):IsR g t (p.getD b) W∧p.getD b≤t.size:=by
 rcases h.wh with ⟨rfl,rfl⟩ | ⟨q,rfl,_,h5,h6,_⟩
 ·exact ⟨h.isR,hb⟩
 ·exact ⟨h5,h6⟩
theorem rnum_two (t:ByteArray) (b:Nat) (h:192≤rnum t b 1):49152≤rnum t b 2:=by
 have e:rnum t b 2=rnum t b 1 * 256+(t.data[b+1]?.getD 0).toNat:=rfl
 omega
theorem jn_len:∀ (D:List ByteArray),(∀ l∈D,l.size≤30)→(jn (D.map bts)).length≤D.length * 31
 | [],_=>by simp [jn]
 | [x],h=>by have:=h x (by simp);simp [jn];omega
 | x :: y :: r,h=>by
   have ih:=jn_len (y :: r) (fun l hl=>h l (List.mem_cons_of_mem _ hl))
   have hx:=h x (by simp)
   have hx2:(bts x).length=x.size:=by simp
   simp only [List.map_cons,jn,List.length_append,List.length_cons] at ih ⊢
   omega
theorem lwS_ext (t:ByteArray) (b f:Nat) (h:b+1+f≤t.size):(t.extract (b+1) (b+1+f)).size=f:=by simp;omega
set_option maxHeartbeats 800000 in
set_option maxRecDepth 100000 in
theorem name_b (g a:Nat) (t:ByteArray) (w:World) (h:IsR g t a w) (hs:t.size≤1000) (ha:a≤t.size) :
 Calls Tryz.prog 62 #[.pointer (some ⟨g,0,none⟩)] w fun e w'=>Hid (Rd g w w')∧((∃ ls q,nmF t a a [] none=some (ls,q)∧(ls.length≤8∧∀ l∈ls,l.size≤30)∧q≤t.size∧e=.returned (.string (mk (jn (ls.map bts))))∧Hid (IsR g t q w'))∨(nmF t a a [] none=none∧e=outE 1)):=by
 obtain ⟨i0,hi0,hz0,hzs,hzb⟩:=info_parts Tryz.info9
 have c1:=h.c1
 have HI:Hid (IsR g t a w):=h
 have hgw:=h.hg
 clear h
 obtain ⟨RES,hRES⟩:∃ R,R=nmF t a a [] none:=⟨_,rfl⟩
 rw [← hRES]
 have HRES:Hid (nmF t a a [] none=RES):=hRES.symm
 clear hRES
 have HJ:Hid (∀ (D:List ByteArray) (W:World) (v:Value),OwnS w.heap.size W v D→D.length≤8→(∀ l∈D,l.size≤30)→∃ R,R=mk (jn (D.map bts))∧Calls Tryz.prog 94 #[v,.string ⟨#[46]⟩] W fun e w'=>e=.returned (.string R)∧Below W.heap.size W w'):=fun D W v ho hd hl=>⟨_,rfl,join_own _ D W v ho (by omega) (by have:=jn_len D hl;omega)⟩
 go_enter Tryz.func62,Tryz.ntmps62
 go_wp2_with fail
 go_quiet (fail)
 go_wp2_with fail
 go_loopw [3,4,5] (fun lv pv bv wr=>∃ (D:List ByteArray) (b bg:Nat) (p:Option Nat) (k:Nat),pv=.pointer (some ⟨k,0,none⟩)∧bv=.int .i64 bg∧b≤t.size∧bg≤t.size∧D.length≤8∧Hid (∀ l∈D,l.size≤30)∧Hid (nmF t b bg D p=RES)∧Hid (Nm g t w lv k b D p wr)) (fun lv _ bv _=>(RowKit.intOf bv).toNat * 9+(8 - lenOf lv))
 case atStart=>exact ⟨[],a,a,none,g,rfl,rfl,ha,ha,by simp,(show ∀ _,_ from fun l hl=>by cases hl),HRES,(⟨HI.out.ext (ext_drewN _ _),Rd.ext (ext_drewN _ _),ownS_nil _ _,.inl ⟨rfl,rfl⟩,hgw⟩:Nm g t w _ g a [] none _)⟩
 case round=>
  obtain ⟨D,b,bg,p,k,rfl,rfl,hb,hbg,hD,HSM,HR,HN⟩:=hrel
  have HP:Hid (Calls Tryz.prog 93 #[.pointer (some ⟨k,0,none⟩)] wr fun e w'=>Hid (Rd k wr w')∧((b < t.size∧e=.returned (.int .u8 (rnum t b 1:Nat))∧Hid (IsR k t b w'))∨(¬ b < t.size∧e=outE 1))):=peek_b k b t wr HN.out.isR
  go_wp2_with fail
  refine HP.out.mono ?_
  rintro e w1 ⟨HD1,⟨hlt,rfl,HI1⟩ | ⟨hlt,rfl⟩⟩
  rotate_left
  ·exact ⟨rfl,HN.out.rd2 HD1,.inr ⟨HR.out.symm.trans (nmF_no hlt),rfl⟩⟩
  have HN1:Hid (Nm g t w _ k b D p w1):=HN.out.call HI1 HD1
  clear HN HP HI1 HD1
  by_cases h0:rnum t b 1=0
  ·have HR1:Hid (RES=some (D,p.getD (b+1))):=HR.out.symm.trans (nmF_end hlt h0)
   have HX:Hid (Calls Tryz.prog 61 #[.pointer (some ⟨k,0,none⟩),.int .i64 1,.int .i64 0] w1 fun e w'=>Hid (Rd k w1 w')∧(((b+1≤t.size∧(rnum t b 1:Int)=0)∧e=.returned (.tuple #[])∧Hid (IsR k t (b+1) w'))∨(¬ (b+1≤t.size∧(rnum t b 1:Int)=0)∧e=outE 1))):=expect_b k b 1 0 t w1 HN1.out.isR hs hb (by omega)
   rw [h0] at HX ⊢
   go_wp2_with fail
   refine HX.out.mono ?_
   rintro e w2 ⟨HD2,⟨_,rfl,HI2⟩ | ⟨hno,rfl⟩⟩
   rotate_left
   ·exact absurd ⟨by omega,rfl⟩ hno
   have HN2:Hid (Nm g t w _ k (b+1) D p w2):=HN1.out.call HI2 HD2
   clear HI2 HD2 HX HN1
   go_wp2_with fail
   obtain ⟨R,hR,HJC⟩:=HJ.out D w2 _ HN2.out.own hD HSM.out
   have HJC:Hid (Calls Tryz.prog 94 #[_,.string ⟨#[46]⟩] w2 fun e w'=>e=.returned (.string R)∧Below w2.heap.size w2 w'):=HJC
   have HRR:Hid (R=mk (jn (D.map bts))):=hR
   clear hR
   refine HJC.out.mono ?_
   rintro e w3 ⟨rfl,hb3⟩
   have HN3:Hid (Nm g t w _ k (b+1) D p w3):=HN2.out.below hb3
   clear hb3 HN2
   go_wp2_with fail
   go_ret
   obtain ⟨f1,f2⟩:=HN3.out.fin (by omega)
   exact ⟨HN3.out.rd,.inl ⟨D,_,HR1.out,⟨hD,HSM.out⟩,f2,by rw [HRR.out];rfl,f1⟩⟩
  ·by_cases h192:192≤rnum t b 1
   ·have HR1:Hid (RES=if b+2≤t.size∧rnum t b 2 - 49152 < bg then nmF t (rnum t b 2 - 49152) (rnum t b 2 - 49152) D (some (p.getD (b+2))) else none):=HR.out.symm.trans (nmF_rest hlt h192)
    have h2:=rnum_two t b h192
    have hm0:((rnum t b 1:Int) == 0)=false:=beq_eq_false_iff_ne.2 (by omega)
    have hm1:¬ (rnum t b 1:Int)=0:=by omega
    have hm2:decide ((192:Int)≤(rnum t b 1:Int))=true:=by simp;omega
    have HX:Hid (Calls Tryz.prog 59 #[.pointer (some ⟨k,0,none⟩),.int .i64 2] w1 fun e w'=>Hid (Rd k w1 w')∧((b+2≤t.size∧e=.returned (.int .i64 (rnum t b 2))∧Hid (IsR k t (b+2) w'))∨(¬ b+2≤t.size∧e=outE 1))):=number_b k b 2 t w1 HN1.out.isR hs hb (by omega)
    clear HR
    go_wp2_with fail
    refine HX.out.mono ?_
    rintro e w2 ⟨HD2,⟨hle,rfl,HI2⟩ | ⟨hno,rfl⟩⟩
    rotate_left
    ·exact ⟨rfl,HN1.out.rd2 HD2,.inr ⟨HR1.out.trans (if_neg (fun h=>hno h.1)),rfl⟩⟩
    have HN2:Hid (Nm g t w _ k (b+2) D p w2):=HN1.out.call HI2 HD2
    clear HI2 HD2 HX HN1
    have ct:=HN2.out.text
    have hl2:=rnum_lt t b 2
    obtain ⟨r,hr⟩:∃ r,r=rnum t b 2 - 49152:=⟨_,rfl⟩
    rw [← hr] at HR1
    have hwr:IntKind.i64.wrap ((rnum t b 2:Int) - 49152)=(r:Int):=by rw [IntKind.wrap_i64];omega
    clear hr h2 hl2
    by_cases hrb:r < bg
    ·have hd:decide ((r:Int) < (bg:Int))=true:=by simp;omega
     have HR2:Hid (nmF t r r D (some (p.getD (b+2)))=RES):=(HR1.out.trans (if_pos ⟨hle,hrb⟩)).symm
     clear HR1
     go_wp2_with fail
     refine (need_ok _ _).mono ?_
     rintro e w5 ⟨rfl,hw5⟩
     subst hw5
     have HN3:Hid (Nm g t w _ w5.heap.size r D (some (p.getD (b+2))) (w5.alloc (.cells #[.string t,.int .i64 r] 64))):=HN2.out.rest hle
     clear HN2
     go_wp2_with fail
     refine ⟨⟨D,r,r,_,w5.heap.size,rfl,rfl,by omega,by omega,hD,HSM,HR2,HN3⟩,?_⟩
     simp [RowKit.intOf]
     omega
    ·have hd:decide ((r:Int) < (bg:Int))=false:=by simp;omega
     have HR2:Hid (RES=none):=HR1.out.trans (if_neg (fun h=>hrb h.2))
     clear HR1
     go_wp2_with fail
     refine (need_no _ _).mono ?_
     rintro e w5 ⟨rfl,hw5⟩
     subst hw5
     exact ⟨rfl,HN2.out.rd,.inr ⟨HR2.out,rfl⟩⟩
   ·have HR1:Hid (RES=if b+1+rnum t b 1≤t.size∧labB (lwS (t.extract (b+1) (b+1+rnum t b 1)))=true∧D.length < 8 then nmF t (b+1+rnum t b 1) bg (D++[lwS (t.extract (b+1) (b+1+rnum t b 1))]) p else none):=HR.out.symm.trans (nmF_label hlt h0 h192)
    have hm0:((rnum t b 1:Int) == 0)=false:=beq_eq_false_iff_ne.2 (by omega)
    have hm1:¬ (rnum t b 1:Int)=0:=by omega
    have hm2:decide ((192:Int)≤(rnum t b 1:Int))=false:=by simp;omega
    have HX:Hid (Calls Tryz.prog 96 #[.pointer (some ⟨k,0,none⟩)] w1 fun e w'=>Hid (Rd k w1 w')∧((b+1+rnum t b 1≤t.size∧e=.returned (.string (t.extract (b+1) (b+1+rnum t b 1)))∧Hid (IsR k t (b+1+rnum t b 1) w'))∨(¬ b+1+rnum t b 1≤t.size∧e=outE 1))):=counted_b k b t w1 HN1.out.isR hs hb
    clear HR
    generalize hf:rnum t b 1=f at *
    clear hf
    go_wp2_with fail
    refine HX.out.mono ?_
    rintro e w2 ⟨HD2,⟨hle,rfl,HI2⟩ | ⟨hno,rfl⟩⟩
    rotate_left
    ·exact ⟨rfl,HN1.out.rd2 HD2,.inr ⟨HR1.out.trans (if_neg (fun h=>hno h.1)),rfl⟩⟩
    have HN2:Hid (Nm g t w _ k (b+1+f) D p w2):=HN1.out.call HI2 HD2
    have hes:=lwS_ext t b f hle
    generalize t.extract (b+1) (b+1+f)=x at *
    clear HI2 HD2 HX HN1
    go_wp2_with fail
    refine (small_any x w2 (by omega)).mono ?_
    rintro e w3 ⟨rfl,hb3⟩
    have HN3:Hid (Nm g t w _ k (b+1+f) D p w3):=HN2.out.below hb3
    have hxs:=lwS_size x
    generalize lwS x=l at *
    clear hb3 HN2
    obtain ⟨pp,c,hv⟩:=own_shape HN3.out.own
    subst hv
    have hls:l.size≤maxLen:=by unfold maxLen;omega
    by_cases hl:labB l=true
    ·have hl30:=lab_size hl
     have HLL:Hid (labB l=true):=hl
     clear hl
     by_cases hD8:D.length < 8
     ·have hd8:decide ((D.length:Int) < 8)=true:=by simp;omega
      have HR2:Hid (nmF t (b+1+f) bg (D++[l]) p=RES):=(HR1.out.trans (if_pos ⟨hle,HLL.out,hD8⟩)).symm
      clear HR1
      go_wp2_with fail
      refine (label_any l w3 hls).mono ?_
      rintro e w4 ⟨rfl,hw4⟩
      subst hw4
      rw [HLL.out]
      go_wp2_with fail
      refine (need_ok _ _).mono ?_
      rintro e w5 ⟨rfl,hw5⟩
      subst hw5
      have hsz5:=HN3.out.rd.size
      go_wp2_with (at_builtin;refine wpList_append_own_at _ rfl _ _ 81 rfl w.heap.size 9 i0 _ 1 16 Tryz.underlying81 hi0 hz0 hzs hzb rfl (by omega) _ D.length (D.map Value.string) rfl ?hown ⟨w5.heap.size,0,none⟩ 1 1 [.string l] rfl rfl ?hnews (strs_one [_]) ?h63 ?hbytes ?hbase ?_)
      case hown=>exact HN3.out.own.below ((Below.refl _ _).alloc (Nat.le_refl _) _)
      case hnews=>(intro j u hj;rw [Addr.add_lit];exact (cell_topL (by simp)).trans (by simpa using hj))
      case h63=>(unfold maxLen;omega)
      case hbytes=>omega
      case hbase=>(simp;omega)
      intro v' w6 r1 r2 r3 r4
      have HN4:Hid (Nm g t w v' k (b+1+f) (D++[l]) p w6):=(HN3.out.below ((Below.refl _ _).alloc (Nat.le_refl _) _)).grown (ownS_snoc (l:=D) r1) r2 (by simpa using r4)
      have HSM2:Hid (∀ x∈D++[l],x.size≤30):=(show ∀ _,_ from fun x hx=>by
       rcases List.mem_append.1 hx with h | h
       ·exact HSM.out x h
       ·rw [List.mem_singleton.1 h];exact hl30.2)
      clear r1 r2 r3 r4 HN3 HSM
      go_wp2_with fail
      refine ⟨⟨D++[l],b+1+f,bg,p,k,rfl,rfl,by omega,hbg,by rw [List.length_append,List.length_singleton];omega,HSM2,HR2,HN4⟩,?_⟩
      rw [own_len HN4.out.own,show lenOf (Value.slice pp D.length c)=D.length from rfl,List.length_append,List.length_singleton]
      omega
     ·have hd8:decide ((D.length:Int) < 8)=false:=by simp;omega
      have HR2:Hid (RES=none):=HR1.out.trans (if_neg (fun h=>hD8 h.2.2))
      clear HR1
      go_wp2_with fail
      refine (label_any l w3 hls).mono ?_
      rintro e w4 ⟨rfl,hw4⟩
      subst hw4
      rw [HLL.out]
      go_wp2_with fail
      refine (need_no _ _).mono ?_
      rintro e w5 ⟨rfl,hw5⟩
      subst hw5
      exact ⟨rfl,HN3.out.rd,.inr ⟨HR2.out,rfl⟩⟩
    ·have HLL:Hid (labB l=false):=(show _=_ by simpa using hl)
     have HR2:Hid (RES=none):=HR1.out.trans (if_neg (fun h=>hl h.2.1))
     clear HR1 hl
     go_wp2_with fail
     refine (label_any l w3 hls).mono ?_
     rintro e w4 ⟨rfl,hw4⟩
     subst hw4
     rw [HLL.out]
     go_wp2_with fail
     refine (need_no _ _).mono ?_
     rintro e w5 ⟨rfl,hw5⟩
     subst hw5
     exact ⟨rfl,HN3.out.rd,.inr ⟨HR2.out,rfl⟩⟩
end Go.Proofs.YtignmeaeibaejaaGreatDoor
