import Derived.Maps.OwnSet
import Derived.WalkKit
import Derived.Test.YtffdoiokmiklgaaGreatDoortr5
import Derived.Lib.QuietBelow
import Derived.Laws.StructEq
namespace Go.Proofs.YtffdoiokmiklgaaGreatDoor
open Go.RowKit Go.WideMaps Go.Maps
abbrev kS (s:ByteArray):Lit:=.string s.data.toList
theorem kS_key (s:ByteArray):WideAt.IsKeyLit (kS s):=by simp [WideAt.IsKeyLit]
theorem kS_ne {a b:ByteArray} (h:a≠b):kS a≠kS b:=fun e=>h (by
 have h2:a.data.toList=b.data.toList:=by injection e
 obtain ⟨⟨a⟩⟩:=a
 obtain ⟨⟨b⟩⟩:=b
 simp at h2
 rw [h2])
def Dm (ns:List ByteArray):Nat→DataW Unit
 | 0=>.map []
 | k+1=>(Dm ns k).put (kS (ns.getD k ByteArray.empty)) (.lit (.int .i64 k))
theorem Dm_tidy (ns:List ByteArray):∀ k,Tidy (Dm ns k)
 | 0=>tidy_empty
 | k+1=>(Dm_tidy ns k).put (kS_key _) _
theorem Dm_has (ns:List ByteArray) (s:ByteArray):∀ k,Maps.has (Dm ns k) (kS s)=true↔∃ j,j < k∧ns.getD j ByteArray.empty=s
 | 0=>by simp [Dm,Maps.has]
 | k+1=>by
   by_cases h:ns.getD k ByteArray.empty=s
   ·subst h
    rw [Dm,has_put_same (Dm_tidy ns k).isMap (kS_key _)]
    exact ⟨fun _=>⟨k,by omega,rfl⟩,fun _=>rfl⟩
   ·rw [Dm,has_put_other (kS_ne (Ne.symm h)),Dm_has ns s k]
    constructor
    ·rintro ⟨j,hj,e⟩;exact ⟨j,by omega,e⟩
    ·rintro ⟨j,hj,e⟩
     by_cases hjk:j=k
     ·subst hjk;exact absurd e h
     ·exact ⟨j,by omega,e⟩
theorem Dm_step (ns:List ByteArray) (k:Nat):Maps.size (Dm ns (k+1))=if Maps.has (Dm ns k) (kS (ns.getD k ByteArray.empty))=true then Maps.size (Dm ns k) else Maps.size (Dm ns k)+1:=by
 rw [Dm,size_put (Dm_tidy ns k)]
theorem Dm_size_le (ns:List ByteArray):∀ k,Maps.size (Dm ns k)≤k
 | 0=>by simp [Dm,Maps.size]
 | k+1=>by
   have:=Dm_size_le ns k
   rw [Dm_step]
   split<;>omega
theorem Dm_size_eq (ns:List ByteArray):∀ k,(∀ i j,i < j→j < k→ns.getD i ByteArray.empty≠ns.getD j ByteArray.empty)→Maps.size (Dm ns k)=k
 | 0,_=>by simp [Dm,Maps.size]
 | k+1,h=>by
   have h1:=Dm_size_eq ns k (fun i j hi hj=>h i j hi (by omega))
   have h2:¬ Maps.has (Dm ns k) (kS (ns.getD k ByteArray.empty))=true:=by
    rw [Dm_has]
    rintro ⟨j,hj,e⟩
    exact h j k hj (by omega) e
   rw [Dm_step,if_neg h2,h1]
theorem Dm_size_lt (ns:List ByteArray):∀ k,(∃ i j,i < j∧j < k∧ns.getD i ByteArray.empty=ns.getD j ByteArray.empty)→Maps.size (Dm ns k) < k
 | 0,⟨i,j,_,hj,_⟩=>by omega
 | k+1,⟨i,j,hij,hj,e⟩=>by
   rw [Dm_step]
   by_cases hjk:j=k
   ·subst hjk
    rw [if_pos ((Dm_has ns _ j).2 ⟨i,hij,e⟩)]
    have:=Dm_size_le ns j
    omega
   ·have:=Dm_size_lt ns k ⟨i,j,hij,by omega,e⟩
    split<;>omega
theorem Dm_at (ns:List ByteArray) (s:ByteArray) (z:DataW Unit):∀ k j,j < k→ns.getD j ByteArray.empty=s→(∀ i,j < i→i < k→ns.getD i ByteArray.empty≠s)→(Dm ns k).atKey (kS s) z=.lit (.int .i64 j)
 | 0,j,hj,_,_=>by omega
 | k+1,j,hj,e,h=>by
   by_cases hjk:j=k
   ·subst hjk
    subst e
    rw [Dm,atKey_put_same (Dm_tidy ns j).isMap (kS_key _)]
   ·rw [Dm,atKey_put_other (kS_ne (fun x=>h k (by omega) (by omega) x.symm))]
    exact Dm_at ns s z k j (by omega) e (fun i hi hk=>h i hi (by omega))
end Go.Proofs.YtffdoiokmiklgaaGreatDoor
namespace Go.Proofs.YtffdoiokmiklgaaGreatDoor
open Go.RowKit
set_option maxHeartbeats 800000 in
set_option maxRecDepth 100000 in
theorem rises_row (ms:List Mem) (b off cap:Nat) (w:World) (hr:Row w b off ms) (hb:b < w.heap.size) (hn:ms.length≤20) :
 Calls Tryz.prog 178 #[.slice (some ⟨b,off,none⟩) ms.length cap,.func (.func 179) #[] #[]] w fun e w'=>e=.returned (.bool (risesB ms))∧Below w.heap.size w w':=by
 have HR:Hid (Row w b off ms):=hr
 clear hr
 have H4:Hid (∀ k,k+1 < ms.length→0≤cmpI (ms.getD k dm).name (ms.getD (k+1) dm).name→risesB ms=false):=fun k hk hl=>by
  rcases h:risesB ms with _ | _
  ·rfl
  ·have:=rises_getO ms h k hk;omega
 have H0:Hid ((∀ j,j+1 < ms.length→cmpI (ms.getD j dm).name (ms.getD (j+1) dm).name < 0)→risesB ms=true):=rises_allO ms
 generalize hN:ms.length=n at *
 have HN:Hid (ms.length=n):=hN
 clear hN
 generalize hC:risesB ms=res at *
 have HC:Hid (risesB ms=res):=hC
 clear hC
 go_enter Tryz.func178,Tryz.ntmps178
 go_wp2_with fail
 go_loopw [5] (fun i w'=>∃ k:Nat,(k+1≤n∨k=0)∧i=.int .i64 (k+1)∧Below w.heap.size w w'∧Hid (∀ j,j < k→cmpI (ms.getD j dm).name (ms.getD (j+1) dm).name < 0)) (fun i _=>n - (intOf i).toNat)
 case atStart=>exact ⟨0,.inr rfl,rfl,Below.refl _ _,fun j h=>absurd h (Nat.not_lt_zero _)⟩
 case round=>
  obtain ⟨q,hq,rfl,hbl,hz⟩:=hrel
  obtain ⟨hbc,hbf⟩:=bcell hbl
  have hsz:=hbl.size
  by_cases hlt:q+1 < n
  ·obtain ⟨c0,c1,c2,c3,c4⟩:=HR.out q (by rw [HN.out];omega)
   obtain ⟨d0,d1,d2,d3,d4⟩:=HR.out (q+1) (by rw [HN.out];exact hlt)
   have HK:Hid (0≤cmpI (ms.getD q dm).name (ms.getD (q+1) dm).name→res=false):=fun h=>H4.out q hlt h
   have HZ:Hid (cmpI (ms.getD q dm).name (ms.getD (q+1) dm).name < 0→∀ j,j < q+1→cmpI (ms.getD j dm).name (ms.getD (j+1) dm).name < 0):=fun h j hj=>by
    rcases Nat.lt_succ_iff_lt_or_eq.1 hj with h2 | rfl
    ·exact hz.out j h2
    ·exact h
   generalize ms.getD q dm=m1 at *
   generalize ms.getD (q+1) dm=m2 at *
   have hN:∀ d os,Calls Tryz.prog 179 #[.agg #[.string m1.name,.int .i64 m1.state,.int .i64 m1.life,.int .i64 m1.addr,.bool m1.server],.agg #[.string m2.name,.int .i64 m2.state,.int .i64 m2.life,.int .i64 m2.addr,.bool m2.server]] (Go.Sort.grow (redrawn wr d) os) fun e w''=>e=.returned (.int .i64 (cmpI m1.name m2.name))∧∃ p:Regrown,w''=Go.Sort.grow (redrawn wr p.d) p.os:=fun d os=>Calls.regrown_of (order_any m1 m2 _)
   have F0:∀ d os,(Go.Sort.grow (redrawn wr d) os).cell? ⟨b,off+q * 5,none⟩=some (.string m1.name):=cell_regrown ((hbc _ _ hb).trans c0)
   have F1:∀ d os,(Go.Sort.grow (redrawn wr d) os).cell? ⟨b,off+q * 5+1,none⟩=some (.int .i64 m1.state):=cell_regrown ((hbc _ _ hb).trans c1)
   have F2:∀ d os,(Go.Sort.grow (redrawn wr d) os).cell? ⟨b,off+q * 5+2,none⟩=some (.int .i64 m1.life):=cell_regrown ((hbc _ _ hb).trans c2)
   have F3:∀ d os,(Go.Sort.grow (redrawn wr d) os).cell? ⟨b,off+q * 5+3,none⟩=some (.int .i64 m1.addr):=cell_regrown ((hbc _ _ hb).trans c3)
   have F4:∀ d os,(Go.Sort.grow (redrawn wr d) os).cell? ⟨b,off+q * 5+4,none⟩=some (.bool m1.server):=cell_regrown ((hbc _ _ hb).trans c4)
   have G0:∀ d os,(Go.Sort.grow (redrawn wr d) os).cell? ⟨b,off+(q+1) * 5,none⟩=some (.string m2.name):=cell_regrown ((hbc _ _ hb).trans d0)
   have G1:∀ d os,(Go.Sort.grow (redrawn wr d) os).cell? ⟨b,off+(q+1) * 5+1,none⟩=some (.int .i64 m2.state):=cell_regrown ((hbc _ _ hb).trans d1)
   have G2:∀ d os,(Go.Sort.grow (redrawn wr d) os).cell? ⟨b,off+(q+1) * 5+2,none⟩=some (.int .i64 m2.life):=cell_regrown ((hbc _ _ hb).trans d2)
   have G3:∀ d os,(Go.Sort.grow (redrawn wr d) os).cell? ⟨b,off+(q+1) * 5+3,none⟩=some (.int .i64 m2.addr):=cell_regrown ((hbc _ _ hb).trans d3)
   have G4:∀ d os,(Go.Sort.grow (redrawn wr d) os).cell? ⟨b,off+(q+1) * 5+4,none⟩=some (.bool m2.server):=cell_regrown ((hbc _ _ hb).trans d4)
   clear c0 c1 c2 c3 c4 d0 d1 d2 d3 d4 hbc hbf
   generalize cmpI m1.name m2.name=r at *
   have hwq:IntKind.i64.wrap (q:Int)=(q:Int):=by rw [IntKind.wrap_i64];omega
   have hqn:q < n:=by omega
   have hq1:(q:Int)+1 < (n:Int):=by omega
   have hq0:(0:Int)≤(q:Int)+1:=by omega
   have htn:((q:Int)+1).toNat=q+1:=by omega
   by_cases hl:r < 0
   ·have hl2:¬ (0≤r):=by omega
    go_wp2_with fail
    refine wp_region_quiet_below (by kernel_rfl) (by kernel_rfl) ?_
    repeat (quiet_step (exact hN _ _))
    refine wpQuiet_nil ?_
    intro _ hw'
    obtain ⟨⟨dq,osq⟩,hw''⟩:=hw'
    subst hw''
    have HBQ:Hid (Below wr.heap.size wr (Go.Sort.grow (redrawn wr dq) osq)):=below_regrown wr dq osq
    clear hN F0 F1 F2 F3 F4 G0 G1 G2 G3 G4
    go_wp2_with fail
    go_roundw
    case rel=>exact ⟨q+1,.inl (by omega),by go_num,hbl.trans (HBQ.out.mono hsz),HZ.out hl⟩
    case measure=>simp [intOf];omega
   ·have hl2:0≤r:=by omega
    have h4:Hid (res=false):=HK.out hl2
    go_wp2_with fail
    refine wp_region_quiet_below (by kernel_rfl) (by kernel_rfl) ?_
    repeat (quiet_step (exact hN _ _))
    refine wpQuiet_nil ?_
    intro _ hw'
    obtain ⟨⟨dq,osq⟩,hw''⟩:=hw'
    subst hw''
    have HBQ:Hid (Below wr.heap.size wr (Go.Sort.grow (redrawn wr dq) osq)):=below_regrown wr dq osq
    clear hN F0 F1 F2 F3 F4 G0 G1 G2 G3 G4
    go_wp2_with fail
    go_ret
    exact ⟨ret_bool h4.out.symm,hbl.trans (HBQ.out.mono hsz)⟩
  ·have h0:Hid (res=true):=H0.out fun j hj=>hz.out j (by omega)
   go_wp2_with fail
   go_ret
   exact ⟨ret_bool h0.out.symm,hbl⟩
set_option maxHeartbeats 400000 in
theorem rises_none (a:Option Addr) (cap:Nat) (fv:Value) (w:World) :
 Calls Tryz.prog 178 #[.slice a 0 cap,fv] w fun e w'=>e=.returned (.bool true)∧w'=w:=by
 go_enter Tryz.func178,Tryz.ntmps178
 go_wp2_with fail
 go_loop [5] (fun i=>i=.int .i64 1) (fun _=>0)
 case atStart=>rfl
 case round=>
  subst hrel
  go_wp2_with fail
  go_ret
  exact ⟨rfl,rfl⟩
set_option maxHeartbeats 800000 in
theorem search_row (ms:List Mem) (b off cap:Nat) (lk:Mem) (w:World) (hr:Row w b off ms) (hb:b < w.heap.size) (hn:ms.length≤40)
 (hmono:∀ i j,i≤j→j < ms.length→cmpI (ms.getD j dm).name lk.name < 0→cmpI (ms.getD i dm).name lk.name < 0) :
 Calls Tryz.prog 268 #[.slice (some ⟨b,off,none⟩) ms.length cap,.agg #[.string lk.name,.int .i64 lk.state,.int .i64 lk.life,.int .i64 lk.addr,.bool lk.server],.func (.func 179) #[] #[]] w fun e w'=>∃ (p:Nat) (f:Bool),e=.returned (.tuple #[.int .i64 p,.bool f])∧Below w.heap.size w w' ∧
  p≤ms.length∧(∀ j,j < p→cmpI (ms.getD j dm).name lk.name < 0)∧(∀ j,p≤j→j < ms.length→0≤cmpI (ms.getD j dm).name lk.name)∧(f=true↔p < ms.length∧cmpI (ms.getD p dm).name lk.name=0):=by
 have HR:Hid (Row w b off ms):=hr
 clear hr
 have HM:Hid (∀ i j,i≤j→j < ms.length→cmpI (ms.getD j dm).name lk.name < 0→cmpI (ms.getD i dm).name lk.name < 0):=hmono
 clear hmono
 generalize hN:ms.length=n at *
 have HN:Hid (ms.length=n):=hN
 clear hN
 go_enter Tryz.func268,Tryz.ntmps268
 go_wp2_with fail
 obtain ⟨W0,hW0⟩:∃ W0,W0=w.alloc (.cells #[.string lk.name,.int .i64 lk.state,.int .i64 lk.life,.int .i64 lk.addr,.bool lk.server] 56):=⟨_,rfl⟩
 have hb0:Below w.heap.size w W0:=by rw [hW0];exact (Below.refl _ _).alloc (Nat.le_refl _) _
 have hg0:W0.heap[w.heap.size]?=some (.cells #[.string lk.name,.int .i64 lk.state,.int .i64 lk.life,.int .i64 lk.addr,.bool lk.server] 56 (0,0)):=by rw [hW0];exact heap_alloc_new w _
 have hs0:W0.heap.size=w.heap.size+1:=by rw [hW0];simp
 have HR0:Hid (Row W0 b off ms):=HR.out.later hb0 hb
 have hT:∀ o,W0.cell? ⟨w.heap.size,o,none⟩=#[.string lk.name,.int .i64 lk.state,.int .i64 lk.life,.int .i64 lk.addr,.bool lk.server][o]?:=fun o=>cellsAt hg0 o
 have HT:Hid (∀ o,W0.cell? ⟨w.heap.size,o,none⟩=#[.string lk.name,.int .i64 lk.state,.int .i64 lk.life,.int .i64 lk.addr,.bool lk.server][o]?):=hT
 have HB0:Hid (Below w.heap.size w W0):=hb0
 have HW0:Hid (W0=w.alloc (.cells #[.string lk.name,.int .i64 lk.state,.int .i64 lk.life,.int .i64 lk.addr,.bool lk.server] 56)):=hW0
 clear hT hg0 hb0 HR hW0
 have hb':b < w.heap.size+1:=by omega
 go_loopw [9,10] (fun i j w'=>∃ k l:Nat,k≤l∧l≤n∧i=.int .i64 k∧j=.int .i64 l∧Below (w.heap.size+1) W0 w'∧Hid (∀ j,j < k→cmpI (ms.getD j dm).name lk.name < 0)∧Hid (∀ j,l≤j→j < n→0≤cmpI (ms.getD j dm).name lk.name)) (fun i j _=>(intOf j).toNat - (intOf i).toNat)
 case atStart=>exact ⟨0,n,Nat.zero_le _,Nat.le_refl _,rfl,rfl,by rw [HW0.out];exact Below.refl _ _,fun j h=>absurd h (Nat.not_lt_zero _),fun j h1 h2=>by omega⟩
 case round=>
  obtain ⟨k,l,hkl,hln,rfl,rfl,hbl,hlo,hhi⟩:=hrel
  have hsz:=hbl.size
  have hbc:∀ b o,b < w.heap.size+1→wr.cell? ⟨b,o,none⟩=W0.cell? ⟨b,o,none⟩:=fun b o h=>hbl.cell (p:=⟨b,o,none⟩) h
  have G0:∀ d os,(Go.Sort.grow (redrawn wr d) os).cell? ⟨w.heap.size,0,none⟩=some (.string lk.name):=cell_regrown ((hbc _ _ (by omega)).trans (HT.out 0))
  have G1:∀ d os,(Go.Sort.grow (redrawn wr d) os).cell? ⟨w.heap.size,1,none⟩=some (.int .i64 lk.state):=cell_regrown ((hbc _ _ (by omega)).trans (HT.out 1))
  have G2:∀ d os,(Go.Sort.grow (redrawn wr d) os).cell? ⟨w.heap.size,2,none⟩=some (.int .i64 lk.life):=cell_regrown ((hbc _ _ (by omega)).trans (HT.out 2))
  have G3:∀ d os,(Go.Sort.grow (redrawn wr d) os).cell? ⟨w.heap.size,3,none⟩=some (.int .i64 lk.addr):=cell_regrown ((hbc _ _ (by omega)).trans (HT.out 3))
  have G4:∀ d os,(Go.Sort.grow (redrawn wr d) os).cell? ⟨w.heap.size,4,none⟩=some (.bool lk.server):=cell_regrown ((hbc _ _ (by omega)).trans (HT.out 4))
  by_cases hlt:k < l
  ·obtain ⟨h,hh,h1,h2⟩:∃ h:Nat,((k:Int)+(l:Int)) / 2=(h:Int)∧k≤h∧h < l:=⟨(k+l) / 2,by omega,by omega,by omega⟩
   obtain ⟨c0,c1,c2,c3,c4⟩:=HR0.out h (by rw [HN.out];omega)
   have hm1:=HM.out
   have HK:Hid (cmpI (ms.getD h dm).name lk.name < 0→∀ j,j < h+1→cmpI (ms.getD j dm).name lk.name < 0):=fun hx j hj=>hm1 j h (by omega) (by omega) hx
   have HL:Hid (0≤cmpI (ms.getD h dm).name lk.name→∀ j,h≤j→j < n→0≤cmpI (ms.getD j dm).name lk.name):=fun hx j hj hjn=>by
    apply Int.not_lt.1
    intro hq
    have:=hm1 h j hj hjn hq
    omega
   clear hm1
   have hhn:h < n:=by omega
   generalize ms.getD h dm=m at *
   have hO:∀ d os,Calls Tryz.prog 179 #[.agg #[.string m.name,.int .i64 m.state,.int .i64 m.life,.int .i64 m.addr,.bool m.server],.agg #[.string lk.name,.int .i64 lk.state,.int .i64 lk.life,.int .i64 lk.addr,.bool lk.server]] (Go.Sort.grow (redrawn wr d) os) fun e w''=>e=.returned (.int .i64 (cmpI m.name lk.name))∧∃ p:Regrown,w''=Go.Sort.grow (redrawn wr p.d) p.os:=fun d os=>Calls.regrown_of (order_any m lk _)
   have F0:∀ d os,(Go.Sort.grow (redrawn wr d) os).cell? ⟨b,off+h * 5,none⟩=some (.string m.name):=cell_regrown ((hbc _ _ hb').trans c0)
   have F1:∀ d os,(Go.Sort.grow (redrawn wr d) os).cell? ⟨b,off+h * 5+1,none⟩=some (.int .i64 m.state):=cell_regrown ((hbc _ _ hb').trans c1)
   have F2:∀ d os,(Go.Sort.grow (redrawn wr d) os).cell? ⟨b,off+h * 5+2,none⟩=some (.int .i64 m.life):=cell_regrown ((hbc _ _ hb').trans c2)
   have F3:∀ d os,(Go.Sort.grow (redrawn wr d) os).cell? ⟨b,off+h * 5+3,none⟩=some (.int .i64 m.addr):=cell_regrown ((hbc _ _ hb').trans c3)
   have F4:∀ d os,(Go.Sort.grow (redrawn wr d) os).cell? ⟨b,off+h * 5+4,none⟩=some (.bool m.server):=cell_regrown ((hbc _ _ hb').trans c4)
   clear c0 c1 c2 c3 c4 hbc
   generalize cmpI m.name lk.name=r at *
   by_cases hlt2:r < 0
   ·go_wp2_with fail
    refine wp_region_quiet_below (by kernel_rfl) (by kernel_rfl) ?_
    repeat (quiet_step (exact hO _ _))
    refine wpQuiet_nil ?_
    intro _ hw'
    obtain ⟨⟨dq,osq⟩,hw''⟩:=hw'
    subst hw''
    have HBQ:Hid (Below wr.heap.size wr (Go.Sort.grow (redrawn wr dq) osq)):=below_regrown wr dq osq
    clear hO F0 F1 F2 F3 F4 G0 G1 G2 G3 G4
    go_wp2_with fail
    exact ⟨⟨h+1,l,by omega,by omega,by go_num,rfl,hbl.trans (HBQ.out.mono (by omega)),HK.out hlt2,hhi⟩,by simp [intOf];omega⟩
   ·have hlt3:0≤r:=by omega
    go_wp2_with fail
    refine wp_region_quiet_below (by kernel_rfl) (by kernel_rfl) ?_
    repeat (quiet_step (exact hO _ _))
    refine wpQuiet_nil ?_
    intro _ hw'
    obtain ⟨⟨dq,osq⟩,hw''⟩:=hw'
    subst hw''
    have HBQ:Hid (Below wr.heap.size wr (Go.Sort.grow (redrawn wr dq) osq)):=below_regrown wr dq osq
    clear hO F0 F1 F2 F3 F4 G0 G1 G2 G3 G4
    go_wp2_with fail
    exact ⟨⟨k,h,by omega,by omega,rfl,rfl,hbl.trans (HBQ.out.mono (by omega)),hlo,HL.out hlt3⟩,by simp [intOf];omega⟩
  ·have hkl':l=k:=by omega
   subst hkl'
   by_cases hkn:l < n
   ·obtain ⟨c0,c1,c2,c3,c4⟩:=HR0.out l (by rw [HN.out];omega)
    generalize hm:ms.getD l dm=m at *
    have Hm:Hid (ms.getD l dm=m):=hm
    clear hm
    have hO:∀ d os,Calls Tryz.prog 179 #[.agg #[.string m.name,.int .i64 m.state,.int .i64 m.life,.int .i64 m.addr,.bool m.server],.agg #[.string lk.name,.int .i64 lk.state,.int .i64 lk.life,.int .i64 lk.addr,.bool lk.server]] (Go.Sort.grow (redrawn wr d) os) fun e w''=>e=.returned (.int .i64 (cmpI m.name lk.name))∧∃ p:Regrown,w''=Go.Sort.grow (redrawn wr p.d) p.os:=fun d os=>Calls.regrown_of (order_any m lk _)
    have F0:∀ d os,(Go.Sort.grow (redrawn wr d) os).cell? ⟨b,off+l * 5,none⟩=some (.string m.name):=cell_regrown ((hbc _ _ hb').trans c0)
    have F1:∀ d os,(Go.Sort.grow (redrawn wr d) os).cell? ⟨b,off+l * 5+1,none⟩=some (.int .i64 m.state):=cell_regrown ((hbc _ _ hb').trans c1)
    have F2:∀ d os,(Go.Sort.grow (redrawn wr d) os).cell? ⟨b,off+l * 5+2,none⟩=some (.int .i64 m.life):=cell_regrown ((hbc _ _ hb').trans c2)
    have F3:∀ d os,(Go.Sort.grow (redrawn wr d) os).cell? ⟨b,off+l * 5+3,none⟩=some (.int .i64 m.addr):=cell_regrown ((hbc _ _ hb').trans c3)
    have F4:∀ d os,(Go.Sort.grow (redrawn wr d) os).cell? ⟨b,off+l * 5+4,none⟩=some (.bool m.server):=cell_regrown ((hbc _ _ hb').trans c4)
    clear c0 c1 c2 c3 c4 hbc
    generalize hrr:cmpI m.name lk.name=r at *
    have Hr:Hid (cmpI m.name lk.name=r):=hrr
    clear hrr
    go_wp2_with fail
    refine wp_region_quiet_below (by kernel_rfl) (by kernel_rfl) ?_
    repeat (quiet_step (exact hO _ _))
    refine wpQuiet_nil ?_
    intro _ hw'
    obtain ⟨⟨dq,osq⟩,hw''⟩:=hw'
    subst hw''
    have HBQ:Hid (Below wr.heap.size wr (Go.Sort.grow (redrawn wr dq) osq)):=below_regrown wr dq osq
    clear hO F0 F1 F2 F3 F4 G0 G1 G2 G3 G4
    go_wp2_with fail
    go_ret2
    refine ⟨l,_,rfl,HB0.out.trans ((hbl.trans (HBQ.out.mono (by omega))).mono (by omega)),by omega,hlo.out,hhi.out,?_⟩
    rw [Hm.out,Hr.out]
    simp [hkn]
   ·clear G0 G1 G2 G3 G4
    have hkd:decide ((l:Int) < (n:Int))=false:=by simp;omega
    go_wp2_with fail
    go_quiet (fail)
    go_wp2_with fail
    go_ret2
    refine ⟨l,_,rfl,HB0.out.trans ((below_drewN hbl _).mono (by omega)),by omega,hlo.out,hhi.out,?_⟩
    simp [hkn]
set_option maxHeartbeats 800000 in
theorem search_none (a:Option Addr) (cap:Nat) (lk:Mem) (fv:Value) (w:World) :
 Calls Tryz.prog 268 #[.slice a 0 cap,.agg #[.string lk.name,.int .i64 lk.state,.int .i64 lk.life,.int .i64 lk.addr,.bool lk.server],fv] w fun e w'=>e=.returned (.tuple #[.int .i64 0,.bool false])∧Below w.heap.size w w':=by
 go_enter Tryz.func268,Tryz.ntmps268
 go_wp2_with fail
 go_loop [9,10] (fun i j=>i=.int .i64 0∧j=.int .i64 0) (fun _ _=>0)
 case atStart=>exact ⟨rfl,rfl⟩
 case round=>
  obtain ⟨rfl,rfl⟩:=hrel
  go_wp2_with fail
  go_quiet (fail)
  go_wp2_with fail
  go_ret2
  exact ⟨rfl,below_drewN ((Below.refl _ _).alloc (Nat.le_refl _) _) _⟩
theorem bsearch_any (ms:List Mem) (v:Value) (lk:Mem) (w:World) (h:Sl w v ms) (hn:ms.length≤40)
 (hmono:∀ i j,i≤j→j < ms.length→cmpI (ms.getD j dm).name lk.name < 0→cmpI (ms.getD i dm).name lk.name < 0) :
 Calls Tryz.prog 268 #[v,.agg #[.string lk.name,.int .i64 lk.state,.int .i64 lk.life,.int .i64 lk.addr,.bool lk.server],.func (.func 179) #[] #[]] w fun e w'=>∃ (p:Nat) (f:Bool),e=.returned (.tuple #[.int .i64 p,.bool f])∧Below w.heap.size w w'∧At ms lk.name p f:=by
 obtain ⟨a,cap,rfl,hs,h⟩:=h
 rcases h with rfl | ⟨b,off,rfl,hb,hr⟩
 ·refine (search_none a cap lk _ w).mono ?_
  rintro e w' ⟨rfl,hb⟩
  exact ⟨0,false,rfl,hb,⟨by simp,fun j h=>by omega,fun j h h2=>by simp at h2,by simp⟩⟩
 ·refine (search_row ms b off cap lk w hr hb hn hmono).mono ?_
  rintro e w' ⟨p,f,rfl,hbl,g1,g2,g3,g4⟩
  exact ⟨p,f,rfl,hbl,⟨g1,g2,g3,g4⟩⟩
set_option maxHeartbeats 400000 in
theorem find_any (ms:List Mem) (v:Value) (lk:Mem) (w:World) (h:Sl w v ms) (hn:ms.length≤40) (hr:Rise ms) :
 Calls Tryz.prog 237 #[v,.agg #[.string lk.name,.int .i64 lk.state,.int .i64 lk.life,.int .i64 lk.addr,.bool lk.server],.func (.func 179) #[] #[]] w fun e w'=>∃ (p:Nat) (f:Bool),e=.returned (.tuple #[.int .i64 p,.bool f])∧Below w.heap.size w w'∧At ms lk.name p f:=by
 have HC:Hid (∀ w',Below w.heap.size w w'→Calls Tryz.prog 268 #[v,.agg #[.string lk.name,.int .i64 lk.state,.int .i64 lk.life,.int .i64 lk.addr,.bool lk.server],.func (.func 179) #[] #[]] w' fun e w''=>∃ (p:Nat) (f:Bool),e=.returned (.tuple #[.int .i64 p,.bool f])∧Below w'.heap.size w' w''∧At ms lk.name p f):=
  fun w' hb=>bsearch_any ms v lk w' (h.below hb) hn (rise_mono hr lk.name)
 clear h hn hr
 go_enter Tryz.func237,Tryz.ntmps237
 go_wp2_with (go_at_call 268;refine (HC.out _ ?hb).mono ?_)
 case hb=>exact (Below.refl _ _).alloc (Nat.le_refl _) _
 rintro e w' ⟨p,f,rfl,hbl,hat⟩
 have HAT:Hid (At ms lk.name p f):=hat
 clear hat
 go_wp2_with fail
 go_ret2
 exact ⟨p,f,rfl,((Below.refl _ _).alloc (Nat.le_refl _) _).trans (hbl.mono (by simp)),HAT.out⟩
theorem stg_len {a b:List Mem} (hla:a.length≤20) (hlb:b.length≤20) (k:Nat):(stg a b k).length≤40:=by
 unfold stg
 split
 ·simp
 ·split
  ·omega
  ·have:=joinL_len b a;omega
structure Kth (w:World) (pb:Nat) (a b:List Mem) (k:Nat) (l:List Mem) (pk:Option Addr) (ck:Nat):Prop where
 cell:w.cell? ⟨pb,k,none⟩=some (.slice pk l.length ck)
 row:l=[]∨∃ b off,pk=some ⟨b,off,none⟩∧b < w.heap.size∧Row w b off l
 oks:∀ m∈l,(m).name.size≤maxLen
 len:l.length≤20
 len0:(stg a b k).length≤20
 rise0:Rise (stg a b k)
 oks0:∀ m∈stg a b k,(m).name.size≤maxLen
 step:stg a b (k+1)=joinL (stg a b k) l
theorem kth_of {a b:List Mem} {va vb:Value} {pb:Nat} {w:World} (ha:Sl w va a) (hb:Sl w vb b) (hc0:w.cell? ⟨pb,0,none⟩=some va) (hc1:w.cell? ⟨pb,1,none⟩=some vb) (hla:a.length≤20) (hlb:b.length≤20) (ra:Rise a) (k:Nat) (hk:k < 2) :
 ∃ l pk ck,Kth w pb a b k l pk ck:=by
 obtain ⟨pa,ca,rfl,nsa,ha⟩:=ha
 obtain ⟨pv,cb,rfl,nsb,hb⟩:=hb
 have hcases:k=0∨k=1:=by omega
 rcases hcases with rfl | rfl
 ·exact ⟨a,pa,ca,hc0,ha,ns_mem nsa,hla,by simp [stg],by simp [stg],by simp [stg],(joinL_nil a ra).symm⟩
 ·exact ⟨b,pv,cb,hc1,hb,ns_mem nsb,hlb,hla,ra,ns_mem nsa,rfl⟩
set_option maxHeartbeats 4000000 in
set_option maxRecDepth 100000 in
theorem rjoin_two (a b:List Mem) (va vb:Value) (pb cap:Nat) (w:World) (ha:Sl w va a) (hb:Sl w vb b) (hpb:pb < w.heap.size) (hc0:w.cell? ⟨pb,0,none⟩=some va) (hc1:w.cell? ⟨pb,1,none⟩=some vb)
 (hla:a.length≤20) (hlb:b.length≤20) (ra:Rise a) :
 Calls Tryz.prog 235 #[.func (.func 179) #[] #[],.func (.func 234) #[] #[],.slice (some ⟨pb,0,none⟩) 2 cap] w fun e w'=>∃ v',e=.returned v'∧Own w.heap.size w' v' (joinL a b)∧Below w.heap.size w w':=by
 have HK:Hid (∀ k,k < 2→∃ l pk ck,Kth w pb a b k l pk ck):=fun k hk=>kth_of ha hb hc0 hc1 hla hlb ra k hk
 have HL2:Hid (∀ k,(stg a b k).length≤40):=stg_len hla hlb
 clear ha hb hc0 hc1 hla hlb ra
 go_enter Tryz.func235,Tryz.ntmps235
 go_wp2_with fail
 go_loopw [7,16] (fun kn i w'=>∃ k:Nat,k≤2∧i=.int .i64 k∧Below w.heap.size w w'∧Hid (Own w.heap.size w' kn (stg a b k))) (fun _ i _=>2 - (intOf i).toNat)
 case atStart=>exact ⟨0,by omega,rfl,Below.refl _ _,own_nil _ _⟩
 case round=>
  obtain ⟨k,hk,rfl,hbl,HO⟩:=hrel
  obtain ⟨hbc,hbf⟩:=bcell hbl
  have hsz:=hbl.size
  by_cases hk2:k < 2
  ·obtain ⟨l,pk,ck,hKth⟩:=HK.out k hk2
   have HKT:Hid (Kth w pb a b k l pk ck):=hKth
   have hcell:=hKth.cell
   clear hKth
   generalize hnl:l.length=nl at *
   have HNL:Hid (l.length=nl):=hnl
   clear hnl
   have hnl40:nl≤20:=by have:=HKT.out.len;have:=HNL.out;omega
   have hk2':(k:Int) < 2:=by omega
   go_wp2_with fail
   go_loopw [7,22] (fun kn j w'=>∃ q:Nat,q≤nl∧j=.int .i64 q∧Below w.heap.size w w'∧Hid (Own w.heap.size w' kn (joinL (stg a b k) (l.take q)))) (fun _ j _=>nl - (intOf j).toNat)
   case atStart=>exact ⟨0,Nat.zero_le _,rfl,hbl,HO⟩
   case round=>
    clear hbc hbf hsz hbl HO hcell
    obtain ⟨q,hq,rfl,hbl,HO⟩:=hrel
    obtain ⟨hbc,hbf⟩:=bcell hbl
    have hsz:=hbl.size
    by_cases hlt:q < nl
    ·obtain ⟨b2,off,hptr,hpl,hrow⟩:∃ b_1 off,pk=some ⟨b_1,off,none⟩∧b_1 < w.heap.size∧Row w b_1 off l:=by
      rcases HKT.out.row with h | h
      ·have:=HNL.out;rw [h] at this;simp at this;omega
      ·exact h
     subst hptr
     obtain ⟨c0,c1,c2,c3,c4⟩:=hrow q (by rw [HNL.out];exact hlt)
     clear hrow
     have HJ:Hid (joinL (stg a b k) (l.take (q+1))=hearL (joinL (stg a b k) (l.take q)) (l.getD q dm)):=joinL_take (stg a b k) l q (by rw [HNL.out];exact hlt)
     have HR:Hid (Rise (joinL (stg a b k) (l.take q))):=joinL_rise _ _ HKT.out.rise0
     have HNs:Hid (∀ j,((joinL (stg a b k) (l.take q)).getD j dm).name.size≤maxLen):=ns_get (ns_join _ _ HKT.out.oks0 (fun x hx=>HKT.out.oks x (List.mem_of_mem_take hx)))
     have HL:Hid ((joinL (stg a b k) (l.take q)).length≤40):=by
      have h1:=joinL_len (l.take q) (stg a b k)
      have h2:(l.take q).length≤q:=List.length_take_le _ _
      have h3:=HKT.out.len0
      show (joinL (stg a b k) (l.take q)).length≤40
      omega
     generalize l.getD q dm=m at *
     generalize joinL (stg a b k) (l.take q)=known at *
     have hl40:known.length≤40:=HL.out
     obtain ⟨W1,hW1⟩:∃ W1,W1=wr.alloc (.cells #[.string m.name,.int .i64 m.state,.int .i64 m.life,.int .i64 m.addr,.bool m.server] 56):=⟨_,rfl⟩
     have hb1:Below wr.heap.size wr W1:=by rw [hW1];exact (Below.refl _ _).alloc (Nat.le_refl _) _
     have hs1:W1.heap.size=wr.heap.size+1:=by rw [hW1];simp
     have hg1:W1.heap[wr.heap.size]?=some (.cells #[.string m.name,.int .i64 m.state,.int .i64 m.life,.int .i64 m.addr,.bool m.server] 56 (0,0)):=by rw [hW1];exact heap_alloc_new wr _
     have HO1:Hid (Own w.heap.size W1 u7 known):=HO.out.below hb1
     have HF:Hid (Calls Tryz.prog 237 #[u7,.agg #[.string m.name,.int .i64 m.state,.int .i64 m.life,.int .i64 m.addr,.bool m.server],.func (.func 179) #[] #[]] W1 fun e w'=>∃ (p:Nat) (f:Bool),e=.returned (.tuple #[.int .i64 p,.bool f])∧Below W1.heap.size W1 w'∧At known m.name p f):=
      find_any known u7 m W1 (HO1.out.sl HNs.out) HL.out HR.out
     have HB1:Hid (Below w.heap.size w W1):=hbl.trans (hb1.mono hsz)
     have HT:Hid (∀ o,W1.cell? ⟨wr.heap.size,o,none⟩=#[.string m.name,.int .i64 m.state,.int .i64 m.life,.int .i64 m.addr,.bool m.server][o]?):=fun o=>cellsAt hg1 o
     have HW1:Hid (W1=wr.alloc (.cells #[.string m.name,.int .i64 m.state,.int .i64 m.life,.int .i64 m.addr,.bool m.server] 56)):=hW1
     have hs1':w.heap.size≤W1.heap.size:=by omega
     clear hg1 hb1 HO HL HR hW1
     go_wp2_with fail
     rw [← HW1.out]
     refine HF.out.mono ?_
     rintro e w2 ⟨p,f,rfl,hb2,hat⟩
     have HAT:Hid (At known m.name p f):=hat
     have hpl2:p≤known.length:=hat.le
     have hsz2:=hb2.size
     have HO2:Hid (Own w.heap.size w2 u7 known):=HO1.out.below hb2
     have HB2:Hid (Below w.heap.size w w2):=HB1.out.trans (hb2.mono hs1')
     have t0:w2.cell? ⟨wr.heap.size,0,none⟩=some (.string m.name):=(hb2.cell (p:=⟨wr.heap.size,0,none⟩) (by show wr.heap.size < W1.heap.size;omega)).trans (HT.out 0)
     have t1:w2.cell? ⟨wr.heap.size,1,none⟩=some (.int .i64 m.state):=(hb2.cell (p:=⟨wr.heap.size,1,none⟩) (by show wr.heap.size < W1.heap.size;omega)).trans (HT.out 1)
     have t2:w2.cell? ⟨wr.heap.size,2,none⟩=some (.int .i64 m.life):=(hb2.cell (p:=⟨wr.heap.size,2,none⟩) (by show wr.heap.size < W1.heap.size;omega)).trans (HT.out 2)
     have t3:w2.cell? ⟨wr.heap.size,3,none⟩=some (.int .i64 m.addr):=(hb2.cell (p:=⟨wr.heap.size,3,none⟩) (by show wr.heap.size < W1.heap.size;omega)).trans (HT.out 3)
     have t4:w2.cell? ⟨wr.heap.size,4,none⟩=some (.bool m.server):=(hb2.cell (p:=⟨wr.heap.size,4,none⟩) (by show wr.heap.size < W1.heap.size;omega)).trans (HT.out 4)
     have hs2:w.heap.size≤w2.heap.size:=by omega
     have hs2':wr.heap.size < w2.heap.size:=by omega
     clear hat HF hbc hbf c0 c1 c2 c3 c4 hb2 HO1 HB1 HT
     cases f
     ·have hne:Hid (u7.ownBlock≠some w2.heap.size):=fun e=>by have:=HO2.out.lt _ e;omega
      have HO3:Hid (Own w.heap.size (w2.alloc (.cells #[.string m.name,.int .i64 m.state,.int .i64 m.life,.int .i64 m.addr,.bool m.server] 56)) u7 known):=HO2.out.below ((Below.refl _ _).alloc (Nat.le_refl _) _)
      have hvb:Hid ((w2.alloc (.cells #[.string m.name,.int .i64 m.state,.int .i64 m.life,.int .i64 m.addr,.bool m.server] 56)).heap[w2.heap.size]?=some (.cells m.cs.toArray 56 (0,0))):=heap_alloc_new w2 _
      go_wp2_with (go_at_call 267;refine (insert_any w.heap.size p w2.heap.size u7 known m _ HO3.out HAT.out.le (by omega) (by simp;omega) hvb.out hne.out).mono ?_;rintro e w4 ⟨v',rfl,g1,g2⟩)
      go_roundw
      case rel=>
       have hfin:∃ q_1:Nat,q_1≤nl∧Value.int .i64 ((q:Int)+1)=.int .i64 q_1∧Below w.heap.size w w4∧Hid (Own w.heap.size w4 v' (joinL (stg a b k) (l.take q_1))):=⟨q+1,by omega,by go_num,below_grown (HB2.out.alloc hs2 _) HO3.out g2 (by simp;omega),by rw [HJ.out,hearL_at known m p false HAT.out];exact g1⟩
       first | exact hfin | ((repeat apply Exists.intro);exact ⟨hfin,rfl⟩)
      case measure=>simp [intOf];omega
     ·have hp:p < known.length:=(HAT.out.is.1 rfl).1
      obtain ⟨g,c,hu⟩:=own_form HO2.out p hp
      subst hu
      obtain ⟨c0,c1,c2,c3,c4⟩:=own_cells HO2.out p hp
      have hgl:=HO2.out.lt g rfl
      have hgl2:g < w2.heap.size:=hgl.2
      generalize hm:known.getD p dm=m2 at *
      have Hm:Hid (known.getD p dm=m2):=hm
      clear hm
      have hN:∀ d os,Calls Tryz.prog 234 #[.agg #[.string m.name,.int .i64 m.state,.int .i64 m.life,.int .i64 m.addr,.bool m.server],.agg #[.string m2.name,.int .i64 m2.state,.int .i64 m2.life,.int .i64 m2.addr,.bool m2.server]] (Go.Sort.grow (redrawn w2 d) os) fun e w''=>e=.returned (.bool (newM m m2))∧∃ p:Regrown,w''=Go.Sort.grow (redrawn w2 p.d) p.os:=fun d os=>Calls.regrown_of (newerE_any m m2 _)
      have F0:∀ d os,(Go.Sort.grow (redrawn w2 d) os).cell? ⟨g,p * 5,none⟩=some (.string m2.name):=cell_regrown c0
      have F1:∀ d os,(Go.Sort.grow (redrawn w2 d) os).cell? ⟨g,p * 5+1,none⟩=some (.int .i64 m2.state):=cell_regrown c1
      have F2:∀ d os,(Go.Sort.grow (redrawn w2 d) os).cell? ⟨g,p * 5+2,none⟩=some (.int .i64 m2.life):=cell_regrown c2
      have F3:∀ d os,(Go.Sort.grow (redrawn w2 d) os).cell? ⟨g,p * 5+3,none⟩=some (.int .i64 m2.addr):=cell_regrown c3
      have F4:∀ d os,(Go.Sort.grow (redrawn w2 d) os).cell? ⟨g,p * 5+4,none⟩=some (.bool m2.server):=cell_regrown c4
      have G0:∀ d os,(Go.Sort.grow (redrawn w2 d) os).cell? ⟨wr.heap.size,0,none⟩=some (.string m.name):=cell_regrown t0
      have G1:∀ d os,(Go.Sort.grow (redrawn w2 d) os).cell? ⟨wr.heap.size,1,none⟩=some (.int .i64 m.state):=cell_regrown t1
      have G2:∀ d os,(Go.Sort.grow (redrawn w2 d) os).cell? ⟨wr.heap.size,2,none⟩=some (.int .i64 m.life):=cell_regrown t2
      have G3:∀ d os,(Go.Sort.grow (redrawn w2 d) os).cell? ⟨wr.heap.size,3,none⟩=some (.int .i64 m.addr):=cell_regrown t3
      have G4:∀ d os,(Go.Sort.grow (redrawn w2 d) os).cell? ⟨wr.heap.size,4,none⟩=some (.bool m.server):=cell_regrown t4
      have hfz:∀ o,w2.frozen? ⟨g,o,none⟩=false:=fun o=>World.ownsRow.frozenAt HO2.out o
      have HFZ:Hid (∀ o,w2.frozen? ⟨g,o,none⟩=false):=hfz
      clear c0 c1 c2 c3 c4 hfz
      have HT:Hid (w2.cell? ⟨wr.heap.size,0,none⟩=some (.string m.name)∧w2.cell? ⟨wr.heap.size,1,none⟩=some (.int .i64 m.state)∧w2.cell? ⟨wr.heap.size,2,none⟩=some (.int .i64 m.life)∧w2.cell? ⟨wr.heap.size,3,none⟩=some (.int .i64 m.addr)∧w2.cell? ⟨wr.heap.size,4,none⟩=some (.bool m.server)):=⟨t0,t1,t2,t3,t4⟩
      clear t0 t1 t2 t3 t4
      generalize hnw:newM m m2=nw at *
      have Hnw:Hid (newM m m2=nw):=hnw
      clear hnw
      cases nw
      ·go_wp2_with fail
       refine wp_region_quiet_below (by kernel_rfl) (by kernel_rfl) ?_
       repeat (quiet_step (exact hN _ _))
       refine wpQuiet_nil ?_
       intro _ hw'
       obtain ⟨⟨dq,osq⟩,hw''⟩:=hw'
       subst hw''
       have HBQ:Hid (Below w2.heap.size w2 (Go.Sort.grow (redrawn w2 dq) osq)):=below_regrown w2 dq osq
       clear hN F0 F1 F2 F3 F4 G0 G1 G2 G3 G4
       go_wp2_with fail
       go_roundw
       case rel=>
        have hfin:∃ q_1:Nat,q_1≤nl∧Value.int .i64 ((q:Int)+1)=.int .i64 q_1∧Below w.heap.size w (Go.Sort.grow (redrawn w2 dq) osq)∧Hid (Own w.heap.size (Go.Sort.grow (redrawn w2 dq) osq) (.slice (some ⟨g,0,none⟩) known.length c) (joinL (stg a b k) (l.take q_1))):=⟨q+1,by omega,by go_num,HB2.out.trans (HBQ.out.mono hs2),by rw [HJ.out,hearL_at known m p true HAT.out,if_pos rfl,Hm.out,if_neg (fun h=>Bool.false_ne_true (Hnw.out.symm.trans h))];exact HO2.out.below HBQ.out⟩
        first | exact hfin | ((repeat apply Exists.intro);exact ⟨hfin,rfl⟩)
       case measure=>simp [intOf];omega
      ·go_wp2_with fail
       refine wp_region_quiet_below (by kernel_rfl) (by kernel_rfl) ?_
       repeat (quiet_step (exact hN _ _))
       refine wpQuiet_nil ?_
       intro _ hw'
       obtain ⟨⟨dq,osq⟩,hw''⟩:=hw'
       subst hw''
       have HBQ:Hid (Below w2.heap.size w2 (Go.Sort.grow (redrawn w2 dq) osq)):=below_regrown w2 dq osq
       clear hN F0 F1 F2 F3 F4 G0 G1 G2 G3 G4
       generalize Go.Sort.grow (redrawn w2 dq) osq=w3 at *
       have HO3:Hid (Own w.heap.size w3 (.slice (some ⟨g,0,none⟩) known.length c) known):=HO2.out.below HBQ.out
       obtain ⟨c0,c1,c2,c3,c4⟩:=own_cells HO3.out p hp
       rw [Hm.out] at c0 c1 c2 c3 c4
       have hg3:g < w3.heap.size:=(HO3.out.lt g rfl).2
       have hfz:∀ o,w3.frozen? ⟨g,o,none⟩=false:=fun o=>World.ownsRow.frozenAt HO3.out o
       obtain ⟨t0,t1,t2,t3,t4⟩:=HT.out
       have s0:w3.cell? ⟨wr.heap.size,0,none⟩=some (.string m.name):=(HBQ.out.cell (p:=⟨wr.heap.size,0,none⟩) hs2').trans t0
       have s1:w3.cell? ⟨wr.heap.size,1,none⟩=some (.int .i64 m.state):=(HBQ.out.cell (p:=⟨wr.heap.size,1,none⟩) hs2').trans t1
       have s2:w3.cell? ⟨wr.heap.size,2,none⟩=some (.int .i64 m.life):=(HBQ.out.cell (p:=⟨wr.heap.size,2,none⟩) hs2').trans t2
       have s3:w3.cell? ⟨wr.heap.size,3,none⟩=some (.int .i64 m.addr):=(HBQ.out.cell (p:=⟨wr.heap.size,3,none⟩) hs2').trans t3
       have s4:w3.cell? ⟨wr.heap.size,4,none⟩=some (.bool m.server):=(HBQ.out.cell (p:=⟨wr.heap.size,4,none⟩) hs2').trans t4
       clear t0 t1 t2 t3 t4
       go_wp2_with fail
       refine ⟨⟨q+1,by omega,by go_num,?_,?_⟩,by simp [intOf];omega⟩
       ·exact ((((((HB2.out.trans (HBQ.out.mono hs2)).setCell (p:=⟨g,p * 5,none⟩) hgl.1 (.string m.name)).setCell (p:=⟨g,p * 5+1,none⟩) hgl.1 (.int .i64 m.state)).setCell (p:=⟨g,p * 5+2,none⟩) hgl.1 (.int .i64 m.life)).setCell (p:=⟨g,p * 5+3,none⟩) hgl.1 (.int .i64 m.addr)).setCell (p:=⟨g,p * 5+4,none⟩) hgl.1 (.bool m.server))
       ·rw [HJ.out,hearL_at known m p true HAT.out,if_pos rfl,Hm.out,if_pos Hnw.out]
        exact own_set HO3.out hp m
    ·have hqn:q=nl:=by omega
     subst hqn
     have HO3:Hid (Own w.heap.size wr u7 (stg a b (k+1))):=by
      have h:=HO.out
      rw [List.take_of_length_le (by rw [HNL.out];exact Nat.le_refl _)] at h
      rw [HKT.out.step];exact h
     go_wp2_with fail
     go_roundw
     case rel=>exact ⟨k+1,by omega,by go_num,hbl,HO3⟩
     case measure=>simp [intOf];omega
  ·have hk3:k=2:=by omega
   subst hk3
   go_wp2_with fail
   go_ret
   exact ⟨_,rfl,HO.out,hbl⟩
theorem checkOneE_any (m:Mem) (w:World) (hm:m.name.size≤maxLen) :
 Calls Tryz.prog 177 #[.agg #[.string m.name,.int .i64 m.state,.int .i64 m.life,.int .i64 m.addr,.bool m.server]] w fun e w'=>e=.returned (.int .i64 m.e)∧Below w.heap.size w w':=by
 refine (checkOne_any m.name m.state m.life m.addr m.server w hm).mono ?_
 rintro e w' ⟨rfl,rfl⟩
 exact ⟨rfl,(Below.refl _ _).alloc (Nat.le_refl _) _⟩
set_option maxHeartbeats 800000 in
theorem check_row (ms:List Mem) (b off cap:Nat) (w:World) (hr:Row w b off ms) (hb:b < w.heap.size) (hn:ms.length≤20) (hs:∀ j,(ms.getD j dm).name.size≤maxLen) :
 Calls Tryz.prog 125 #[.slice (some ⟨b,off,none⟩) ms.length cap] w fun e w'=>e=.returned (.int .i64 (chk ms))∧Below w.heap.size w w':=by
 have HR:Hid (Row w b off ms):=hr
 have HE:Hid (∀ k,k < ms.length→(∀ j,j < k→(ms.getD j dm).e=0)→(ms.getD k dm).e≠0→chk ms=(ms.getD k dm).e):=fun k h1 h2 h3=>chk_e ms k hn h1 h2 h3
 have H4:Hid ((∀ j,j < ms.length→(ms.getD j dm).e=0)→chk ms=if risesB ms=true then 0 else 4):=fun h1=>chk_r ms hn h1
 have HSl:Hid (∀ w',Below w.heap.size w w'→Calls Tryz.prog 178 #[.slice (some ⟨b,off,none⟩) ms.length cap,.func (.func 179) #[] #[]] w' fun e w''=>e=.returned (.bool (risesB ms))∧Below w'.heap.size w' w''):=fun w' hbw=>rises_row ms b off cap w' (hr.later hbw hb) (Nat.lt_of_lt_of_le hb hbw.size) hn
 clear hr
 generalize hN:ms.length=n at *
 have HN:Hid (ms.length=n):=hN
 clear hN
 have HS:Hid (∀ j,(ms.getD j dm).name.size≤maxLen):=hs
 clear hs
 generalize hC:chk ms=res at *
 have HC:Hid (chk ms=res):=hC
 clear hC
 generalize hRB:risesB ms=rb at *
 have HRB:Hid (risesB ms=rb):=hRB
 clear hRB
 go_enter Tryz.func125,Tryz.ntmps125
 go_wp2_with fail
 go_loopw [11] (fun i w'=>∃ k:Nat,k≤n∧i=.int .i64 k∧Below w.heap.size w w'∧Hid (∀ j,j < k→(ms.getD j dm).e=0)) (fun i _=>n - (intOf i).toNat)
 case atStart=>exact ⟨0,Nat.zero_le _,rfl,Below.refl _ _,fun j h=>absurd h (Nat.not_lt_zero _)⟩
 case round=>
  obtain ⟨k,hk,rfl,hbl,hz⟩:=hrel
  obtain ⟨hbc,hbf⟩:=bcell hbl
  have hsz:=hbl.size
  by_cases hlt:k < n
  ·obtain ⟨c0,c1,c2,c3,c4⟩:=HR.out k (by rw [HN.out];exact hlt)
   have HSK:Hid ((ms.getD k dm).name.size≤maxLen):=HS.out k
   have HK:Hid ((ms.getD k dm).e≠0→res=(ms.getD k dm).e):=fun h=>HE.out k hlt hz.out h
   have HZ:Hid ((ms.getD k dm).e=0→∀ j,j < k+1→(ms.getD j dm).e=0):=fun h j hj=>by
    rcases Nat.lt_succ_iff_lt_or_eq.1 hj with h2 | rfl
    ·exact hz.out j h2
    ·exact h
   generalize ms.getD k dm=m at *
   have HO:Hid (∀ w,Calls Tryz.prog 177 #[.agg #[.string m.name,.int .i64 m.state,.int .i64 m.life,.int .i64 m.addr,.bool m.server]] w fun e w'=>e=.returned (.int .i64 m.e)∧Below w.heap.size w w'):=fun w=>checkOneE_any m w HSK.out
   generalize m.e=me at *
   rcases he:decide (me=0) with _ | _
   ·have he':(me != 0)=true:=by simpa using he
    clear he
    go_wp2_with (go_at_call 177;refine (HO.out _).mono ?_;rintro e w' ⟨rfl,hb2⟩)
    go_ret
    have hne:me≠0:=by simpa using he'
    have hres:res=me:=HK.out hne
    exact ⟨ret_int hres.symm,(hbl.alloc hsz _).trans (hb2.mono (by simp;omega))⟩
   ·have he':(me != 0)=false:=by simpa using he
    clear he
    go_wp2_with (go_at_call 177;refine (HO.out _).mono ?_;rintro e w' ⟨rfl,hb2⟩)
    go_roundw
    case rel=>
     have he0:me=0:=by simpa using he'
     exact ⟨k+1,by omega,by go_num,(hbl.alloc hsz _).trans (hb2.mono (by simp;omega)),HZ.out he0⟩
    case measure=>simp [intOf];omega
  ·have hall:Hid (∀ j,j < n→(ms.getD j dm).e=0):=fun j hj=>hz.out j (by omega)
   have HRes:Hid (res=if rb=true then 0 else 4):=H4.out hall.out
   clear hz hall H4 HE HC HRB
   cases rb
   ·go_wp2_with (go_at_call 178;refine (HSl.out _ hbl).mono ?_;rintro e w' ⟨rfl,hb2⟩)
    go_ret
    exact ⟨ret_int (by rw [HRes.out];rfl),hbl.trans (hb2.mono hsz)⟩
   ·go_wp2_with (go_at_call 178;refine (HSl.out _ hbl).mono ?_;rintro e w' ⟨rfl,hb2⟩)
    go_ret
    exact ⟨ret_int (by rw [HRes.out];rfl),hbl.trans (hb2.mono hsz)⟩
set_option maxHeartbeats 400000 in
theorem check_many (a:Option Addr) (n cap:Nat) (w:World) (hn:20 < n) :
 Calls Tryz.prog 125 #[.slice a n cap] w fun e w'=>e=.returned (.int .i64 2)∧w'=w:=by
 go_enter Tryz.func125,Tryz.ntmps125
 go_wp2_with fail
 go_ret
 exact ⟨rfl,rfl⟩
set_option maxHeartbeats 400000 in
theorem check_none (a:Option Addr) (cap:Nat) (w:World) :
 Calls Tryz.prog 125 #[.slice a 0 cap] w fun e w'=>e=.returned (.int .i64 0)∧w'=w:=by
 go_enter Tryz.func125,Tryz.ntmps125
 go_wp2_with fail
 go_loop [11] (fun i=>i=.int .i64 0) (fun _=>0)
 case atStart=>rfl
 case round=>
  subst hrel
  go_wp2_with (go_at_call 178;refine (rises_none _ _ _ _).mono ?_;rintro e w' ⟨rfl,rfl⟩)
  go_ret
  exact ⟨rfl,rfl⟩
theorem check_any (ms:List Mem) (v:Value) (w:World) (h:Sl w v ms) :
 Calls Tryz.prog 125 #[v] w fun e w'=>e=.returned (.int .i64 (chk ms))∧Below w.heap.size w w':=by
 obtain ⟨a,cap,rfl,hs,h⟩:=h
 by_cases hn:20 < ms.length
 ·refine (check_many a ms.length cap w hn).mono ?_
  rintro e w' ⟨rfl,rfl⟩
  exact ⟨ret_int (by rw [chk,if_pos hn]),Below.refl _ _⟩
 ·rcases h with rfl | ⟨b,off,rfl,hb,hr⟩
  ·refine (check_none a cap w).mono ?_
   rintro e w' ⟨rfl,rfl⟩
   exact ⟨rfl,Below.refl _ _⟩
  ·exact check_row ms b off cap w hr hb (by omega) hs
set_option maxHeartbeats 800000 in
theorem checkAll_two (a b:List Mem) (va vb:Value) (pb cap:Nat) (w:World) (ha:Sl w va a) (hb:Sl w vb b) (hpb:pb < w.heap.size) (hc0:w.cell? ⟨pb,0,none⟩=some va) (hc1:w.cell? ⟨pb,1,none⟩=some vb) :
 Calls Tryz.prog 233 #[.slice (some ⟨pb,0,none⟩) 2 cap] w fun e w'=>e=.returned (.int .i64 (chkTwo a b))∧Below w.heap.size w w':=by
 have HA:Hid (Sl w va a):=ha
 have HB:Hid (Sl w vb b):=hb
 clear ha hb
 go_enter Tryz.func233,Tryz.ntmps233
 go_wp2_with fail
 go_loopw [8] (fun i w'=>∃ k:Nat,k≤2∧i=.int .i64 k∧Below w.heap.size w w'∧Hid (0 < k→chk a=0)∧Hid (1 < k→chk b=0)) (fun i _=>2 - (intOf i).toNat)
 case atStart=>exact ⟨0,by omega,rfl,Below.refl _ _,fun h=>by omega,fun h=>by omega⟩
 case round=>
  obtain ⟨k,hk,rfl,hbl,hz0,hz1⟩:=hrel
  obtain ⟨hbc,hbf⟩:=bcell hbl
  have hsz:=hbl.size
  have HA':Hid (Sl wr va a):=HA.out.below hbl
  have HB':Hid (Sl wr vb b):=HB.out.below hbl
  have hcases:k=0∨k=1∨k=2:=by omega
  rcases hcases with rfl | rfl | rfl
  ·rcases he:decide (chk a=0) with _ | _
   ·have he':(chk a != 0)=true:=by simpa using he
    clear he
    go_wp2_with (go_at_call 125;refine (check_any a _ _ HA'.out).mono ?_;rintro e w' ⟨rfl,hb2⟩)
    go_ret
    exact ⟨ret_int (by have h0:chk a≠0:=(by simpa using he');rw [chkTwo,if_neg h0]),hbl.trans (hb2.mono hsz)⟩
   ·have he':(chk a != 0)=false:=by simpa using he
    clear he
    go_wp2_with (go_at_call 125;refine (check_any a _ _ HA'.out).mono ?_;rintro e w' ⟨rfl,hb2⟩)
    go_roundw
    case rel=>exact ⟨1,by omega,by go_num,hbl.trans (hb2.mono hsz),fun _=>(by simpa using he'),fun h=>by omega⟩
    case measure=>simp [intOf]
  ·have h0:Hid (chk a=0):=hz0.out (by omega)
   rcases he:decide (chk b=0) with _ | _
   ·have he':(chk b != 0)=true:=by simpa using he
    clear he
    go_wp2_with (go_at_call 125;refine (check_any b _ _ HB'.out).mono ?_;rintro e w' ⟨rfl,hb2⟩)
    go_ret
    exact ⟨ret_int (by rw [chkTwo,if_pos h0.out]),hbl.trans (hb2.mono hsz)⟩
   ·have he':(chk b != 0)=false:=by simpa using he
    clear he
    go_wp2_with (go_at_call 125;refine (check_any b _ _ HB'.out).mono ?_;rintro e w' ⟨rfl,hb2⟩)
    go_roundw
    case rel=>exact ⟨2,by omega,by go_num,hbl.trans (hb2.mono hsz),fun _=>h0.out,fun _=>(by simpa using he')⟩
    case measure=>simp [intOf]
  ·go_wp2_with fail
   go_ret
   exact ⟨ret_int (by rw [chkTwo,if_pos (hz0.out (by omega)),hz1.out (by omega)]),hbl⟩
set_option maxHeartbeats 400000 in
theorem join_bad (a b:List Mem) (va vb:Value) (pb cap:Nat) (w:World) (ha:Sl w va a) (hb:Sl w vb b) (hpb:pb < w.heap.size) (hc0:w.cell? ⟨pb,0,none⟩=some va) (hc1:w.cell? ⟨pb,1,none⟩=some vb) (hne:chkTwo a b≠0) :
 Calls Tryz.prog 193 #[.slice (some ⟨pb,0,none⟩) 2 cap] w fun e w'=>e=.returned (.tuple #[.slice none 0 0,.int .i64 (joinE a b)])∧Below w.heap.size w w':=by
 have he:(chkTwo a b != 0)=true:=by simpa using hne
 have HE:Hid (joinE a b=chkTwo a b):=if_neg hne
 have hcon:=checkAll_two a b va vb pb cap w ha hb hpb hc0 hc1
 have HC:Hid (Calls Tryz.prog 233 #[.slice (some ⟨pb,0,none⟩) 2 cap] w fun e w'=>e=.returned (.int .i64 (chkTwo a b))∧Below w.heap.size w w'):=hcon
 clear hcon ha hb hne
 go_enter Tryz.func193,Tryz.ntmps193
 go_wp2_with (go_at_call 233;refine HC.out.mono ?_;rintro e w' ⟨rfl,hb2⟩)
 go_ret2
 exact ⟨by rw [HE.out];rfl,hb2⟩
set_option maxHeartbeats 1600000 in
set_option maxRecDepth 100000 in
theorem join_good (a b:List Mem) (va vb:Value) (pb cap:Nat) (w:World) (ha:Sl w va a) (hb:Sl w vb b) (hpb:pb < w.heap.size) (hc0:w.cell? ⟨pb,0,none⟩=some va) (hc1:w.cell? ⟨pb,1,none⟩=some vb) (h0:chkTwo a b=0) :
 Calls Tryz.prog 193 #[.slice (some ⟨pb,0,none⟩) 2 cap] w fun e w'=>∃ v',e=.returned (.tuple #[v',.int .i64 (joinE a b)])∧Below w.heap.size w w' ∧
  (20 < (joinL a b).length→v'=.slice none 0 0)∧((joinL a b).length≤20→Own w.heap.size w' v' (joinL a b)):=by
 have he:(chkTwo a b != 0)=false:=by simpa using h0
 have hca:chk a=0:=by unfold chkTwo at h0;split at h0<;>assumption
 have hcb:chk b=0:=by unfold chkTwo at h0;rw [if_pos hca] at h0;exact h0
 have za:=chk_zero hca
 have zb:=chk_zero hcb
 have HE:Hid (joinE a b=if 20 < (joinL a b).length then 2 else 0):=if_pos h0
 have HC:Hid (Calls Tryz.prog 233 #[.slice (some ⟨pb,0,none⟩) 2 cap] w fun e w'=>e=.returned (.int .i64 (chkTwo a b))∧Below w.heap.size w w'):=checkAll_two a b va vb pb cap w ha hb hpb hc0 hc1
 have HJ:Hid (∀ w1,Below w.heap.size w w1→Calls Tryz.prog 235 #[.func (.func 179) #[] #[],.func (.func 234) #[] #[],.slice (some ⟨pb,0,none⟩) 2 cap] w1 fun e w'=>∃ v',e=.returned v'∧Own w1.heap.size w' v' (joinL a b)∧Below w1.heap.size w1 w'):=fun w1 hb1=>
  rjoin_two a b va vb pb cap w1 (ha.below hb1) (hb.below hb1) (Nat.lt_of_lt_of_le hpb hb1.size) ((bcell hb1).1 pb 0 hpb |>.trans hc0) ((bcell hb1).1 pb 1 hpb |>.trans hc1) za.1 zb.1 za.2.1
 have hl40:(joinL a b).length≤40:=by have h1:=joinL_len b a;have h2:=za.1;have h3:=zb.1;omega
 clear h0 hca hcb za zb ha hb hc0 hc1
 generalize joinL a b=jl at *
 generalize hgn:jl.length=n at *
 have HGN:Hid (jl.length=n):=hgn
 clear hgn
 go_enter Tryz.func193,Tryz.ntmps193
 go_wp2_with (go_at_call 233;refine HC.out.mono ?_;rintro e w1 ⟨rfl,hb1⟩)
 refine (HJ.out w1 hb1).mono ?_
 rintro e w2 ⟨v',rfl,ho,hb2⟩
 have hform:∃ p c,v'=.slice p n c:=by
  have hn:=HGN.out
  rcases ho.2 with ⟨h,h0⟩ | ⟨g,c,cur,h,_⟩
  ·exact ⟨none,0,by rw [h];congr 1;omega⟩
  ·exact ⟨_,c,by rw [h,hn]⟩
 obtain ⟨p,c,rfl⟩:=hform
 have HBx:Hid (Below w.heap.size w w2):=hb1.trans (hb2.mono hb1.size)
 have HO3:Hid (Own w.heap.size w2 (.slice p n c) jl):=ho.mono hb1.size
 clear ho hb1 hb2 HC HJ
 by_cases hlt:20 < n
 ·go_wp2_with fail
  go_ret2
  refine ⟨_,by rw [HE.out,if_pos hlt];rfl,HBx.out,fun _=>rfl,fun h=>by omega⟩
 ·go_wp2_with fail
  go_ret2
  refine ⟨.slice p n c,by rw [HE.out,if_neg hlt];rfl,HBx.out,fun h=>by omega,fun _=>HO3.out⟩
set_option maxHeartbeats 400000 in
theorem alone_any (nm:ByteArray) (st lf ad:Int) (sv:Bool) (w:World) :
 Calls Tryz.prog 194 #[.agg #[.string nm,.int .i64 st,.int .i64 lf,.int .i64 ad,.bool sv]] w fun e w'=>e=.returned (.slice (some ⟨w.heap.size+1,0,none⟩) 1 1)∧w'=(w.alloc (.cells #[.string nm,.int .i64 st,.int .i64 lf,.int .i64 ad,.bool sv] 56)).alloc (.cells #[.string nm,.int .i64 st,.int .i64 lf,.int .i64 ad,.bool sv] 56):=by
 go_enter Tryz.func194,Tryz.ntmps194
 go_wp2
 go_ret
 exact ⟨rfl,rfl⟩
def sameM (x y:Mem):Bool:=x.name.toList == y.name.toList && (x.state == y.state && (x.life == y.life && (x.addr == y.addr && x.server == y.server)))
theorem sameM_iff (x y:Mem):sameM x y=true↔x=y:=by
 obtain ⟨n1,s1,l1,a1,v1⟩:=x
 obtain ⟨n2,s2,l2,a2,v2⟩:=y
 simp only [sameM,Bool.and_eq_true,beq_iff_eq,Mem.mk.injEq,Lib.toList_data]
 constructor
 ·rintro ⟨h1,h2,h3,h4,h5⟩;exact ⟨ba_ext h1,h2,h3,h4,h5⟩
 ·rintro ⟨rfl,h2,h3,h4,h5⟩;exact ⟨rfl,h2,h3,h4,h5⟩
theorem eqIn56 (m1 m2:Mem) (w:World):(Op.equalIn 10000 56 (.agg #[.string m1.name,.int .i64 m1.state,.int .i64 m1.life,.int .i64 m1.addr,.bool m1.server]) (.agg #[.string m2.name,.int .i64 m2.state,.int .i64 m2.life,.int .i64 m2.addr,.bool m2.server])).run Tryz.prog w=.ok (sameM m1 m2) w:=by
 have u3:=Tryz.underlying3
 have u4:=Tryz.underlying4
 have u9:=Tryz.underlying9
 have a3:=Tryz.isAgg3
 have z3:=Tryz.sizeOf3
 have a4:=Tryz.isAgg4
 have z4:=Tryz.sizeOf4
 have a9:=Tryz.isAgg9
 have z9:=Tryz.sizeOf9
 have hS:Tryz.prog.underlying 56=some (.struct (Tryz.prog.fieldsOf 56)):=by kernel_rfl
 have hp:Tryz.prog.stoodInHeld 56=false:=by kernel_rfl
 rw [show (10000:Nat)=9999+1 from rfl,run_equalIn_agg w 9999 56 _ _ hS hp]
 simp only [Program.fieldsOf,Tryz.underlying56]
 go_simp
 unfold sameM
 by_cases h1:m1.name.toList=m2.name.toList<;>by_cases h2:m1.state=m2.state<;>by_cases h3:m1.life=m2.life<;>by_cases h4:m1.addr=m2.addr<;>by_cases h5:m1.server=m2.server<;>simp [h1,h2,h3,h4,h5]
theorem neq56 (m1 m2:Mem) (w:World):Sem.run Tryz.prog (binOp .neq 56 (.agg #[.string m1.name,.int .i64 m1.state,.int .i64 m1.life,.int .i64 m1.addr,.bool m1.server]) (.agg #[.string m2.name,.int .i64 m2.state,.int .i64 m2.life,.int .i64 m2.addr,.bool m2.server])) w=.ok (.bool (!sameM m1 m2)) w:=by
 rw [run_neq_struct,eqIn56]
 rfl
set_option maxHeartbeats 800000 in
theorem equal_any (a b:List Mem) (va vb:Value) (w:World) (ha:Sl w va a) (hb:Sl w vb b) (hsm:a.length≤1000) :
 Calls Tryz.prog 54 #[va,vb] w fun e w'=>∃ r:Bool,e=.returned (.bool r)∧(r=true↔a=b)∧Below w.heap.size w w':=by
 obtain ⟨pa,ca,rfl,_,ha⟩:=ha
 obtain ⟨pv,cb,rfl,_,hb⟩:=hb
 by_cases hl:a.length=b.length
 ·have HA:Hid (a=[]∨∃ b off,pa=some ⟨b,off,none⟩∧b < w.heap.size∧Row w b off a):=ha
  have HB:Hid (b=[]∨∃ b_1 off,pv=some ⟨b_1,off,none⟩∧b_1 < w.heap.size∧Row w b_1 off b):=hb
  have HL:Hid (a.length=b.length):=hl
  clear ha hb
  rw [← hl]
  clear hl
  generalize hna:a.length=n at *
  have HN:Hid (a.length=n):=hna
  clear hna
  have hg56:Tryz.prog.eqGuardType Tryz.prog.depth 56=false:=by kernel_rfl
  go_enter Tryz.func54,Tryz.ntmps54
  go_wp2_with fail
  go_loopw [13] (fun i w'=>∃ k:Nat,k≤n∧i=.int .i64 k∧Below w.heap.size w w'∧Hid (∀ j,j < k→a.getD j dm=b.getD j dm)) (fun i _=>n - (intOf i).toNat)
  case atStart=>exact ⟨0,Nat.zero_le _,rfl,Below.refl _ _,fun j h=>absurd h (Nat.not_lt_zero _)⟩
  case round=>
   obtain ⟨k,hk,rfl,hbl,hz⟩:=hrel
   obtain ⟨hbc,hbf⟩:=bcell hbl
   have hsz:=hbl.size
   by_cases hlt:k < n
   ·obtain ⟨b1,o1,hp1,hl1,hr1⟩:∃ b off,pa=some ⟨b,off,none⟩∧b < w.heap.size∧Row w b off a:=by
     rcases HA.out with h | h
     ·have:=HN.out;rw [h] at this;simp at this;omega
     ·exact h
    obtain ⟨b2,o2,hp2,hl2,hr2⟩:∃ b_1 off,pv=some ⟨b_1,off,none⟩∧b_1 < w.heap.size∧Row w b_1 off b:=by
     rcases HB.out with h | h
     ·have h2:=HN.out;have h3:=HL.out;rw [h] at h3;simp at h3;omega
     ·exact h
    subst hp1
    subst hp2
    obtain ⟨c0,c1,c2,c3,c4⟩:=hr1 k (by rw [HN.out];exact hlt)
    obtain ⟨d0,d1,d2,d3,d4⟩:=hr2 k (by have h2:=HN.out;have h3:=HL.out;omega)
    clear hr1 hr2
    have HF:Hid (a.getD k dm≠b.getD k dm→a≠b):=fun h e=>h (by rw [e])
    have HZ:Hid (a.getD k dm=b.getD k dm→∀ j,j < k+1→a.getD j dm=b.getD j dm):=fun h j hj=>by
     rcases Nat.lt_succ_iff_lt_or_eq.1 hj with h2 | rfl
     ·exact hz.out j h2
     ·exact h
    have hneq:=neq56 (a.getD k dm) (b.getD k dm)
    generalize a.getD k dm=m1 at *
    generalize b.getD k dm=m2 at *
    rcases hs:sameM m1 m2 with _ | _
    ·rw [hs] at hneq
     have hne:Hid (a≠b):=HF.out (fun e=>by rw [← sameM_iff,hs] at e;cases e)
     go_wp2_with fail
     go_quiet (fail)
     go_wp2_with fail
     go_ret
     exact ⟨false,rfl,⟨fun h=>(by cases h),fun h=>absurd h hne.out⟩,below_drewN hbl _⟩
    ·rw [hs] at hneq
     have heq:Hid (m1=m2):=(sameM_iff m1 m2).1 hs
     go_wp2_with fail
     go_quiet (fail)
     go_wp2_with fail
     go_roundw
     case rel=>exact ⟨k+1,by omega,by go_num,below_drewN hbl _,HZ.out heq.out⟩
     case measure=>simp [intOf];omega
   ·have hfin:Hid (a=b):=by
     apply List.ext_getElem (HN.out.trans HL.out)
     intro j h1 h2
     have:=hz.out j (by have:=HN.out;omega)
     simpa [List.getD,List.getElem?_eq_getElem h1,List.getElem?_eq_getElem h2] using this
    go_wp2_with fail
    go_ret
    exact ⟨true,rfl,⟨fun _=>hfin.out,fun _=>rfl⟩,hbl⟩
 ·have hne:((a.length:Int) != (b.length:Int))=true:=by rw [bne_iff_ne];omega
  have HF:Hid (a≠b):=fun e=>hl (by rw [e])
  clear ha hb
  go_enter Tryz.func54,Tryz.ntmps54
  go_wp2_with fail
  go_ret
  exact ⟨false,rfl,⟨fun h=>(by cases h),fun h=>absurd h HF.out⟩,Below.refl _ _⟩
set_option maxHeartbeats 800000 in
theorem clone_any (ms:List Mem) (v:Value) (w:World) (h:Sl w v ms) (hn:ms.length≤1000) :
 Calls Tryz.prog 70 #[v] w fun e w'=>∃ v',e=.returned v'∧Own w.heap.size w' v' ms∧Below w.heap.size w w':=by
 obtain ⟨a,cap,rfl,hs,h⟩:=h
 obtain ⟨i0,hi0,hz0,hzs,hzb⟩:=info_parts Tryz.info56
 cases a with
 | none=>
   have he:ms=[]:=by
    rcases h with h | ⟨b,off,h,_⟩
    ·exact h
    ·cases h
   subst he
   clear h hs
   have hnil:=fun (w:World)=>Lib.run_eql_slice_nil (P:=Tryz.prog) w 45 56 none 0 cap 0 0 Tryz.underlying45
   simp only [List.length_nil,Option.isNone_none] at hnil ⊢
   go_enter Tryz.func70,Tryz.ntmps70
   go_wp2_with fail
   go_ret
   exact ⟨_,rfl,own_nil _ _,Below.refl _ _⟩
 | some a=>
   have hnil:=fun (w:World)=>Lib.run_eql_slice_nil (P:=Tryz.prog) w 45 56 (some a) ms.length cap 0 0 Tryz.underlying45
   simp only [Option.isNone_some] at hnil
   have hnews:Hid (∀ j u,(fl ms)[j]?=some u→(w.alloc (.cells #[] 56)).cell? (a.add j)=some u):=by
    intro j u hj
    rcases h with h | ⟨b,off,h,hb,hr⟩
    ·subst h;simp [fl] at hj
    ·cases h
     have hjl:j < ms.length * 5:=by rw [← fl_len];exact (List.getElem?_eq_some_iff.1 hj).1
     have h1:=fl_get ms (j / 5) (by omega) (j%5) (by omega)
     rw [show j / 5 * 5+j%5=j by omega,hj] at h1
     rw [Addr.add_lit,World.cell?_alloc_past (w:=w) _ b _ hb]
     obtain ⟨c0,c1,c2,c3,c4⟩:=hr (j / 5) (by omega)
     have hcs:j%5=0∨j%5=1∨j%5=2∨j%5=3∨j%5=4:=by omega
     rcases hcs with e | e | e | e | e
     ·rw [show off+j=off+j / 5 * 5 by omega,c0];rw [e] at h1;simpa [Mem.cs] using h1.symm
     ·rw [show off+j=off+j / 5 * 5+1 by omega,c1];rw [e] at h1;simpa [Mem.cs] using h1.symm
     ·rw [show off+j=off+j / 5 * 5+2 by omega,c2];rw [e] at h1;simpa [Mem.cs] using h1.symm
     ·rw [show off+j=off+j / 5 * 5+3 by omega,c3];rw [e] at h1;simpa [Mem.cs] using h1.symm
     ·rw [show off+j=off+j / 5 * 5+4 by omega,c4];rw [e] at h1;simpa [Mem.cs] using h1.symm
   have HO:Hid ((w.alloc (.cells #[] 56)).ownsRow w.heap.size 56 5 (.slice (some ⟨w.heap.size,0,none⟩) 0 0) 0 []):=World.ownsRow_made w #[] 0 (Nat.le_refl _) (by unfold maxLen;omega) rfl
   clear h hs
   go_enter Tryz.func70,Tryz.ntmps70
   go_wp2_with (at_builtin;refine wpList_append_own _ rfl _ _ 45 rfl w.heap.size 56 i0 _ 5 48 Tryz.underlying45 hi0 hz0 hzs hzb rfl (by omega) _ 0 [] rfl HO.out a ms.length cap (fl ms) rfl (fl_len ms) hnews.out (fl_one ms) (by unfold maxLen;omega) (by omega) (by simp) ?_)
   intro v' w' r1 r2 r3
   go_wp2_with fail
   go_ret
   refine ⟨v',rfl,?_,?_⟩
   ·simpa using r1
   ·exact ((Below.refl _ _).alloc (Nat.le_refl _) _).grown r2 (by simp) (fun k hk=>by simp [Value.ownBlock] at hk;omega)
theorem join_any (a b:List Mem) (va vb:Value) (pb cap:Nat) (w:World) (ha:Sl w va a) (hb:Sl w vb b) (hpb:pb < w.heap.size) (hc0:w.cell? ⟨pb,0,none⟩=some va) (hc1:w.cell? ⟨pb,1,none⟩=some vb) :
 Calls Tryz.prog 193 #[.slice (some ⟨pb,0,none⟩) 2 cap] w fun e w'=>∃ v',e=.returned (.tuple #[v',.int .i64 (joinE a b)])∧Below w.heap.size w w' ∧
  (joinE a b≠0→v'=.slice none 0 0)∧(joinE a b=0→Own w.heap.size w' v' (joinL a b)):=by
 by_cases h0:chkTwo a b=0
 ·refine (join_good a b va vb pb cap w ha hb hpb hc0 hc1 h0).mono ?_
  rintro e w' ⟨v',rfl,h1,h2,h3⟩
  have hE:joinE a b=if 20 < (joinL a b).length then 2 else 0:=if_pos h0
  refine ⟨v',rfl,h1,fun hne=>h2 ?_,fun hz=>h3 ?_⟩
  ·rw [hE] at hne;split at hne
   ·assumption
   ·exact absurd rfl hne
  ·rw [hE] at hz;split at hz
   ·cases hz
   ·omega
 ·refine (join_bad a b va vb pb cap w ha hb hpb hc0 hc1 h0).mono ?_
  rintro e w' ⟨rfl,h1⟩
  have hE:joinE a b=chkTwo a b:=if_neg h0
  exact ⟨_,rfl,h1,fun _=>rfl,fun hz=>absurd (hE▸hz) h0⟩
set_option maxHeartbeats 800000 in
theorem hear_any (ms:List Mem) (m:Mem) (v:Value) (w:World) (hv:Sl w v ms) (hm:m.name.size≤maxLen) :
 Calls Tryz.prog 134 #[v,.agg #[.string m.name,.int .i64 m.state,.int .i64 m.life,.int .i64 m.addr,.bool m.server]] w fun e w'=>∃ (v':Value) (r:Bool),e=.returned (.tuple #[v',.bool r,.int .i64 (joinE ms [m])])∧Below w.heap.size w w' ∧
  (joinE ms [m]≠0→v'=.slice none 0 0∧r=false)∧(joinE ms [m]=0→Own w.heap.size w' v' (hearL ms m)∧(r=true↔hearL ms m≠ms)):=by
 have HV:=hv
 obtain ⟨pa,ca,rfl,ns,_⟩:=hv
 obtain ⟨W,hW⟩:∃ W,W=(((w.alloc (.cells #[.string m.name,.int .i64 m.state,.int .i64 m.life,.int .i64 m.addr,.bool m.server] 56)).alloc (.cells #[.string m.name,.int .i64 m.state,.int .i64 m.life,.int .i64 m.addr,.bool m.server] 56)).alloc (.cells #[.string m.name,.int .i64 m.state,.int .i64 m.life,.int .i64 m.addr,.bool m.server] 56)).alloc (.cells #[.slice pa ms.length ca,.slice (some ⟨w.heap.size+1+1,0,none⟩) 1 1] 45):=⟨_,rfl⟩
 go_enter Tryz.func134,Tryz.ntmps134
 go_wp2_with (go_at_call 194;refine (alone_any _ _ _ _ _ _).mono ?_;rintro e w' ⟨rfl,rfl⟩)
 obtain ⟨M,hM⟩:∃ M:Obj,M=.cells #[.string m.name,.int .i64 m.state,.int .i64 m.life,.int .i64 m.addr,.bool m.server] 56:=⟨_,rfl⟩
 have hb0:Below w.heap.size w W:=by rw [hW];exact ((((Below.refl _ _).alloc (Nat.le_refl _) _).alloc (by simp) _).alloc (by simp;omega) _).alloc (by simp;omega) _
 have hsW:W.heap.size=w.heap.size+1+1+1+1:=by rw [hW];simp
 have hg3:W.heap[w.heap.size+1+1+1]?=some (.cells #[.slice pa ms.length ca,.slice (some ⟨w.heap.size+1+1,0,none⟩) 1 1] 45 (0,0)):=by rw [hW];have:=heap_alloc_new (((w.alloc M).alloc M).alloc M) (.cells #[.slice pa ms.length ca,.slice (some ⟨w.heap.size+1+1,0,none⟩) 1 1] 45);rw [hM] at this;simpa using this
 have hg2:W.heap[w.heap.size+1+1]?=some (.cells #[.string m.name,.int .i64 m.state,.int .i64 m.life,.int .i64 m.addr,.bool m.server] 56 (0,0)):=by
  rw [hW,Below.heap_alloc _ _ _ (by simp)]
  have:=heap_alloc_new ((w.alloc M).alloc M) M
  rw [hM] at this
  simpa using this
 rw [← hW]
 refine (join_any ms [m] (.slice pa ms.length ca) (.slice (some ⟨w.heap.size+1+1,0,none⟩) 1 1) (w.heap.size+1+1+1) 2 W (HV.below hb0) (sl_one W _ 1 m hm hg2) (by omega) (cellsAt hg3 0) (cellsAt hg3 1)).mono ?_
 rintro e w2 ⟨v',rfl,h1,h2,h3⟩
 have HB:Hid (Below w.heap.size w w2):=hb0.trans (h1.mono (by omega))
 have HV2:Hid (Sl w2 (.slice pa ms.length ca) ms):=HV.below HB.out
 have H2:Hid (joinE ms [m]≠0→v'=.slice none 0 0):=h2
 have H3:Hid (joinE ms [m]=0→Own w.heap.size w2 v' (hearL ms m)):=fun h=>(h3 h).mono (by omega)
 clear h2 h3 h1 hg2 hg3 hsW hb0 hW hM HV
 rcases he:decide (joinE ms [m]=0) with _ | _
 ·have he':(joinE ms [m] != 0)=true:=by simpa using he
  have hne:Hid (joinE ms [m]≠0):=(show joinE ms [m]≠0 by simpa using he)
  clear he
  go_wp2_with fail
  go_ret3
  exact ⟨_,false,rfl,HB.out,fun _=>⟨rfl,rfl⟩,fun h=>absurd h hne.out⟩
 ·have he':(joinE ms [m] != 0)=false:=by simpa using he
  have hz:Hid (joinE ms [m]=0):=(show joinE ms [m]=0 by simpa using he)
  clear he
  have HO:Hid (Own w.heap.size w2 v' (hearL ms m)):=H3.out hz.out
  have hct:chk ms=0:=by
   have h:=hz.out
   unfold Hid joinE chkTwo at h
   by_cases h1:chk ms=0
   ·exact h1
   ·rw [if_neg h1,if_neg h1] at h;exact absurd h h1
  have HC:Hid (chk ms=0):=hct
  clear hct
  have NS:Hid (∀ x∈hearL ms m,x.name.size≤maxLen):=ns_hear (ns_mem ns) hm
  have hlen:Hid ((hearL ms m).length≤1000):=by have h1:=hearL_len ms m;have h2:=chk_zero HC.out;show (hearL ms m).length≤1000;omega
  go_wp2_with (go_at_call 54;refine (equal_any (hearL ms m) ms _ _ _ (own_names HO.out NS.out) HV2.out hlen.out).mono ?_;rintro e w3 ⟨r,rfl,h5,h6⟩)
  go_ret3
  refine ⟨v',!r,by rw [show joinE ms [m]=0 from hz.out];rfl,HB.out.trans (h6.mono HB.out.size),fun h=>absurd hz.out h,fun _=>⟨HO.out.below h6,?_⟩⟩
  cases r
  ·simp at h5;simpa using h5
  ·simp at h5;simpa using h5
set_option maxHeartbeats 400000 in
theorem isDoubted_any (nm:ByteArray) (st lf ad:Int) (sv:Bool) (w:World) :
 Calls Tryz.prog 238 #[.agg #[.string nm,.int .i64 st,.int .i64 lf,.int .i64 ad,.bool sv]] w fun e w'=>e=.returned (.bool (decide (st=2) || decide (st=3)))∧w'=w.alloc (.cells #[.string nm,.int .i64 st,.int .i64 lf,.int .i64 ad,.bool sv] 56):=by
 by_cases h:st=2
 ·subst h
  go_enter Tryz.func238,Tryz.ntmps238
  go_wp2
  go_ret
  exact ⟨ret_bool (by simp),rfl⟩
 ·have h':(st == 2)=false:=by simpa using h
  go_enter Tryz.func238,Tryz.ntmps238
  go_wp2
  go_ret
  exact ⟨ret_bool (by rw [Bool.eq_iff_iff];simp [h]),rfl⟩
def liveAgain (m:Mem):Mem:=⟨m.name,1,m.life+1,m.addr,m.server⟩
theorem fl_set2 (ms:List Mem) (p:Nat) (hp:p < ms.length):((fl ms).set (p * 5+1) (.int .i64 1)).set (p * 5+2) (.int .i64 ((ms.getD p dm).life+1))=fl (ms.set p (liveAgain (ms.getD p dm))):=by
 induction ms generalizing p with
 | nil=>simp at hp
 | cons x r ih=>
   cases p with
   | zero=>simp [fl,Mem.cs,liveAgain]
   | succ p=>
     have ih':=ih p (by simpa using hp)
     rw [List.set_cons_succ,fl_cons,fl_cons,List.getD_cons_succ,← ih']
     simp only [Nat.add_mul,Nat.one_mul]
     have e:∀ (l:List Value) (k:Nat) (v:Value),(x.cs++l).set (k+5) v=x.cs++l.set k v:=fun l k v=>by
      rw [List.set_append,if_neg (by rw [cs_len];omega),cs_len,Nat.add_sub_cancel]
     rw [show p * 5+5+1=(p * 5+1)+5 by omega,show p * 5+5+2=(p * 5+2)+5 by omega]
     rw [e,e]
theorem own_set2 {base g c p:Nat} {W:World} {ms:List Mem} (h:Own base W (.slice (some ⟨g,0,none⟩) ms.length c) ms) (hp:p < ms.length) :
 Own base ((W.setCell ⟨g,p * 5+1,none⟩ (.int .i64 1)).setCell ⟨g,p * 5+2,none⟩ (.int .i64 ((ms.getD p dm).life+1))) (.slice (some ⟨g,0,none⟩) ms.length c) (ms.set p (liveAgain (ms.getD p dm))):=by
 have h1:=World.ownsRow.stored h (p * 5+1) (.int .i64 1)
 have h2:=World.ownsRow.stored h1.1 (p * 5+2) (.int .i64 ((ms.getD p dm).life+1))
 have e:=h2.1
 rw [fl_set2 ms p hp] at e
 show World.ownsRow _ _ _ _ _ (ms.set p (liveAgain (ms.getD p dm))).length _
 rw [List.length_set]
 exact e
theorem oneE_zero {nm:ByteArray} {st lf ad:Int} (h:oneE nm st lf ad=0):labB nm=true∧(1≤st∧st≤4)∧(1≤lf∧lf≤1000000)∧(0≤ad∧ad≤4294967295):=by
 have hw:∀ n a b:Int,within n a b=true→a≤n∧n≤b:=fun n a b h=>by simpa [within] using h
 unfold oneE at h
 split at h
 ·rename_i h1
  split at h
  ·rename_i h2
   split at h
   ·rename_i h3
    split at h
    ·rename_i h4
     exact ⟨h1,hw _ _ _ h2,hw _ _ _ h3,hw _ _ _ h4⟩
    ·omega
   ·omega
  ·omega
 ·omega
theorem firstE_mem:∀ (ms:List Mem),firstE ms=0→∀ m∈ms,m.e=0
 | [],_,m,h=>by simp at h
 | x :: r,h,m,hm=>by
   rw [firstE] at h
   split at h
   ·rename_i h1
    rcases List.mem_cons.1 hm with rfl | hm
    ·exact h1
    ·exact firstE_mem r h m hm
   ·rename_i h1;exact absurd h h1
theorem firstE_at0 {ms:List Mem} (h:firstE ms=0) (p:Nat) (hp:p < ms.length):(ms.getD p dm).e=0:=by
 have:=firstE_mem ms h ms[p] (List.getElem_mem hp)
 simpa [List.getD,List.getElem?_eq_getElem hp] using this
def refR (ms:List Mem) (p:Nat) (f:Bool):Bool:=f && (decide ((ms.getD p dm).state=2) || decide ((ms.getD p dm).state=3)) && !((ms.getD p dm).life == 1000000)
def refE (ms:List Mem) (p:Nat) (f:Bool):Int:=if f && (decide ((ms.getD p dm).state=2) || decide ((ms.getD p dm).state=3)) && ((ms.getD p dm).life == 1000000) then 3 else 0
def refL (ms:List Mem) (p:Nat) (f:Bool):List Mem:=if refR ms p f=true then ms.set p (liveAgain (ms.getD p dm)) else ms
def RefSays (ms:List Mem) (p:Nat) (f:Bool) (w:World) (e:Ending) (w':World):Prop:=
 ∃ v':Value,e=.returned (.tuple #[v',.bool (refR ms p f),.int .i64 (refE ms p f)])∧Below w.heap.size w w'∧(refE ms p f≠0→v'=.slice none 0 0)∧(refE ms p f=0→Own w.heap.size w' v' (refL ms p f))
set_option maxHeartbeats 1000000 in
set_option maxRecDepth 100000 in
theorem refute_good (ms:List Mem) (v:Value) (me:ByteArray) (w:World) (hv:Sl w v ms) (h0:chk ms=0) (hs:me.size≤maxLen) (hl:labB me=true) (p:Nat) (f:Bool) (hat:At ms me p f) :
 Calls Tryz.prog 196 #[v,.string me] w fun e w'=>RefSays ms p f w e w':=by
 have he:(chk ms != 0)=false:=by simpa using h0
 have hz:=chk_zero h0
 have HN:Hid (∀ x∈ms,x.name.size≤maxLen):=by obtain ⟨a,c,_,hn,_⟩:=hv;exact ns_mem hn
 have HV:Hid (Sl w v ms):=hv
 have HM:Hid (Rise ms):=hz.2.1
 have hlen:=hz.1
 have HF1:Hid (firstE ms=0):=hz.2.2
 have HAT:Hid (At ms me p f):=hat
 clear hv h0 hz hat
 go_enter Tryz.func196,Tryz.ntmps196
 go_wp2_with (first | (go_at_call 125;refine (check_any ms _ _ HV.out).mono ?_;rintro e w1 ⟨rfl,hb1⟩) | (go_at_call 75;refine (label_any _ _ hs).mono ?_;rintro e w' ⟨rfl,rfl⟩;rw [hl]))
 refine (clone_any ms _ _ (HV.out.below hb1) (by omega)).mono ?_
 rintro e w2 ⟨kv,rfl,ho2,hb2⟩
 have HO2:Hid (Own w.heap.size w2 kv ms):=ho2.mono hb1.size
 have HB2:Hid (Below w.heap.size w w2):=hb1.trans (hb2.mono hb1.size)
 clear ho2 hb2 hb1
 go_wp2_with fail
 refine (find_any ms _ ⟨me,0,0,0,false⟩ _ (own_names HO2.out HN.out) (by omega) HM.out).mono ?_
 rintro e w3 ⟨p',f',rfl,hb3,hat'⟩
 obtain ⟨rfl,rfl⟩:=at_uniq HAT.out hat'
 have HO3:Hid (Own w.heap.size w3 kv ms):=HO2.out.below hb3
 have HB3:Hid (Below w.heap.size w w3):=HB2.out.trans (hb3.mono HB2.out.size)
 clear hat' hb3 HO2 HB2
 cases f with
 | false=>
   go_wp2_with fail
   go_ret3
   exact ⟨kv,rfl,HB3.out,fun h=>absurd rfl h,fun _=>HO3.out⟩
 | true=>
   have hp:p < ms.length:=(HAT.out.is.1 rfl).1
   have hlf:1≤(ms.getD p dm).life∧(ms.getD p dm).life≤1000000:=(oneE_zero (firstE_at0 HF1.out p hp)).2.2.1
   obtain ⟨g,c,hkv⟩:∃ g c,kv=.slice (some ⟨g,0,none⟩) ms.length c:=by
    rcases HO3.out.2 with ⟨_,h0⟩ | ⟨g,c,cur,h,_⟩
    ·omega
    ·exact ⟨g,c,h⟩
   subst hkv
   have hgl:=HO3.out.lt g rfl
   have hfz:∀ o,w3.frozen? ⟨g,o,none⟩=false:=fun o=>World.ownsRow.frozenAt HO3.out o
   have hgl2:g < w3.heap.size:=hgl.2
   obtain ⟨b',off',hab,hgb,hrow⟩:∃ b off,(some ⟨g,0,none⟩:Option Addr)=some ⟨b,off,none⟩∧b < w3.heap.size∧Row w3 b off ms:=by
    obtain ⟨a,cap,h1,_,h2⟩:=own_names HO3.out HN.out
    simp only [Value.slice.injEq] at h1
    obtain ⟨rfl,_⟩:=h1
    rcases h2 with h2 | h2
    ·rw [h2] at hp;simp at hp
    ·exact h2
   simp only [Option.some.injEq,Addr.mk.injEq,and_true] at hab
   obtain ⟨rfl,rfl⟩:=hab
   obtain ⟨c0,c1,c2,c3,c4⟩:=hrow p hp
   clear hrow hgb
   simp only [Nat.zero_add] at c0 c1 c2 c3 c4
   generalize hm:ms.getD p dm=m2 at *
   have Hm:Hid (ms.getD p dm=m2):=hm
   clear hm
   obtain ⟨n2,s2,l2,a2,v2⟩:=m2
   simp only at c0 c1 c2 c3 c4 hlf
   obtain ⟨hlf1,hlf2⟩:=hlf
   rcases hd:(decide (s2=2) || decide (s2=3)) with _ | _
   ·go_wp2_with (go_at_call 238;refine (isDoubted_any _ _ _ _ _ _).mono ?_;rintro e w' ⟨rfl,rfl⟩;rw [hd])
    go_ret3
    have e1:refR ms p true=false:=by unfold refR;rw [Hm.out];simp only [hd];rfl
    have e2:refE ms p true=0:=by unfold refE;rw [Hm.out];simp only [hd];rfl
    refine ⟨.slice (some ⟨g,0,none⟩) ms.length c,by rw [e1,e2];rfl,HB3.out.alloc HB3.out.size _,fun h=>absurd e2 h,fun _=>?_⟩
    rw [refL,e1,if_neg (by simp)]
    exact HO3.out.below ((Below.refl _ _).alloc (Nat.le_refl _) _)
   ·rcases hl2:((l2:Int) == 1000000) with _ | _
    ·have e1:refR ms p true=true:=by unfold refR;rw [Hm.out];simp only [hd,hl2];rfl
     have e2:refE ms p true=0:=by unfold refE;rw [Hm.out];simp only [hd,hl2];rfl
     have E1:Hid (refR ms p true=true):=e1
     have E2:Hid (refE ms p true=0):=e2
     clear e1 e2
     have HS:=own_set2 HO3.out hp
     rw [Hm.out] at HS
     have HS2:Hid (Own w.heap.size ((w3.setCell ⟨g,p * 5+1,none⟩ (.int .i64 1)).setCell ⟨g,p * 5+2,none⟩ (.int .i64 (l2+1))) (.slice (some ⟨g,0,none⟩) ms.length c) (ms.set p (liveAgain ⟨n2,s2,l2,a2,v2⟩))):=HS
     clear HS
     go_wp2_with (go_at_call 238;refine (isDoubted_any _ _ _ _ _ _).mono ?_;rintro e w' ⟨rfl,rfl⟩;rw [hd])
     go_ret3
     refine ⟨.slice (some ⟨g,0,none⟩) ms.length c,by rw [E1.out,E2.out];rfl,?_,fun h=>absurd E2.out h,fun _=>?_⟩
     ·have hB2:=(HB3.out.setCell (p:=⟨g,p * 5+1,none⟩) hgl.1 (.int .i64 1)).setCell (p:=⟨g,p * 5+2,none⟩) hgl.1 (.int .i64 (l2+1))
      exact hB2.alloc (by have:=HB3.out.size;simpa using this) _
     ·rw [refL,if_pos E1.out,Hm.out]
      exact HS2.out.below ((Below.refl _ _).alloc (Nat.le_refl _) _)
    ·have E1:Hid (refR ms p true=false):=(show refR ms p true=false by unfold refR;rw [Hm.out];simp only [hd,hl2];rfl)
     have E2:Hid (refE ms p true=3):=(show refE ms p true=3 by unfold refE;rw [Hm.out];simp only [hd,hl2];rfl)
     go_wp2_with (go_at_call 238;refine (isDoubted_any _ _ _ _ _ _).mono ?_;rintro e w' ⟨rfl,rfl⟩;rw [hd])
     go_ret3
     exact ⟨.slice none 0 0,by rw [E1.out,E2.out];rfl,HB3.out.alloc HB3.out.size _,fun _=>rfl,fun h=>by rw [E2.out] at h;cases h⟩
end Go.Proofs.YtffdoiokmiklgaaGreatDoor
namespace Go.Proofs.YtffdoiokmiklgaaGreatDoor
open Go.RowKit Go.WideMaps Go.Maps
structure Rum where
 m:Mem
 told:Int
def dr:Rum:=⟨dm,0⟩
def RRow (w:World) (b off:Nat) (rs:List Rum):Prop:=∀ j,j < rs.length →
 w.cell? ⟨b,off+j * 6,none⟩=some (.string (rs.getD j dr).m.name)∧w.cell? ⟨b,off+j * 6+1,none⟩=some (.int .i64 (rs.getD j dr).m.state) ∧
 w.cell? ⟨b,off+j * 6+2,none⟩=some (.int .i64 (rs.getD j dr).m.life)∧w.cell? ⟨b,off+j * 6+3,none⟩=some (.int .i64 (rs.getD j dr).m.addr) ∧
 w.cell? ⟨b,off+j * 6+4,none⟩=some (.bool (rs.getD j dr).m.server)∧w.cell? ⟨b,off+j * 6+5,none⟩=some (.int .i64 (rs.getD j dr).told)
theorem RRow.below {w w':World} {b off B:Nat} {rs:List Rum} (h:RRow w b off rs) (hb:Below B w w') (hB:b < B):RRow w' b off rs:=fun k hk=>by
 obtain ⟨h0,h1,h2,h3,h4,h5⟩:=h k hk
 exact ⟨by rw [hb.cell hB];exact h0,by rw [hb.cell hB];exact h1,by rw [hb.cell hB];exact h2,by rw [hb.cell hB];exact h3,by rw [hb.cell hB];exact h4,by rw [hb.cell hB];exact h5⟩
def RSl (w:World) (v:Value) (rs:List Rum):Prop:=
 ∃ (a:Option Addr) (cap:Nat),v=.slice a rs.length cap∧(∀ j,(rs.getD j dr).m.name.size≤maxLen) ∧
  (rs=[]∨∃ b off,a=some ⟨b,off,none⟩∧b < w.heap.size∧RRow w b off rs)
theorem RSl.below {w w':World} {v:Value} {rs:List Rum} (h:RSl w v rs) (hb:Below w.heap.size w w'):RSl w' v rs:=by
 obtain ⟨a,c,hv,hn,h⟩:=h
 refine ⟨a,c,hv,hn,?_⟩
 rcases h with h | ⟨b,off,ha,hlt,hr⟩
 ·exact .inl h
 ·exact .inr ⟨b,off,ha,Nat.lt_of_lt_of_le hlt hb.size,hr.below hb hlt⟩
def rnames (rs:List Rum):List ByteArray:=rs.map (·.m.name)
theorem rnames_get (rs:List Rum) (k:Nat):(rnames rs).getD k ByteArray.empty=(rs.getD k dr).m.name:=by
 by_cases h:k < rs.length
 ·simp [rnames,List.getD,List.getElem?_eq_getElem h]
 ·simp [rnames,List.getD,List.getElem?_eq_none (by omega:rs.length≤k),dr,dm]
theorem law9:Keyed Tryz.prog 9:=string_keyed Tryz.underlying9
theorem zero3' (w:World):(zeroValue 3).run Tryz.prog w=.ok (.int .i64 0) w:=by kernel_rfl
theorem run_makeMapHint (n:Int) (w:World):(Instr.makeMap 131 (some (.int .i64 n))).run Tryz.prog w=.ok (.map (some w.heap.size)) (w.alloc (.map #[] 0)):=by
 have h:=run_underlying Tryz.underlying131
 simp [Instr.makeMap,h,asInt,newObj]
 rfl
set_option maxHeartbeats 3200000 in
set_option maxRecDepth 100000 in
theorem met_any (rs:List Rum) (v:Value) (w:World) (hv:RSl w v rs) (hn:rs.length≤1000) :
 Calls Tryz.prog 181 #[v] w fun e w'=>e=.returned (.map (some w.heap.size))∧w'.ownsMap Tryz.prog 9 (plainElem (H:=Unit) Tryz.prog 3) w.heap.size rs.length (Dm (rnames rs) rs.length)∧Below w.heap.size w w':=by
 obtain ⟨pa,ca,rfl,hsz,ha⟩:=hv
 have HA:Hid (rs=[]∨∃ b off,pa=some ⟨b,off,none⟩∧b < w.heap.size∧RRow w b off rs):=ha
 have HS:Hid (∀ j,(rs.getD j dr).m.name.size≤maxLen):=hsz
 clear ha hsz
 generalize hN:rs.length=n at *
 have HN:Hid (rs.length=n):=hN
 clear hN
 have hmm:=run_makeMapHint
 go_enter Tryz.func181,Tryz.ntmps181
 go_wp2
 go_loopw [11] (fun i wr=>∃ k:Nat,k≤n∧i=.int .i64 k∧Hid (wr.ownsMap Tryz.prog 9 (plainElem (H:=Unit) Tryz.prog 3) w.heap.size k (Dm (rnames rs) k))∧Hid (Below w.heap.size w wr))
  (fun i _=>n - (intOf i).toNat)
 case atStart=>exact ⟨0,Nat.zero_le _,rfl,World.ownsMap_made _ _ _ _,(Below.refl _ _).alloc (Nat.le_refl _) _⟩
 case round=>
  obtain ⟨k,hk,rfl,HO,HB⟩:=hrel
  by_cases hlt:k < n
  ·obtain ⟨b,off,hp,hl,hr⟩:∃ b off,pa=some ⟨b,off,none⟩∧b < w.heap.size∧RRow w b off rs:=by
    rcases HA.out with h | h
    ·have:=HN.out;rw [h] at this;simp at this;omega
    ·exact h
   subst hp
   obtain ⟨c0,c1,c2,c3,c4,c5⟩:=hr.below HB.out hl k (by rw [HN.out];exact hlt)
   have hkey:keyOf Tryz.prog 9 (.string (rs.getD k dr).m.name)=some (kS (rs.getD k dr).m.name):=keyOf_string_mk Tryz.underlying9 (HS.out k)
   have HST:Hid (∀ w1:World,w1.ownsMap Tryz.prog 9 (plainElem (H:=Unit) Tryz.prog 3) w.heap.size (k+1) ((Dm (rnames rs) k).put (kS (rs.getD k dr).m.name) (.lit (.int .i64 k)))→w1.ownsMap Tryz.prog 9 (plainElem (H:=Unit) Tryz.prog 3) w.heap.size (k+1) (Dm (rnames rs) (k+1))):=fun w1 h=>by
    rw [Dm,rnames_get];exact h
   generalize (rs.getD k dr)=rk at *
   obtain ⟨⟨nm,st,lf,ad,sv⟩,td⟩:=rk
   simp only at c0 c1 c2 c3 c4 c5 hkey HST
   clear hr
   go_wp2_with (first
    | (at_mapUpdate;refine wpList_mapUpdate_own _ rfl _ _ _ 131 rfl 9 3 law9 Tryz.underlying131 _ w.heap.size k _ rfl (HO.out.alloc _) (by unfold maxLen;omega) _ _ _ rfl rfl hkey _ [] (plainElem_int Tryz.underlying3 (WalkArith.wf_i64 (by omega))) ?_)
    | fail)
   intro w1 hown1 hgrow1
   have R1:Hid (w1.ownsMap Tryz.prog 9 (plainElem (H:=Unit) Tryz.prog 3) w.heap.size (k+1) (Dm (rnames rs) (k+1))):=HST.out w1 hown1
   have R2:Hid (Below w.heap.size w w1):=(HB.out.alloc HB.out.size _).grown hgrow1 (by have:=HB.out.size;simp;omega) (fun j hj=>by cases hj;exact Nat.le_refl _)
   clear hown1 hgrow1 HO HB c0 c1 c2 c3 c4 c5 HST
   go_wp2_with fail
   go_roundw
   case rel=>exact ⟨k+1,by omega,by go_num,R1,R2⟩
   case measure=>simp [intOf];omega
  ·have hkn:k=n:=by omega
   subst hkn
   go_wp2_with fail
   go_ret
   exact ⟨rfl,HO.out,HB.out⟩
end Go.Proofs.YtffdoiokmiklgaaGreatDoor
