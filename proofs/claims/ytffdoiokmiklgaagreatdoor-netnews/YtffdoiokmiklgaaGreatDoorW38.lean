import Derived.Test.YtffdoiokmiklgaaGreatDoorW36
import Derived.Laws.OwnMore
import Derived.Test.YtffdoiokmiklgaaGreatDoorW35
import Derived.Lib.QuietBelow
namespace Go.Proofs.YtffdoiokmiklgaaGreatDoor
open Go.RowKit
structure NtIs (w:World) (t:Nt) (vn vl:Value):Prop where
 ns:NSl w vn t.ns
 ls:Lt.Sl w vl t.ls
theorem NtIs.below {w w':World} {t:Nt} {vn vl:Value} (h:NtIs w t vn vl) (hb:Below w.heap.size w w'):NtIs w' t vn vl:=⟨h.ns.below hb,h.ls.below hb⟩
def Nt.Short (t:Nt):Prop:=t.ls.length≤20→∀ l∈t.ls,l.text.size≤16777216
theorem Nt.e_many {t:Nt} (h:6 < t.ns.length∨20 < t.ls.length):t.e=2:=if_pos h
theorem Nt.e_nodes {t:Nt} (h:¬ (6 < t.ns.length∨20 < t.ls.length)) (hn:chkN t.ns≠0):t.e=chkN t.ns:=by unfold Nt.e;rw [if_neg h,if_neg hn]
theorem Nt.e_letters {t:Nt} (h:¬ (6 < t.ns.length∨20 < t.ls.length)) (hn:chkN t.ns=0):t.e=fstE (ltE t.ns.length) t.ls:=by unfold Nt.e;rw [if_neg h,if_pos hn]
set_option maxHeartbeats 6400000 in
set_option maxRecDepth 100000 in
theorem pcheckN_any (t:Nt) (g:Nat) (vn vl:Value) (w:World) (hV:Rv w.heap.size w) (h:NtIs w t vn vl) (hs:t.Short) (hg:w.cell? ⟨g,0,none⟩=some vn) (hg1:w.cell? ⟨g,1,none⟩=some vl) :
 Calls Tryz.prog 27 #[.pointer (some ⟨g,0,none⟩)] w fun e w'=>e=.returned (.int .i64 t.e)∧Below w.heap.size w w':=by
 have hgl:g < w.heap.size:=World.block_lt_of_cell? w _ hg
 have HCN:Hid (t.ns.length≤6→Calls Tryz.prog 58 #[.pointer (some ⟨g,0,none⟩)] w fun e w'=>e=.returned (.int .i64 (chkN t.ns))∧Below w.heap.size w w'):=fun h6=>checkNodes_any t.ns g vn w h.ns hg h6
 have HCL:Hid (t.ns.length≤6→t.ls.length≤20→∀ W,Below w.heap.size w W→Calls Tryz.prog 59 #[.pointer (some ⟨g,0,none⟩)] W fun e w'=>e=.returned (.int .i64 (fstE (ltE t.ns.length) t.ls))∧Below W.heap.size W w'):=fun h6 h20 W hW=>by
  obtain ⟨a,cap,hvn,_⟩:=h.ns
  exact checkLetters_any t.ls t.ns.length g a cap vl W (hV.after hW) (h.ls.below hW) ((hW.cell (p:=⟨g,0,none⟩) hgl).trans (by rw [hg,hvn])) ((hW.cell (p:=⟨g,1,none⟩) hgl).trans hg1) h6 h20 (hs h20)
 have HE1:Hid ((6 < t.ns.length∨20 < t.ls.length)→t.e=2):=Nt.e_many
 have HE2:Hid (¬ (6 < t.ns.length∨20 < t.ls.length)→chkN t.ns≠0→t.e=chkN t.ns):=Nt.e_nodes
 have HE3:Hid (¬ (6 < t.ns.length∨20 < t.ls.length)→chkN t.ns=0→t.e=fstE (ltE t.ns.length) t.ls):=Nt.e_letters
 obtain ⟨⟨pn,cn,hvn,_⟩,⟨pl,cl,hvl,_,_⟩⟩:=h
 subst hvn hvl
 generalize t.e=te at *
 generalize chkN t.ns=ce at *
 generalize fstE (ltE t.ns.length) t.ls=le at *
 generalize t.ns.length=n at *
 generalize t.ls.length=m at *
 clear hs hV
 by_cases h6:6 < n
 ·have d1:decide ((6:Int) < (n:Int))=true:=by simp;omega
  have HE:Hid (te=2):=HE1.out (.inl h6)
  clear HE1 HE2 HE3 h6
  go_enter Tryz.func27,Tryz.ntmps27
  go_wp2_with fail
  go_ret
  exact ⟨ret_int HE.out.symm,Below.refl _ _⟩
 have d1:decide ((6:Int) < (n:Int))=false:=by simp;omega
 by_cases h20:20 < m
 ·have d2:decide ((20:Int) < (m:Int))=true:=by simp;omega
  have HE:Hid (te=2):=HE1.out (.inr h20)
  clear HE1 HE2 HE3 h6 h20
  go_enter Tryz.func27,Tryz.ntmps27
  go_wp2_with fail
  go_ret
  exact ⟨ret_int HE.out.symm,Below.refl _ _⟩
 have d2:decide ((20:Int) < (m:Int))=false:=by simp;omega
 have HN1:Hid (Calls Tryz.prog 58 #[.pointer (some ⟨g,0,none⟩)] w fun e w'=>e=.returned (.int .i64 ce)∧Below w.heap.size w w'):=HCN.out (by omega)
 have HL1:Hid (∀ W,Below w.heap.size w W→Calls Tryz.prog 59 #[.pointer (some ⟨g,0,none⟩)] W fun e w'=>e=.returned (.int .i64 le)∧Below W.heap.size W w'):=HCL.out (by omega) (by omega)
 have HE2':Hid (ce≠0→te=ce):=HE2.out (by omega)
 have HE3':Hid (ce=0→te=le):=HE3.out (by omega)
 clear HE1 HE2 HE3 h6 h20 HCN HCL
 go_enter Tryz.func27,Tryz.ntmps27
 go_wp2_with fail
 refine HN1.out.mono ?_
 rintro e w1 ⟨rfl,hb1⟩
 have HB1:Hid (Below w.heap.size w w1):=hb1
 clear hb1
 by_cases h0:ce=0
 ·have he:(ce != 0)=false:=by simpa using h0
  have HE:Hid (te=le):=HE3'.out h0
  clear h0 HE2' HE3'
  go_wp2_with fail
  refine (HL1.out w1 HB1.out).mono ?_
  rintro e w2 ⟨rfl,hb2⟩
  have HB2:Hid (Below w.heap.size w w2):=HB1.out.trans (hb2.mono HB1.out.size)
  clear hb2
  go_wp2_with fail
  go_ret
  exact ⟨ret_int HE.out.symm,HB2.out⟩
 ·have he:(ce != 0)=true:=by simpa using h0
  have HE:Hid (te=ce):=HE2'.out h0
  clear h0 HE2' HE3'
  go_wp2_with fail
  go_ret
  exact ⟨ret_int HE.out.symm,HB1.out⟩
set_option maxHeartbeats 6400000 in
set_option maxRecDepth 100000 in
theorem netCheck_any (t:Nt) (vn vl:Value) (w:World) (hV:Rv w.heap.size w) (h:NtIs w t vn vl) (hs:t.Short) :
 Calls Tryz.prog 11 #[.agg #[vn,vl]] w fun e w'=>e=.returned (.int .i64 t.e)∧Below w.heap.size w w':=by
 have HC:Hid (∀ W g,Below w.heap.size w W→W.cell? ⟨g,0,none⟩=some vn→W.cell? ⟨g,1,none⟩=some vl→Calls Tryz.prog 27 #[.pointer (some ⟨g,0,none⟩)] W fun e w'=>e=.returned (.int .i64 t.e)∧Below W.heap.size W w'):=fun W g hW h0 h1=>pcheckN_any t g vn vl W (hV.after hW) (h.below hW) hs h0 h1
 obtain ⟨⟨pn,cn,hvn,_⟩,⟨pl,cl,hvl,_,_⟩⟩:=h
 subst hvn hvl
 generalize t.e=te at *
 generalize t.ns.length=n at *
 generalize t.ls.length=m at *
 clear hs hV
 go_enter Tryz.func11,Tryz.ntmps11
 go_wp2_with fail
 refine (HC.out _ _ (((Below.refl _ _).alloc (Nat.le_refl _) _).alloc (by simp) _) (by simp) (by simp)).mono ?_
 rintro e w1 ⟨rfl,hb1⟩
 have HB1:Hid (Below w.heap.size w w1):=((((Below.refl w.heap.size w).alloc (Nat.le_refl _) _).alloc (by simp) _).trans (hb1.mono (by simp;omega)))
 clear hb1
 go_wp2_with fail
 go_ret
 exact ⟨rfl,HB1.out⟩
structure Nx where
 n:Nd
 vm:Value
 vr:Value
 vs:Value
 vg:Value
 vw:Value
def Nx.cs (x:Nx):List Value:=(ndA x.n x.vm x.vr x.vs x.vg x.vw).toList
def nx0:Nx:=⟨ndZ,.slice none 0 0,.slice none 0 0,.slice none 0 0,.slice none 0 0,.slice none 0 0⟩
def nfl (L:List Nx):List Value:=L.flatMap Nx.cs
theorem ncs_len (x:Nx):x.cs.length=12:=rfl
theorem nfl_len:∀ L:List Nx,(nfl L).length=L.length * 12
 | []=>rfl
 | x :: L=>by
   have:=nfl_len L
   unfold nfl at this ⊢
   rw [List.flatMap_cons,List.length_append,this,ncs_len,List.length_cons];omega
theorem nfl_app (a b:List Nx):nfl (a++b)=nfl a++nfl b:=by simp [nfl]
theorem nfl_one (x:Nx):nfl [x]=x.cs:=by simp [nfl]
theorem nfl_get (L:List Nx) (j:Nat) (hj:j < L.length) (t:Nat) (ht:t < 12):(nfl L)[j * 12+t]?=(L.getD j nx0).cs[t]?:=by
 induction L generalizing j with
 | nil=>simp at hj
 | cons m r ih=>
   have e:nfl (m :: r)=m.cs++nfl r:=by simp [nfl]
   rw [e]
   cases j with
   | zero=>rw [List.getElem?_append_left (by rw [ncs_len];omega)];simp
   | succ j=>
     rw [List.getElem?_append_right (by rw [ncs_len];omega),ncs_len,show (j+1) * 12+t - 12=j * 12+t by omega,ih j (by simpa using hj)]
     simp
theorem setAll_mid {b:Nat} {T:TypeId} {f:Nat × Nat}:∀ (L pre suf post:List Value) {w:World},w.heap[b]?=some (.cells (pre++suf++post).toArray T f)→suf.length=L.length→(setAll b L pre.length w).heap[b]?=some (.cells (pre++L++post).toArray T f)
 | [],pre,suf,post,w,h,hl=>by
   have:suf=[]:=List.eq_nil_of_length_eq_zero (by simpa using hl)
   subst this;exact h
 | x :: r,pre,[],post,w,h,hl=>absurd hl (by simp)
 | x :: r,pre,y :: s,post,w,h,hl=>by
   have h1:=Joins.block_setCell (i:=pre.length) h x
   rw [List.setIfInBounds_toArray,show (pre++y :: s++post).set pre.length x=(pre++[x])++s++post by simp] at h1
   have h2:=setAll_mid r (pre++[x]) s post h1 (by simpa using hl)
   rw [show (pre++[x]).length=pre.length+1 by simp,show (pre++[x])++r++post=pre++x :: r++post by simp] at h2
   exact h2
structure NtOwn (B:Nat) (w:World) (t:Nt) (un ul:Value) (nb:Nat) (L:List Nx):Prop where
 un:un=.slice (some ⟨nb,0,none⟩) t.ns.length t.ns.length
 le:B≤nb
 ns:L.map (·.n)=t.ns
 row:w.heap[nb]?=some (.cells (nfl L).toArray 51 (0,0))
 own:∀ x∈L,NdOwn (nb+1) w x.n x.vm x.vr x.vs x.vg x.vw
 ls:Lt.Own (nb+1) w ul t.ls
theorem NdOwn.keep {B:Nat} {w w':World} {n:Nd} {vm vr vs vg vw:Value} (h:NdOwn B w n vm vr vs vg vw) (hk:∀ b,B≤b→b < w.heap.size→w'.heap[b]?=w.heap[b]?):NdOwn B w' n vm vr vs vg vw:=⟨row_keep hk h.ms,row_keep hk h.rs,row_keep hk h.sv,row_keep hk h.gw,row_keep hk h.wh⟩
theorem row_mono {base base':Nat} {w:World} {T:TypeId} {k n:Nat} {v:Value} {cs:List Value} (h:w.ownsRow base T k v n cs) (hb:base'≤base):w.ownsRow base' T k v n cs:=by
 rcases h.2 with ⟨rfl,h0⟩ | ⟨g,c,cur,rfl,hbg,r⟩
 ·exact ⟨h.1,.inl ⟨rfl,h0⟩⟩
 ·exact ⟨h.1,.inr ⟨g,c,cur,rfl,Nat.le_trans hb hbg,r⟩⟩
theorem NdOwn.mono {A B:Nat} {w:World} {n:Nd} {vm vr vs vg vw:Value} (h:NdOwn B w n vm vr vs vg vw) (hb:A≤B):NdOwn A w n vm vr vs vg vw:=⟨h.ms.mono hb,row_mono h.rs hb,h.sv.mono hb,h.gw.mono hb,h.wh.mono hb⟩
def nzV:Value:=.agg #[.string ⟨#[]⟩,.string ⟨#[]⟩,.slice none 0 0,.slice none 0 0,.slice none 0 0,.slice none 0 0,.int .i64 0,.int .i64 0,.int .i64 0,.int .i64 0,.int .i64 0,.slice none 0 0]
theorem made_n0:madeCells nzV.cells (0 * 12)=(nfl (List.replicate 0 nx0)).toArray:=by kernel_rfl
theorem made_n1:madeCells nzV.cells (1 * 12)=(nfl (List.replicate 1 nx0)).toArray:=by kernel_rfl
theorem made_n2:madeCells nzV.cells (2 * 12)=(nfl (List.replicate 2 nx0)).toArray:=by kernel_rfl
theorem made_n3:madeCells nzV.cells (3 * 12)=(nfl (List.replicate 3 nx0)).toArray:=by kernel_rfl
theorem made_n4:madeCells nzV.cells (4 * 12)=(nfl (List.replicate 4 nx0)).toArray:=by kernel_rfl
theorem made_n5:madeCells nzV.cells (5 * 12)=(nfl (List.replicate 5 nx0)).toArray:=by kernel_rfl
theorem made_n6:madeCells nzV.cells (6 * 12)=(nfl (List.replicate 6 nx0)).toArray:=by kernel_rfl
theorem made_nodes (n:Nat) (h:n≤6):madeCells nzV.cells (n * 12)=(nfl (List.replicate n nx0)).toArray:=by
 have h7:n=0∨n=1∨n=2∨n=3∨n=4∨n=5∨n=6:=by omega
 rcases h7 with rfl | rfl | rfl | rfl | rfl | rfl | rfl
 ·exact made_n0
 ·exact made_n1
 ·exact made_n2
 ·exact made_n3
 ·exact made_n4
 ·exact made_n5
 ·exact made_n6
theorem Tryz.infoNd:(Tryz.prog.info? 51).map (fun i=>(i.zero,i.size,i.bytes))=some (some (.agg #[.string ⟨#[]⟩,.string ⟨#[]⟩,.slice none 0 0,.slice none 0 0,.slice none 0 0,.slice none 0 0,.int .i64 0,.int .i64 0,.int .i64 0,.int .i64 0,.int .i64 0,.slice none 0 0]),12,192):=by kernel_rfl
set_option maxHeartbeats 12800000 in
set_option maxRecDepth 100000 in
theorem copied_any (t:Nt) (vn vl:Value) (w:World) (h:NtIs w t vn vl) (hn6:t.ns.length≤6) (hl20:t.ls.length≤20) (hsm:∀ n∈t.ns,n.ms.length≤1000∧n.rs.length≤1000∧n.sv.length≤1000∧n.gw.length≤1000∧n.wh.length≤1000) :
 Calls Tryz.prog 18 #[.agg #[vn,vl]] w fun e w'=>∃ un a l c L,e=.returned (.agg #[un,.slice a l c])∧NtOwn w.heap.size w' t un (.slice a l c) (w.heap.size+2) L∧Below w.heap.size w w':=by
 obtain ⟨i0,hi0,hz0,hzs,hzb⟩:=info_parts Tryz.infoNd
 have HCL:Hid (∀ W,Below w.heap.size w W→Calls Tryz.prog 37 #[vl] W fun e w'=>∃ v',e=.returned v'∧Lt.Own W.heap.size w' v' t.ls∧Below W.heap.size W w'):=fun W hW=>Lt.clone_any t.ls vl W (h.ls.below hW) (by omega)
 have HSM:Hid (∀ n∈t.ns,n.ms.length≤1000∧n.rs.length≤1000∧n.sv.length≤1000∧n.gw.length≤1000∧n.wh.length≤1000):=hsm
 obtain ⟨⟨pn,cn,hvn,ha⟩,⟨pl,cl,hvl,_,_⟩⟩:=h
 subst hvn hvl
 obtain ⟨ns,ls⟩:=t
 simp only at *
 have HA:Hid (ns=[]∨∃ b off,pn=some ⟨b,off,none⟩∧b < w.heap.size∧NRow w b off ns):=ha
 clear ha hsm
 generalize hN:ns.length=n at *
 have HN:Hid (ns.length=n):=hN
 clear hN
 generalize ls.length=m at *
 obtain ⟨W0,hW0⟩:∃ W0,W0=(w.alloc (.cells #[.slice pn n cn,.slice pl m cl] 25)).alloc (.cells #[.slice none 0 0,.slice none 0 0] 25):=⟨_,rfl⟩
 have hb0:Below w.heap.size w W0:=by rw [hW0];exact ((Below.refl _ _).alloc (Nat.le_refl _) _).alloc (by simp) _
 have hs0:W0.heap.size=w.heap.size+2:=by rw [hW0];simp
 have k0:W0.heap[w.heap.size]?=some (.cells #[.slice pn n cn,.slice pl m cl] 25 (0,0)):=by
  rw [hW0];exact (Lib.alloc_old _ _ _ (by simp)).trans (heap_alloc_new w _)
 have k1:W0.heap[w.heap.size+1]?=some (.cells #[.slice none 0 0,.slice none 0 0] 25 (0,0)):=by
  rw [hW0]
  have:=heap_alloc_new (w.alloc (.cells #[.slice pn n cn,.slice pl m cl] 25)) (.cells #[.slice none 0 0,.slice none 0 0] 25)
  simpa using this
 obtain ⟨W1,hW1⟩:∃ W1,W1=W0.alloc (.cells (nfl (List.replicate n nx0)).toArray 51):=⟨_,rfl⟩
 have hmk:(Instr.makeSlice 22 (.int .i64 (n:Int)) (.int .i64 (n:Int))).run Tryz.prog W0=.ok (.slice (some ⟨w.heap.size+2,0,none⟩) n n) W1:=by
  have h:=run_makeSlice (P:=Tryz.prog) (w:=W0) 22 51 i0 _ Tryz.underlying22 hi0 hz0 .i64 .i64 (n:Int) (n:Int) (by omega) (Int.le_refl _) (by rw [hzs];omega) (by rw [hzb];omega) (by omega)
  have hm:=made_nodes n hn6
  unfold nzV at hm
  rw [hzs,Int.toNat_natCast,hm,hs0] at h
  rw [hW1]
  exact h
 have hb1:Below W0.heap.size W0 W1:=by rw [hW1];exact (Below.refl _ _).alloc (Nat.le_refl _) _
 have kn:W1.heap[w.heap.size+2]?=some (.cells (nfl (List.replicate n nx0)).toArray 51 (0,0)):=by rw [hW1,← hs0];exact heap_alloc_new W0 _
 have hs1:W1.heap.size=w.heap.size+3:=by rw [hW1];simp;omega
 have HBX:Hid (W1.heap[w.heap.size]?=some (.cells #[.slice pn n cn,.slice pl m cl] 25 (0,0))∧W1.heap[w.heap.size+1]?=some (.cells #[.slice none 0 0,.slice none 0 0] 25 (0,0))∧Below w.heap.size w W1):=⟨(hb1.block _ (by omega)).trans k0,(hb1.block _ (by omega)).trans k1,hb0.trans (hb1.mono (by omega))⟩
 have HKN:Hid (W1.heap[w.heap.size+2]?=some (.cells (nfl ([]++List.replicate (n - 0) nx0)).toArray 51 (0,0))):=kn
 have HS1:Hid (W1.heap.size=w.heap.size+3):=hs1
 have x0:W0.cell? ⟨w.heap.size,0,none⟩=some (.slice pn n cn):=cellsAt k0 0
 have x1:W1.cell? ⟨w.heap.size,0,none⟩=some (.slice pn n cn):=cellsAt HBX.out.1 0
 clear hb0 hb1 k0 k1 kn hW1 hs0 hs1 hi0 hz0 hzs hzb
 go_enter Tryz.func18,Tryz.ntmps18
 go_upto_region 1 with fail
 rw [← hW0]
 clear hW0
 go_wp2_with fail
 clear hmk x0 x1
 go_loopw [13] (fun i wr=>∃ (k:Nat) (L:List Nx),k≤n∧i=.int .i64 k∧Hid (L.map (·.n)=ns.take k∧L.length=k)∧Hid (wr.heap[w.heap.size+2]?=some (.cells (nfl (L++List.replicate (n - k) nx0)).toArray 51 (0,0)))∧Hid (∀ x∈L,NdOwn (w.heap.size+3) wr x.n x.vm x.vr x.vs x.vg x.vw)∧Hid (wr.heap[w.heap.size]?=some (.cells #[.slice pn n cn,.slice pl m cl] 25 (0,0))∧wr.heap[w.heap.size+1]?=some (.cells #[.slice none 0 0,.slice none 0 0] 25 (0,0))∧Below w.heap.size w wr)∧w.heap.size+3≤wr.heap.size) (fun i _=>n - (intOf i).toNat)
 case atStart=>exact ⟨0,[],Nat.zero_le _,rfl,⟨rfl,rfl⟩,HKN,(fun x hx=>by cases hx),HBX,by have:=HS1.out;omega⟩
 case round=>
  obtain ⟨k,L,hk,rfl,HL,HK,HO,HB,hsz⟩:=hrel
  by_cases hlt:k < n
  ·obtain ⟨b,off,hp,hl,hr⟩:∃ b off,pn=some ⟨b,off,none⟩∧b < w.heap.size∧NRow w b off ns:=by
    rcases HA.out with h | h
    ·have:=HN.out;rw [h] at this;simp at this;omega
    ·exact h
   subst hp
   obtain ⟨vm,vr,vs,vg,vw,hnd,c0,c1,c2,c3,c4,c5,c6,c7,c8,c9,c10,c11⟩:=(hr.below HB.out.2.2 hl).at (by rw [HN.out];exact hlt)
   have hkl:k < ns.length:=by rw [HN.out];exact hlt
   have HTK:Hid (ns.take (k+1)=ns.take k++[ns.getD k ndZ]):=by
    show _=_
    rw [List.take_add_one,List.getD,List.getElem?_eq_getElem hkl];rfl
   have hsm5:=HSM.out (ns.getD k ndZ) (by rw [List.getD,List.getElem?_eq_getElem hkl];exact List.getElem_mem hkl)
   generalize (ns.getD k ndZ)=nk at *
   have HFR:Hid (∀ W,Below wr.heap.size wr W→Calls Tryz.prog 36 #[.agg (ndA nk vm vr vs vg vw)] W fun e w'=>∃ um ur us ug uw,e=.returned (.agg (ndA nk um ur us ug uw))∧NdOwn W.heap.size w' nk um ur us ug uw∧Below W.heap.size W w'):=fun W hW=>fresh_any nk vm vr vs vg vw W (hnd.below hW) hsm5.1 hsm5.2.1 hsm5.2.2.1 hsm5.2.2.2.1 hsm5.2.2.2.2
   obtain ⟨⟨am,cm,hvm,_,_⟩,⟨ar,cr,hvr,_,_⟩,⟨ax,cx,hvs,_,_⟩,⟨ag,cg,hvg,_,_⟩,⟨aw,cw,hvw,_,_⟩,_,_⟩:=hnd
   subst hvm hvr hvs hvg hvw
   obtain ⟨nm,ct,ms,rs,sv,gw,⟨px,py,pz,ph,pq⟩,wh⟩:=nk
   simp only [ndA] at c0 c1 c2 c3 c4 c5 c6 c7 c8 c9 c10 c11 HFR
   clear hr hsm5 hkl
   have hkn:(k:Int) < n:=by omega
   obtain ⟨W2,hW2⟩:∃ W2,W2=wr.alloc (.cells #[.string nm,.string ct,.slice am ms.length cm,.slice ar rs.length cr,.slice ax sv.length cx,.slice ag gw.length cg,.int .i64 px,.int .i64 py,.int .i64 pz,.int .i64 ph,.int .i64 pq,.slice aw wh.length cw] 51):=⟨_,rfl⟩
   have hb2:Below wr.heap.size wr W2:=by rw [hW2];exact (Below.refl _ _).alloc (Nat.le_refl _) _
   have HX2:Hid (W2.heap[wr.heap.size]?=some (.cells #[.string nm,.string ct,.slice am ms.length cm,.slice ar rs.length cr,.slice ax sv.length cx,.slice ag gw.length cg,.int .i64 px,.int .i64 py,.int .i64 pz,.int .i64 ph,.int .i64 pq,.slice aw wh.length cw] 51 (0,0))):=by rw [hW2];exact heap_alloc_new wr _
   have HB2:Hid (Below wr.heap.size wr W2):=hb2
   clear hb2
   go_upto_region 5 with fail
   rw [← hW2]
   clear hW2 c0 c1 c2 c3 c4 c5 c6 c7 c8 c9 c10 c11
   obtain ⟨d0,d1,d2,d3,d4,d5,d6,d7,d8,d9,d10,d11⟩:=cells12 HX2.out
   go_wp2_with fail
   refine (HFR.out W2 HB2.out).mono ?_
   rintro e w3 ⟨um,ur,us,ug,uw,rfl,ho3,hb3⟩
   have hb03:Below wr.heap.size wr w3:=HB2.out.trans (hb3.mono HB2.out.size)
   have hk3:w3.heap[w.heap.size+2]?=some (.cells (nfl (L++List.replicate (n - k) nx0)).toArray 51 (0,0)):=(hb03.block _ (by omega)).trans HK.out
   have HLL:=HL.out.2
   have hnk:List.replicate (n - k) nx0=nx0 :: List.replicate (n - (k+1)) nx0:=by rw [show n - k=(n - (k+1))+1 by omega,List.replicate_succ]
   have hspl:nfl (L++List.replicate (n - k) nx0)=nfl L++nx0.cs++nfl (List.replicate (n - (k+1)) nx0):=by
    rw [nfl_app,hnk,show nfl (nx0 :: List.replicate (n - (k+1)) nx0)=nx0.cs++nfl (List.replicate (n - (k+1)) nx0) by simp [nfl],List.append_assoc]
   have hlen:(nfl L).length=k * 12:=by rw [nfl_len,HLL]
   rw [hspl] at hk3
   have hz:∀ i,i < 12→w3.cell? ⟨w.heap.size+2,k * 12+i,none⟩=nx0.cs[i]? ∧ w3.frozen? ⟨w.heap.size+2,k * 12+i,none⟩=false:=fun i hi=>by
    refine ⟨?_,by simp [World.frozen?,hk3]⟩
    rw [cellsAt hk3]
    rw [List.getElem?_toArray,List.append_assoc,List.getElem?_append_right (by omega),hlen,Nat.add_sub_cancel_left,List.getElem?_append_left (by rw [ncs_len];omega)]
   have e0:w3.cell? ⟨w.heap.size+2,k * 12,none⟩=some (.string ⟨#[]⟩):=(hz 0 (by omega)).1
   have z0:w3.frozen? ⟨w.heap.size+2,k * 12,none⟩=false:=(hz 0 (by omega)).2
   have e1:w3.cell? ⟨w.heap.size+2,k * 12+1,none⟩=some (.string ⟨#[]⟩):=(hz 1 (by omega)).1
   have z1:w3.frozen? ⟨w.heap.size+2,k * 12+1,none⟩=false:=(hz 1 (by omega)).2
   have e2:w3.cell? ⟨w.heap.size+2,k * 12+2,none⟩=some (.slice none 0 0):=(hz 2 (by omega)).1
   have z2:w3.frozen? ⟨w.heap.size+2,k * 12+2,none⟩=false:=(hz 2 (by omega)).2
   have e3:w3.cell? ⟨w.heap.size+2,k * 12+3,none⟩=some (.slice none 0 0):=(hz 3 (by omega)).1
   have z3:w3.frozen? ⟨w.heap.size+2,k * 12+3,none⟩=false:=(hz 3 (by omega)).2
   have e4:w3.cell? ⟨w.heap.size+2,k * 12+4,none⟩=some (.slice none 0 0):=(hz 4 (by omega)).1
   have z4:w3.frozen? ⟨w.heap.size+2,k * 12+4,none⟩=false:=(hz 4 (by omega)).2
   have e5:w3.cell? ⟨w.heap.size+2,k * 12+5,none⟩=some (.slice none 0 0):=(hz 5 (by omega)).1
   have z5:w3.frozen? ⟨w.heap.size+2,k * 12+5,none⟩=false:=(hz 5 (by omega)).2
   have e6:w3.cell? ⟨w.heap.size+2,k * 12+6,none⟩=some (.int .i64 0):=(hz 6 (by omega)).1
   have z6:w3.frozen? ⟨w.heap.size+2,k * 12+6,none⟩=false:=(hz 6 (by omega)).2
   have e7:w3.cell? ⟨w.heap.size+2,k * 12+7,none⟩=some (.int .i64 0):=(hz 7 (by omega)).1
   have z7:w3.frozen? ⟨w.heap.size+2,k * 12+7,none⟩=false:=(hz 7 (by omega)).2
   have e8:w3.cell? ⟨w.heap.size+2,k * 12+8,none⟩=some (.int .i64 0):=(hz 8 (by omega)).1
   have z8:w3.frozen? ⟨w.heap.size+2,k * 12+8,none⟩=false:=(hz 8 (by omega)).2
   have e9:w3.cell? ⟨w.heap.size+2,k * 12+9,none⟩=some (.int .i64 0):=(hz 9 (by omega)).1
   have z9:w3.frozen? ⟨w.heap.size+2,k * 12+9,none⟩=false:=(hz 9 (by omega)).2
   have e10:w3.cell? ⟨w.heap.size+2,k * 12+10,none⟩=some (.int .i64 0):=(hz 10 (by omega)).1
   have z10:w3.frozen? ⟨w.heap.size+2,k * 12+10,none⟩=false:=(hz 10 (by omega)).2
   have e11:w3.cell? ⟨w.heap.size+2,k * 12+11,none⟩=some (.slice none 0 0):=(hz 11 (by omega)).1
   have z11:w3.frozen? ⟨w.heap.size+2,k * 12+11,none⟩=false:=(hz 11 (by omega)).2
   obtain ⟨bm,em,hum,_⟩:=own_slice ho3.ms
   obtain ⟨br,er,hur,_⟩:=own_slice ho3.rs
   obtain ⟨bx,ex,hus,_⟩:=own_slice ho3.sv
   obtain ⟨bg,eg,hug,_⟩:=own_slice ho3.gw
   obtain ⟨bw,ew,huw,_⟩:=own_slice ho3.wh
   simp only at hum hur hus hug huw
   subst hum hur hus hug huw
   clear hz hspl hnk d0 d1 d2 d3 d4 d5 d6 d7 d8 d9 d10 d11
   obtain ⟨W4,hW4⟩:∃ W4,W4=setAll (w.heap.size+2) [.string nm,.string ct,.slice bm ms.length em,.slice br rs.length er,.slice bx sv.length ex,.slice bg gw.length eg,.int .i64 px,.int .i64 py,.int .i64 pz,.int .i64 ph,.int .i64 pq,.slice bw wh.length ew] (k * 12) w3:=⟨_,rfl⟩
   have HK4:Hid (W4.heap[w.heap.size+2]?=some (.cells (nfl ((L++[⟨⟨nm,ct,ms,rs,sv,gw,⟨px,py,pz,ph,pq⟩,wh⟩,.slice bm ms.length em,.slice br rs.length er,.slice bx sv.length ex,.slice bg gw.length eg,.slice bw wh.length ew⟩])++List.replicate (n - (k+1)) nx0)).toArray 51 (0,0))):=by
    have h:=setAll_mid [.string nm,.string ct,.slice bm ms.length em,.slice br rs.length er,.slice bx sv.length ex,.slice bg gw.length eg,.int .i64 px,.int .i64 py,.int .i64 pz,.int .i64 ph,.int .i64 pq,.slice bw wh.length ew] (nfl L) nx0.cs (nfl (List.replicate (n - (k+1)) nx0)) hk3 rfl
    rw [hlen,← hW4] at h
    rw [nfl_app,nfl_app,nfl_one]
    exact h
   have hoth:∀ q,q≠w.heap.size+2→W4.heap[q]?=w3.heap[q]?:=fun q hq=>by rw [hW4];exact setAll_other hq _ _ _
   have hz4:W4.heap.size=w3.heap.size:=by rw [hW4];exact setAll_size _ _ _ _
   have HO4:Hid (∀ x∈L++[(⟨⟨nm,ct,ms,rs,sv,gw,⟨px,py,pz,ph,pq⟩,wh⟩,.slice bm ms.length em,.slice br rs.length er,.slice bx sv.length ex,.slice bg gw.length eg,.slice bw wh.length ew⟩:Nx)],NdOwn (w.heap.size+3) W4 x.n x.vm x.vr x.vs x.vg x.vw):=fun x hx=>by
    rcases List.mem_append.1 hx with hx | hx
    ·exact ((HO.out x hx).below hb03).keep (fun q hq _=>hoth q (by omega))
    ·rw [List.mem_singleton.1 hx]
     exact (ho3.mono (by have:=HB2.out.size;omega)).keep (fun q hq _=>hoth q (by omega))
   have HB4:Hid (W4.heap[w.heap.size]?=some (.cells #[.slice (some ⟨b,off,none⟩) n cn,.slice pl m cl] 25 (0,0))∧W4.heap[w.heap.size+1]?=some (.cells #[.slice none 0 0,.slice none 0 0] 25 (0,0))∧Below w.heap.size w W4):=⟨(hoth _ (by omega)).trans ((hb03.block _ (by omega)).trans HB.out.1),(hoth _ (by omega)).trans ((hb03.block _ (by omega)).trans HB.out.2.1),by rw [hW4];exact setAll_below (by omega) _ _ (HB.out.2.2.trans (hb03.mono (by omega)))⟩
   have HL4:Hid ((L++[(⟨⟨nm,ct,ms,rs,sv,gw,⟨px,py,pz,ph,pq⟩,wh⟩,.slice bm ms.length em,.slice br rs.length er,.slice bx sv.length ex,.slice bg gw.length eg,.slice bw wh.length ew⟩:Nx)]).map (·.n)=ns.take (k+1)∧(L++[(⟨⟨nm,ct,ms,rs,sv,gw,⟨px,py,pz,ph,pq⟩,wh⟩,.slice bm ms.length em,.slice br rs.length er,.slice bx sv.length ex,.slice bg gw.length eg,.slice bw wh.length ew⟩:Nx)]).length=k+1):=⟨by rw [List.map_append,HL.out.1,HTK.out];rfl,by rw [List.length_append,HLL];rfl⟩
   have hsz4:w.heap.size+3≤W4.heap.size:=by rw [hz4];have:=hb03.size;omega
   clear hoth hz4 hk3 hlen ho3 hb3 hb03 HLL HTK HO HK HL HB HB2 HX2 HFR
   go_upto_region 6 with fail
   simp only [setAll,Nat.add_assoc,Nat.reduceAdd] at hW4
   rw [← hW4]
   clear hW4 e0 e1 e2 e3 e4 e5 e6 e7 e8 e9 e10 e11 z0 z1 z2 z3 z4 z5 z6 z7 z8 z9 z10 z11
   go_wp2_with fail
   exact ⟨⟨k+1,_,by omega,by go_num,HL4,HK4,HO4,HB4,hsz4⟩,by simp [intOf];omega⟩
  ·have hkn:k=n:=by omega
   have hd:decide ((k:Int) < (n:Int))=false:=by simp;omega
   have x2:wr.cell? ⟨w.heap.size,1,none⟩=some (.slice pl m cl):=cellsAt HB.out.1 1
   go_wp2_with fail
   refine (HCL.out wr HB.out.2.2).mono ?_
   rintro e w5 ⟨v',rfl,hol,hb5⟩
   obtain ⟨al,ll,kl,rfl⟩:=slice_of_row hol
   have hg5:w5.heap[w.heap.size+1]?=some (.cells #[.slice none 0 0,.slice none 0 0] 25 (0,0)):=(hb5.block _ (by omega)).trans HB.out.2.1
   obtain ⟨W6,hW6⟩:∃ W6,W6=setAll (w.heap.size+1) [.slice (some ⟨w.heap.size+2,0,none⟩) n n,.slice al ll kl] 0 w5:=⟨_,rfl⟩
   have hg6:W6.heap[w.heap.size+1]?=some (.cells #[.slice (some ⟨w.heap.size+2,0,none⟩) n n,.slice al ll kl] 25 (0,0)):=by rw [hW6];exact setAll_block [.slice (some ⟨w.heap.size+2,0,none⟩) n n,.slice al ll kl] [] [.slice none 0 0,.slice none 0 0] hg5 rfl
   have hoth:∀ q,q≠w.heap.size+1→W6.heap[q]?=w5.heap[q]?:=fun q hq=>by rw [hW6];exact setAll_other hq _ _ _
   have HRES:Hid (∃ un a l c L,Ending.returned (.agg #[.slice (some ⟨w.heap.size+2,0,none⟩) n n,.slice al ll kl])=.returned (.agg #[un,.slice a l c])∧NtOwn w.heap.size W6 ⟨ns,ls⟩ un (.slice a l c) (w.heap.size+2) L∧Below w.heap.size w W6):=by
    have hHK:=HK.out
    rw [show n - k=0 by omega] at hHK
    simp only [List.replicate_zero,List.append_nil] at hHK
    refine ⟨_,_,_,_,L,rfl,⟨by rw [HN.out],by omega,?_,?_,?_,?_⟩,?_⟩
    ·rw [HL.out.1,hkn,← HN.out,List.take_length]
    ·exact (hoth _ (by omega)).trans ((hb5.block _ (by omega)).trans hHK)
    ·exact fun x hx=>((HO.out x hx).below hb5).keep (fun q hq _=>hoth q (by omega))
    ·exact row_keep (fun q hq _=>hoth q (by omega)) (row_mono hol (by omega))
    ·rw [hW6];exact setAll_below (by omega) _ _ (HB.out.2.2.trans (hb5.mono (by omega)))
   have g0:w5.cell? ⟨w.heap.size+1,0,none⟩=some (.slice none 0 0):=cellsAt hg5 0
   have g1:w5.cell? ⟨w.heap.size+1,1,none⟩=some (.slice none 0 0):=cellsAt hg5 1
   have f0:w5.frozen? ⟨w.heap.size+1,0,none⟩=false:=by simp [World.frozen?,hg5]
   have f1:w5.frozen? ⟨w.heap.size+1,1,none⟩=false:=by simp [World.frozen?,hg5]
   have q0:W6.cell? ⟨w.heap.size+1,0,none⟩=some (.slice (some ⟨w.heap.size+2,0,none⟩) n n):=cellsAt hg6 0
   have q1:W6.cell? ⟨w.heap.size+1,1,none⟩=some (.slice al ll kl):=cellsAt hg6 1
   clear hg5 hg6 hoth hol hb5 HB HO HK HL hkn hd x2 HCL
   go_wp2_with fail
   simp only [setAll,Nat.zero_add] at hW6
   rw [← hW6]
   clear hW6 g0 g1 f0 f1
   exact bodyPost_ret (v:=.agg #[.slice (some ⟨w.heap.size+2,0,none⟩) n n,.slice al ll kl]) (by simp [results,Tryz.results18,go_sem,q0,q1]) rfl HRES.out
theorem Nd.e_parts {n:Nd} (h:n.e=0):n.Parts:=by
 unfold Nd.e at h
 split at h
 ·rename_i h0;exact Nd.parts h0
 ·rename_i h0;exact absurd h h0
theorem Nd.e_len {n:Nd} (h:n.e=0):n.ms.length≤1000∧n.rs.length≤1000∧n.sv.length≤1000∧n.gw.length≤1000∧n.wh.length≤1000:=by
 have p:=Nd.e_parts h
 have h1:=(chk_zero p.ms).1
 have h3:=(Sv.chk_zero p.sv).1
 have h4:=(Gw.chk_zero p.gw).1
 have h5:=(Wh.chk_zero p.wh).1
 have h2:n.rs.length≤20:=by
  apply Classical.byContradiction
  intro hh
  have:=chkR_many (rs:=n.rs) (by omega)
  rw [p.rs] at this
  cases this
 omega
theorem Nt.e_zero {t:Nt} (h:t.e=0):t.ns.length≤6∧t.ls.length≤20∧(∀ n∈t.ns,n.e=0)∧ApartN t.ns∧∀ l∈t.ls,ltE t.ns.length l=0:=by
 unfold Nt.e at h
 split at h
 ·cases h
 ·rename_i h0
  split at h
  ·rename_i h1
   unfold chkN at h1
   split at h1
   ·rename_i h2
    split at h1
    ·rename_i h3
     exact ⟨by omega,by omega,fstE_mem _ h2,(apN_iff _).1 h3,fstE_mem _ h⟩
    ·cases h1
   ·rename_i h2;exact absurd h1 h2
  ·rename_i h1;exact absurd h h1
def NetSays (w:World) (te:Int) (t:Nt) (e:Ending) (w':World):Prop:=
 Below w.heap.size w w'∧((te=0∧∃ a l c d m k nb L,e=.returned (.tuple #[.agg #[.slice a l c,.slice d m k],.int .i64 0])∧NtOwn w.heap.size w' t (.slice a l c) (.slice d m k) nb L)∨(te≠0∧e=.returned (.tuple #[.agg #[.slice none 0 0,.slice none 0 0],.int .i64 te])))
set_option maxHeartbeats 6400000 in
set_option maxRecDepth 100000 in
theorem netNew_any (ns:List Nd) (vn:Value) (w:World) (hV:Rv w.heap.size w) (h:NSl w vn ns) :
 Calls Tryz.prog 6 #[vn] w (NetSays w (Nt.mk ns []).e ⟨ns,[]⟩):=by
 have hnil:∀ W:World,Lt.Sl W (.slice none 0 0) []:=fun W=>Lt.own_names (Lt.own_nil W.heap.size W) (fun m hm=>by cases hm)
 have HCK:Hid (∀ W,Below w.heap.size w W→Calls Tryz.prog 11 #[.agg #[vn,.slice none 0 0]] W fun e w'=>e=.returned (.int .i64 (Nt.mk ns []).e)∧Below W.heap.size W w'):=fun W hW=>netCheck_any ⟨ns,[]⟩ vn _ W (hV.after hW) ⟨h.below hW,hnil W⟩ (fun _ l hl=>by cases hl)
 have HCP:Hid ((Nt.mk ns []).e=0→∀ W,Below w.heap.size w W→Calls Tryz.prog 18 #[.agg #[vn,.slice none 0 0]] W fun e w'=>∃ un a l c L,e=.returned (.agg #[un,.slice a l c])∧NtOwn W.heap.size w' ⟨ns,[]⟩ un (.slice a l c) (W.heap.size+2) L∧Below W.heap.size W w'):=fun he W hW=>by
  have hz:=Nt.e_zero he
  exact copied_any ⟨ns,[]⟩ vn _ W ⟨h.below hW,hnil W⟩ hz.1 hz.2.1 (fun n hn=>Nd.e_len (hz.2.2.1 n hn))
 obtain ⟨pn,cn,hvn,_⟩:=h
 subst hvn
 generalize hte:(Nt.mk ns []).e=te at *
 clear hte
 generalize ns.length=n at *
 clear hV hnil
 obtain ⟨W0,hW0⟩:∃ W0,W0=(w.alloc (.cells #[.slice none 0 0,.slice none 0 0] 25)).alloc (.cells #[.slice pn n cn,.slice none 0 0] 25):=⟨_,rfl⟩
 have hb0:Below w.heap.size w W0:=by rw [hW0];exact ((Below.refl _ _).alloc (Nat.le_refl _) _).alloc (by simp) _
 have k0:W0.heap[w.heap.size]?=some (.cells #[.slice none 0 0,.slice none 0 0] 25 (0,0)):=by
  rw [hW0];exact (Lib.alloc_old _ _ _ (by simp)).trans (heap_alloc_new w _)
 have k1:W0.heap[w.heap.size+1]?=some (.cells #[.slice pn n cn,.slice none 0 0] 25 (0,0)):=by
  rw [hW0]
  have:=heap_alloc_new (w.alloc (.cells #[.slice none 0 0,.slice none 0 0] 25)) (.cells #[.slice pn n cn,.slice none 0 0] 25)
  simpa using this
 have HS0:Hid (w.heap.size+2≤W0.heap.size):=by show _≤_;rw [hW0];simp
 have HB0:Hid (Below w.heap.size w W0):=hb0
 have HK:Hid (∀ W,Below W0.heap.size W0 W→W.heap[w.heap.size]?=some (.cells #[.slice none 0 0,.slice none 0 0] 25 (0,0))∧W.heap[w.heap.size+1]?=some (.cells #[.slice pn n cn,.slice none 0 0] 25 (0,0))):=fun W hW=>⟨(hW.block _ (by have:=HS0.out;omega)).trans k0,(hW.block _ (by have:=HS0.out;omega)).trans k1⟩
 have x0:W0.cell? ⟨w.heap.size+1,0,none⟩=some (.slice pn n cn):=cellsAt k1 0
 have x1:W0.cell? ⟨w.heap.size+1,1,none⟩=some (.slice none 0 0):=cellsAt k1 1
 clear hb0 k0 k1
 go_enter Tryz.func6,Tryz.ntmps6
 go_upto_region 2 with fail
 rw [← hW0]
 clear hW0
 go_wp2_with fail
 refine (HCK.out W0 HB0.out).mono ?_
 rintro e w1 ⟨rfl,hb1⟩
 have HB1:Hid (Below W0.heap.size W0 w1):=hb1
 have HBW1:Hid (Below w.heap.size w w1):=HB0.out.trans (hb1.mono HB0.out.size)
 clear hb1 x0 x1 HCK
 by_cases h0:te=0
 ·subst h0
  have hcp:=HCP.out rfl
  clear HCP
  have HCP:Hid _:=hcp
  clear hcp
  have x0:w1.cell? ⟨w.heap.size+1,0,none⟩=some (.slice pn n cn):=cellsAt (HK.out w1 HB1.out).2 0
  have x1:w1.cell? ⟨w.heap.size+1,1,none⟩=some (.slice none 0 0):=cellsAt (HK.out w1 HB1.out).2 1
  go_wp2_with fail
  refine Calls.mono (HCP.out w1 HBW1.out) ?_
  rintro e w2 ⟨un,a,l,c,L,rfl,hown,hb2⟩
  have hun:=hown.un
  subst hun
  have hk2:=(HK.out w2 (HB1.out.trans (hb2.mono HB1.out.size))).1
  obtain ⟨W3,hW3⟩:∃ W3,W3=setAll w.heap.size [.slice (some ⟨w1.heap.size+2,0,none⟩) ns.length ns.length,.slice a l c] 0 w2:=⟨_,rfl⟩
  have hk3:W3.heap[w.heap.size]?=some (.cells #[.slice (some ⟨w1.heap.size+2,0,none⟩) ns.length ns.length,.slice a l c] 25 (0,0)):=by rw [hW3];exact setAll_block [.slice (some ⟨w1.heap.size+2,0,none⟩) ns.length ns.length,.slice a l c] [] [.slice none 0 0,.slice none 0 0] hk2 rfl
  have hoth:∀ q,q≠w.heap.size→W3.heap[q]?=w2.heap[q]?:=fun q hq=>by rw [hW3];exact setAll_other hq _ _ _
  have hw1s:=HBW1.out.size
  have HRES:Hid (NetSays w 0 ⟨ns,[]⟩ (.returned (.tuple #[.agg #[.slice (some ⟨w1.heap.size+2,0,none⟩) ns.length ns.length,.slice a l c],.int .i64 0])) W3):=by
   refine ⟨by rw [hW3];exact setAll_below (Nat.le_refl _) _ _ (HBW1.out.trans (hb2.mono HBW1.out.size)),.inl ⟨rfl,_,_,_,_,_,_,w1.heap.size+2,L,rfl,⟨rfl,by omega,hown.ns,?_,?_,?_⟩⟩⟩
   ·exact (hoth _ (by omega)).trans hown.row
   ·exact fun x hx=>(hown.own x hx).keep (fun q hq _=>hoth q (by omega))
   ·exact row_keep (fun q hq _=>hoth q (by omega)) hown.ls
  have g0:w2.cell? ⟨w.heap.size,0,none⟩=some (.slice none 0 0):=cellsAt hk2 0
  have g1:w2.cell? ⟨w.heap.size,1,none⟩=some (.slice none 0 0):=cellsAt hk2 1
  have f0:w2.frozen? ⟨w.heap.size,0,none⟩=false:=by simp [World.frozen?,hk2]
  have f1:w2.frozen? ⟨w.heap.size,1,none⟩=false:=by simp [World.frozen?,hk2]
  have q0:W3.cell? ⟨w.heap.size,0,none⟩=some (.slice (some ⟨w1.heap.size+2,0,none⟩) ns.length ns.length):=cellsAt hk3 0
  have q1:W3.cell? ⟨w.heap.size,1,none⟩=some (.slice a l c):=cellsAt hk3 1
  clear hk2 hk3 hoth hw1s hown hb2 HK HB1 HBW1 HB0 HS0 x0 x1 HCP
  simp only at HRES hW3 q0 ⊢
  go_wp2_with fail
  simp only [setAll,Nat.zero_add] at hW3
  rw [← hW3]
  clear hW3 g0 g1 f0 f1
  exact bodyPost_ret (v:=.tuple #[.agg #[.slice (some ⟨w1.heap.size+2,0,none⟩) ns.length ns.length,.slice a l c],.int .i64 0]) (by simp [results,Tryz.results6,go_sem,q0,q1]) rfl HRES.out
 ·have he:(te != 0)=true:=by simpa using h0
  have hk1:=(HK.out w1 HB1.out).1
  obtain ⟨W3,hW3⟩:∃ W3,W3=setAll w.heap.size [.slice none 0 0,.slice none 0 0] 0 w1:=⟨_,rfl⟩
  have hk3:W3.heap[w.heap.size]?=some (.cells #[.slice none 0 0,.slice none 0 0] 25 (0,0)):=by rw [hW3];exact setAll_block [.slice none 0 0,.slice none 0 0] [] [.slice none 0 0,.slice none 0 0] hk1 rfl
  have HRES:Hid (NetSays w te ⟨ns,[]⟩ (.returned (.tuple #[.agg #[.slice none 0 0,.slice none 0 0],.int .i64 te])) W3):=⟨by rw [hW3];exact setAll_below (Nat.le_refl _) _ _ HBW1.out,.inr ⟨h0,rfl⟩⟩
  have g0:w1.cell? ⟨w.heap.size,0,none⟩=some (.slice none 0 0):=cellsAt hk1 0
  have g1:w1.cell? ⟨w.heap.size,1,none⟩=some (.slice none 0 0):=cellsAt hk1 1
  have f0:w1.frozen? ⟨w.heap.size,0,none⟩=false:=by simp [World.frozen?,hk1]
  have f1:w1.frozen? ⟨w.heap.size,1,none⟩=false:=by simp [World.frozen?,hk1]
  have q0:W3.cell? ⟨w.heap.size,0,none⟩=some (.slice none 0 0):=cellsAt hk3 0
  have q1:W3.cell? ⟨w.heap.size,1,none⟩=some (.slice none 0 0):=cellsAt hk3 1
  clear hk1 hk3 HK HB1 HBW1 HB0 HS0 HCP h0
  go_wp2_with fail
  simp only [setAll,Nat.zero_add] at hW3
  rw [← hW3]
  clear hW3 g0 g1 f0 f1
  exact bodyPost_ret (v:=.tuple #[.agg #[.slice none 0 0,.slice none 0 0],.int .i64 te]) (by simp [results,Tryz.results6,go_sem,q0,q1]) rfl HRES.out
set_option maxHeartbeats 25600000 in
set_option maxRecDepth 100000 in
theorem sameNet0_any (ns:List Nd) (va vb:Value) (pl pk:Option Addr) (cl ck:Nat) (w:World) (h1:NSl w va ns) (h2:NSl w vb ns) (hs:∀ n∈ns,n.Small) (hn6:ns.length≤6) :
 Calls Tryz.prog 20 #[.agg #[va,.slice pl 0 cl],.agg #[vb,.slice pk 0 ck]] w fun e w'=>e=.returned (.bool true)∧Below w.heap.size w w':=by
 obtain ⟨pa,ca,hva,ha⟩:=h1
 obtain ⟨pb,cb,hvb,hb⟩:=h2
 subst hva hvb
 have HA:Hid (ns=[]∨∃ b off,pa=some ⟨b,off,none⟩∧b < w.heap.size∧NRow w b off ns):=ha
 have HB:Hid (ns=[]∨∃ b off,pb=some ⟨b,off,none⟩∧b < w.heap.size∧NRow w b off ns):=hb
 have HSM:Hid (∀ n∈ns,n.Small):=hs
 clear ha hb hs
 generalize hN:ns.length=n at *
 have HN:Hid (ns.length=n):=hN
 clear hN
 obtain ⟨W0,hW0⟩:∃ W0,W0=(w.alloc (.cells #[.slice pa n ca,.slice pl 0 cl] 25)).alloc (.cells #[.slice pb n cb,.slice pk 0 ck] 25):=⟨_,rfl⟩
 have hb0:Below w.heap.size w W0:=by rw [hW0];exact ((Below.refl _ _).alloc (Nat.le_refl _) _).alloc (by simp) _
 have k0:W0.heap[w.heap.size]?=some (.cells #[.slice pa n ca,.slice pl 0 cl] 25 (0,0)):=by
  rw [hW0];exact (Lib.alloc_old _ _ _ (by simp)).trans (heap_alloc_new w _)
 have k1:W0.heap[w.heap.size+1]?=some (.cells #[.slice pb n cb,.slice pk 0 ck] 25 (0,0)):=by
  rw [hW0]
  have:=heap_alloc_new (w.alloc (.cells #[.slice pa n ca,.slice pl 0 cl] 25)) (.cells #[.slice pb n cb,.slice pk 0 ck] 25)
  simpa using this
 have HB0:Hid (Below w.heap.size w W0):=hb0
 have HK:Hid (∀ W,Below W0.heap.size W0 W→(W.cell? ⟨w.heap.size,0,none⟩=some (.slice pa n ca)∧W.cell? ⟨w.heap.size,1,none⟩=some (.slice pl 0 cl))∧W.cell? ⟨w.heap.size+1,0,none⟩=some (.slice pb n cb)∧W.cell? ⟨w.heap.size+1,1,none⟩=some (.slice pk 0 ck)):=fun W hW=>by
  have e:=(hW.block _ (Array.getElem?_eq_some_iff.1 k0).1).trans k0
  have e':=(hW.block _ (Array.getElem?_eq_some_iff.1 k1).1).trans k1
  exact ⟨⟨cellsAt e 0,cellsAt e 1⟩,cellsAt e' 0,cellsAt e' 1⟩
 obtain ⟨⟨x0,x1⟩,x2,x3⟩:=HK.out W0 (Below.refl _ _)
 clear k0 k1 hb0
 go_enter Tryz.func20,Tryz.ntmps20
 go_upto_region 1 with fail
 rw [← hW0]
 clear hW0
 go_wp2_with fail
 clear x0 x1 x2 x3
 go_loopw [5] (fun i wr=>∃ k:Nat,k≤n∧i=.int .i64 k∧Hid (Below W0.heap.size W0 wr)) (fun i _=>n - (intOf i).toNat)
 case atStart=>exact ⟨0,Nat.zero_le _,rfl,Below.refl _ _⟩
 case round=>
  obtain ⟨k,hk,rfl,HBR⟩:=hrel
  obtain ⟨⟨x0,x1⟩,x2,x3⟩:=HK.out wr HBR.out
  by_cases hlt:k < n
  ·obtain ⟨b1,o1,hp1,hl1,hr1⟩:∃ b off,pa=some ⟨b,off,none⟩∧b < w.heap.size∧NRow w b off ns:=by
    rcases HA.out with h | h
    ·have:=HN.out;rw [h] at this;simp at this;omega
    ·exact h
   obtain ⟨b2,o2,hp2,hl2,hr2⟩:∃ b off,pb=some ⟨b,off,none⟩∧b < w.heap.size∧NRow w b off ns:=by
    rcases HB.out with h | h
    ·have:=HN.out;rw [h] at this;simp at this;omega
    ·exact h
   subst hp1 hp2
   have hbw:Below w.heap.size w wr:=HB0.out.trans (HBR.out.mono HB0.out.size)
   have hkl:k < ns.length:=by rw [HN.out];exact hlt
   obtain ⟨vm,vr,vs,vg,vw,hnd,c0,c1,c2,c3,c4,c5,c6,c7,c8,c9,c10,c11⟩:=(hr1.below hbw hl1).at hkl
   obtain ⟨um,ur,us,ug,uw,hne,d0,d1,d2,d3,d4,d5,d6,d7,d8,d9,d10,d11⟩:=(hr2.below hbw hl2).at hkl
   have hsm:=HSM.out (ns.getD k ndZ) (by rw [List.getD,List.getElem?_eq_getElem hkl];exact List.getElem_mem hkl)
   generalize (ns.getD k ndZ)=nk at *
   have hSN:∀ W,Below wr.heap.size wr W→Calls Tryz.prog 40 #[.agg (ndA nk vm vr vs vg vw),.agg (ndA nk um ur us ug uw)] W fun e w'=>e=.returned (.bool true)∧Below W.heap.size W w':=fun W hW=>sameNode_any nk _ _ W (isNd (hnd.below hW)) (isNd (hne.below hW)) hsm
   obtain ⟨⟨am,acm,hvm,_,_⟩,⟨ar,acr,hvr,_,_⟩,⟨ax,acx,hvs,_,_⟩,⟨ag,acg,hvg,_,_⟩,⟨aw,acw,hvw,_,_⟩,_,_⟩:=hnd
   obtain ⟨⟨bm,bcm,hum,_,_⟩,⟨br,bcr,hur,_,_⟩,⟨bx,bcx,hus,_,_⟩,⟨bg,bcg,hug,_,_⟩,⟨bw,bcw,huw,_,_⟩,_,_⟩:=hne
   subst hvm hvr hvs hvg hvw hum hur hus hug huw
   obtain ⟨nm,ct,ms,rs,sv,gw,⟨px,py,pz,ph,pq⟩,wh⟩:=nk
   simp only [ndA] at c0 c1 c2 c3 c4 c5 c6 c7 c8 c9 c10 c11 d0 d1 d2 d3 d4 d5 d6 d7 d8 d9 d10 d11 hSN
   generalize ms.length=nms at *
   generalize rs.length=nrs at *
   generalize sv.length=nsv at *
   generalize gw.length=ngw at *
   generalize wh.length=nwh at *
   have hN:∀ d os,Calls Tryz.prog 40 #[.agg #[.string nm,.string ct,.slice am nms acm,.slice ar nrs acr,.slice ax nsv acx,.slice ag ngw acg,.int .i64 px,.int .i64 py,.int .i64 pz,.int .i64 ph,.int .i64 pq,.slice aw nwh acw],.agg #[.string nm,.string ct,.slice bm nms bcm,.slice br nrs bcr,.slice bx nsv bcx,.slice bg ngw bcg,.int .i64 px,.int .i64 py,.int .i64 pz,.int .i64 ph,.int .i64 pq,.slice bw nwh bcw]] (Go.Sort.grow (redrawn wr d) os) fun e w''=>e=.returned (.bool true)∧∃ p:Regrown,w''=Go.Sort.grow (redrawn wr p.d) p.os:=fun d os=>Calls.regrown_of (hSN _ (below_regrown wr d os))
   have F0:∀ d os,(Go.Sort.grow (redrawn wr d) os).cell? ⟨b1,o1+k * 12,none⟩=some (.string nm):=cell_regrown c0
   have G0:∀ d os,(Go.Sort.grow (redrawn wr d) os).cell? ⟨b2,o2+k * 12,none⟩=some (.string nm):=cell_regrown d0
   have F1:∀ d os,(Go.Sort.grow (redrawn wr d) os).cell? ⟨b1,o1+k * 12+1,none⟩=some (.string ct):=cell_regrown c1
   have G1:∀ d os,(Go.Sort.grow (redrawn wr d) os).cell? ⟨b2,o2+k * 12+1,none⟩=some (.string ct):=cell_regrown d1
   have F2:∀ d os,(Go.Sort.grow (redrawn wr d) os).cell? ⟨b1,o1+k * 12+2,none⟩=some (.slice am nms acm):=cell_regrown c2
   have G2:∀ d os,(Go.Sort.grow (redrawn wr d) os).cell? ⟨b2,o2+k * 12+2,none⟩=some (.slice bm nms bcm):=cell_regrown d2
   have F3:∀ d os,(Go.Sort.grow (redrawn wr d) os).cell? ⟨b1,o1+k * 12+3,none⟩=some (.slice ar nrs acr):=cell_regrown c3
   have G3:∀ d os,(Go.Sort.grow (redrawn wr d) os).cell? ⟨b2,o2+k * 12+3,none⟩=some (.slice br nrs bcr):=cell_regrown d3
   have F4:∀ d os,(Go.Sort.grow (redrawn wr d) os).cell? ⟨b1,o1+k * 12+4,none⟩=some (.slice ax nsv acx):=cell_regrown c4
   have G4:∀ d os,(Go.Sort.grow (redrawn wr d) os).cell? ⟨b2,o2+k * 12+4,none⟩=some (.slice bx nsv bcx):=cell_regrown d4
   have F5:∀ d os,(Go.Sort.grow (redrawn wr d) os).cell? ⟨b1,o1+k * 12+5,none⟩=some (.slice ag ngw acg):=cell_regrown c5
   have G5:∀ d os,(Go.Sort.grow (redrawn wr d) os).cell? ⟨b2,o2+k * 12+5,none⟩=some (.slice bg ngw bcg):=cell_regrown d5
   have F6:∀ d os,(Go.Sort.grow (redrawn wr d) os).cell? ⟨b1,o1+k * 12+6,none⟩=some (.int .i64 px):=cell_regrown c6
   have G6:∀ d os,(Go.Sort.grow (redrawn wr d) os).cell? ⟨b2,o2+k * 12+6,none⟩=some (.int .i64 px):=cell_regrown d6
   have F7:∀ d os,(Go.Sort.grow (redrawn wr d) os).cell? ⟨b1,o1+k * 12+7,none⟩=some (.int .i64 py):=cell_regrown c7
   have G7:∀ d os,(Go.Sort.grow (redrawn wr d) os).cell? ⟨b2,o2+k * 12+7,none⟩=some (.int .i64 py):=cell_regrown d7
   have F8:∀ d os,(Go.Sort.grow (redrawn wr d) os).cell? ⟨b1,o1+k * 12+8,none⟩=some (.int .i64 pz):=cell_regrown c8
   have G8:∀ d os,(Go.Sort.grow (redrawn wr d) os).cell? ⟨b2,o2+k * 12+8,none⟩=some (.int .i64 pz):=cell_regrown d8
   have F9:∀ d os,(Go.Sort.grow (redrawn wr d) os).cell? ⟨b1,o1+k * 12+9,none⟩=some (.int .i64 ph):=cell_regrown c9
   have G9:∀ d os,(Go.Sort.grow (redrawn wr d) os).cell? ⟨b2,o2+k * 12+9,none⟩=some (.int .i64 ph):=cell_regrown d9
   have F10:∀ d os,(Go.Sort.grow (redrawn wr d) os).cell? ⟨b1,o1+k * 12+10,none⟩=some (.int .i64 pq):=cell_regrown c10
   have G10:∀ d os,(Go.Sort.grow (redrawn wr d) os).cell? ⟨b2,o2+k * 12+10,none⟩=some (.int .i64 pq):=cell_regrown d10
   have F11:∀ d os,(Go.Sort.grow (redrawn wr d) os).cell? ⟨b1,o1+k * 12+11,none⟩=some (.slice aw nwh acw):=cell_regrown c11
   have G11:∀ d os,(Go.Sort.grow (redrawn wr d) os).cell? ⟨b2,o2+k * 12+11,none⟩=some (.slice bw nwh bcw):=cell_regrown d11
   have H0:∀ d os,(Go.Sort.grow (redrawn wr d) os).cell? ⟨w.heap.size,0,none⟩=some (.slice (some ⟨b1,o1,none⟩) n ca):=cell_regrown x0
   have H1:∀ d os,(Go.Sort.grow (redrawn wr d) os).cell? ⟨w.heap.size+1,0,none⟩=some (.slice (some ⟨b2,o2,none⟩) n cb):=cell_regrown x2
   have hwq:IntKind.i64.wrap (k:Int)=(k:Int):=by rw [IntKind.wrap_i64];omega
   have hq0:(0:Int)≤(k:Int):=by omega
   have hq1:(k:Int) < (n:Int):=by omega
   have hq2:((k:Int)).toNat=k:=by omega
   have hd:decide ((k:Int) < (n:Int))=true:=by simp;omega
   clear c0 d0 c1 d1 c2 d2 c3 d3 c4 d4 c5 d5 c6 d6 c7 d7 c8 d8 c9 d9 c10 d10 c11 d11 hr1 hr2 hSN hbw hkl
   go_wp2_with fail
   refine wp_region_quiet_below (by kernel_rfl) (by kernel_rfl) ?_
   repeat (quiet_step (exact hN _ _))
   refine wpQuiet_nil ?_
   intro _ hw'
   obtain ⟨⟨dq,osq⟩,hw''⟩:=hw'
   subst hw''
   have hbq:Below wr.heap.size wr (Go.Sort.grow (redrawn wr dq) osq):=below_regrown wr dq osq
   clear hN H0 H1 F0 G0 F1 G1 F2 G2 F3 G3 F4 G4 F5 G5 F6 G6 F7 G7 F8 G8 F9 G9 F10 G10 F11 G11
   generalize Go.Sort.grow (redrawn wr dq) osq=wz at *
   have HBZ:Hid (Below W0.heap.size W0 wz):=HBR.out.trans (hbq.mono HBR.out.size)
   clear hbq
   go_wp2_with fail
   exact ⟨⟨k+1,by omega,by go_num,HBZ⟩,by simp [intOf];omega⟩
  ·have hd:decide ((k:Int) < (n:Int))=false:=by simp;omega
   go_wp2_with fail
   clear x0 x1 x2 x3
   go_loopw [6] (fun i wr=>i=.int .i64 0∧Hid (Below W0.heap.size W0 wr)) (fun _ _=>0)
   case atStart=>exact ⟨rfl,HBR⟩
   case round=>
    obtain ⟨rfl,HB4⟩:=hrel
    obtain ⟨⟨x0,x1⟩,x2,x3⟩:=HK.out _ HB4.out
    go_wp2_with fail
    go_ret
    exact ⟨rfl,HB0.out.trans (HB4.out.mono HB0.out.size)⟩
set_option maxHeartbeats 12800000 in
set_option maxRecDepth 100000 in
theorem netIs0_ok (ns:List Nd) (va vb:Value) (pl pk:Option Addr) (cl ck:Nat) (w:World) (h1:NSl w va ns) (h2:NSl w vb ns) (hs:∀ n∈ns,n.Small) (hn6:ns.length≤6) :
 Calls Tryz.prog 8 #[.agg #[va,.slice pl 0 cl],.int .i64 0,.int .i64 0,.agg #[vb,.slice pk 0 ck]] w fun e w'=>e=.returned (.bool true)∧Below w.heap.size w w':=by
 have HSN:Hid (∀ W,Below w.heap.size w W→Calls Tryz.prog 20 #[.agg #[va,.slice pl 0 cl],.agg #[vb,.slice pk 0 ck]] W fun e w'=>e=.returned (.bool true)∧Below W.heap.size W w'):=fun W hW=>
  sameNet0_any ns va vb pl pk cl ck W (h1.below hW) (h2.below hW) hs hn6
 obtain ⟨pa,ca,rfl,_⟩:=h1
 obtain ⟨pb,cb,rfl,_⟩:=h2
 clear hs hn6
 generalize ns.length=na at *
 obtain ⟨W0,hW0⟩:∃ W0,W0=(w.alloc (.cells #[.slice pa na ca,.slice pl 0 cl] 25)).alloc (.cells #[.slice pb na cb,.slice pk 0 ck] 25):=⟨_,rfl⟩
 have hb0:Below w.heap.size w W0:=by rw [hW0];exact ((Below.refl _ _).alloc (Nat.le_refl _) _).alloc (by simp) _
 have k0:W0.heap[w.heap.size]?=some (.cells #[.slice pa na ca,.slice pl 0 cl] 25 (0,0)):=by
  rw [hW0];exact (Lib.alloc_old _ _ _ (by simp)).trans (heap_alloc_new w _)
 have k1:W0.heap[w.heap.size+1]?=some (.cells #[.slice pb na cb,.slice pk 0 ck] 25 (0,0)):=by
  rw [hW0]
  have:=heap_alloc_new (w.alloc (.cells #[.slice pa na ca,.slice pl 0 cl] 25)) (.cells #[.slice pb na cb,.slice pk 0 ck] 25)
  simpa using this
 have HC:=HSN.out W0 hb0
 have HB0:Hid (Below w.heap.size w W0):=hb0
 have x0:W0.cell? ⟨w.heap.size,0,none⟩=_:=cellsAt k0 0
 have x1:W0.cell? ⟨w.heap.size,1,none⟩=_:=cellsAt k0 1
 have x2:W0.cell? ⟨w.heap.size+1,0,none⟩=_:=cellsAt k1 0
 have x3:W0.cell? ⟨w.heap.size+1,1,none⟩=_:=cellsAt k1 1
 clear k0 k1 hb0 HSN
 go_enter Tryz.func8,Tryz.ntmps8
 go_upto_region 3 with fail
 rw [← hW0]
 clear hW0
 go_wp2_with fail
 refine HC.mono ?_
 rintro e w1 ⟨rfl,hb1⟩
 have HB1:Hid (Below w.heap.size w w1):=HB0.out.trans (hb1.mono HB0.out.size)
 clear hb1
 go_wp2_with fail
 go_ret
 exact ⟨rfl,HB1.out⟩
theorem nslNil (w:World):NSl w (.slice none 0 0) []:=⟨none,0,rfl,.inl rfl⟩
set_option maxHeartbeats 12800000 in
set_option maxRecDepth 100000 in
theorem netIs0_err (er:Int) (he:er≠0) (pb pk:Option Addr) (nb cb kk ck:Nat) (w:World) :
 Calls Tryz.prog 8 #[.agg #[.slice none 0 0,.slice none 0 0],.int .i64 er,.int .i64 er,.agg #[.slice pb nb cb,.slice pk kk ck]] w fun e w'=>e=.returned (.bool true)∧Below w.heap.size w w':=by
 obtain ⟨W1,hW1⟩:∃ W1,W1=(w.alloc (.cells #[.slice none 0 0,.slice none 0 0] 25)).alloc (.cells #[.slice none 0 0,.slice none 0 0] 25):=⟨_,rfl⟩
 have hb1:Below w.heap.size w W1:=by rw [hW1];exact ((Below.refl _ _).alloc (Nat.le_refl _) _).alloc (by simp) _
 have hE:(er != 0)=true:=by simpa using he
 have HC:=sameNet0_any [] (.slice none 0 0) (.slice none 0 0) none none 0 0 W1 (nslNil _) (nslNil _) (fun _ h=>by cases h) (by simp)
 have HB1:Hid (Below w.heap.size w W1):=hb1
 clear he hb1
 go_enter Tryz.func8,Tryz.ntmps8
 go_wp2_with fail
 rw [← hW1]
 refine HC.mono ?_
 rintro e w1 ⟨rfl,hb2⟩
 have HB2:Hid (Below w.heap.size w w1):=HB1.out.trans (hb2.mono HB1.out.size)
 clear hb2 hW1
 go_wp2_with fail
 go_ret
 exact ⟨rfl,HB2.out⟩
theorem NSl.ok {w:World} {v:Value} {ns:List Nd} (h:NSl w v ns):∀ n∈ns,NdOk n:=fun n hn=>by
 obtain ⟨a,cap,_,h⟩:=h
 rcases h with h | ⟨b,off,_,_,hr⟩
 ·subst h;cases hn
 ·obtain ⟨j,hj,rfl⟩:=List.mem_iff_getElem.1 hn
  obtain ⟨vm,vr,vs,vg,vw,h1,_⟩:=hr j hj
  rw [List.getD,List.getElem?_eq_getElem hj] at h1
  exact h1.ok
theorem NtOwn.row_at {B nb:Nat} {w:World} {t:Nt} {un ul:Value} {L:List Nx} (h:NtOwn B w t un ul nb L) (hk:∀ n∈t.ns,NdOk n):NRow w nb 0 t.ns:=fun j hj=>by
 have hl:L.length=t.ns.length:=by rw [← h.ns,List.length_map]
 have hjL:j < L.length:=by omega
 have hx:L.getD j nx0∈L:=by rw [List.getD,List.getElem?_eq_getElem hjL];exact List.getElem_mem hjL
 have hn:(L.getD j nx0).n=t.ns.getD j ndZ:=by
  rw [← h.ns,List.getD,List.getD,List.getElem?_map,List.getElem?_eq_getElem hjL];rfl
 have hm:t.ns.getD j ndZ∈t.ns:=by rw [List.getD,List.getElem?_eq_getElem hj];exact List.getElem_mem hj
 have ho:=h.own _ hx
 have hg:=fun i hi=>nfl_get L j hjL i hi
 have hr:=h.row
 generalize L.getD j nx0=x at *
 obtain ⟨xn,vm,vr,vs,vg,vw⟩:=x
 simp only at hn ho
 subst hn
 refine ⟨vm,vr,vs,vg,vw,ho.is (hk _ hm),fun i hi=>?_⟩
 have hgi:=hg i hi
 have hlt:i < (ndA (t.ns.getD j ndZ) vm vr vs vg vw).size:=hi
 have hc:=cellsAt hr (0+j * 12+i)
 rw [hc]
 simpa [Nx.cs] using hgi
theorem NtOwn.sl {B nb:Nat} {w:World} {t:Nt} {un ul:Value} {L:List Nx} (h:NtOwn B w t un ul nb L) (hk:∀ n∈t.ns,NdOk n):NSl w un t.ns:=by
 have hb:nb < w.heap.size:=(Array.getElem?_eq_some_iff.1 h.row).1
 exact ⟨_,_,h.un,.inr ⟨nb,0,rfl,hb,h.row_at hk⟩⟩
set_option maxHeartbeats 6400000 in
set_option maxRecDepth 100000 in
theorem there2 (g n:Nat) (a:Option Addr) (cap:Nat) (x y:Int) (w:World) (h0:w.cell? ⟨g,0,none⟩=some (.slice a n cap)) (h2:w.cell? ⟨g,2,none⟩=some (.int .i64 2)) (h3:w.cell? ⟨g,3,none⟩=some (.int .i64 x)) (h4:w.cell? ⟨g,4,none⟩=some (.int .i64 y)) (hn:n≤6) (hx:within x 0 ((n:Int) - 1)=true) (hy:within y 0 ((n:Int) - 1)=true) :
 Calls Tryz.prog 69 #[.pointer (some ⟨g,0,none⟩)] w fun e w'=>e=.returned (.bool true)∧Below w.heap.size w w':=by
 have hgl:g < w.heap.size:=World.block_lt_of_cell? w _ h0
 have H1:Hid (Calls Tryz.prog 84 #[.pointer (some ⟨g,0,none⟩),.int .i64 x] w fun e w'=>e=.returned (.bool true)∧Below w.heap.size w w'):=by
  have:=isNode_any g n a cap x w h0 hn
  rw [hx] at this;exact this
 have H2:Hid (∀ W:World,Below w.heap.size w W→Calls Tryz.prog 84 #[.pointer (some ⟨g,0,none⟩),.int .i64 y] W fun e w'=>e=.returned (.bool true)∧Below W.heap.size W w'):=fun W hW=>by
  have:=isNode_any g n a cap y W ((hW.cell (p:=⟨g,0,none⟩) hgl).trans h0) hn
  rw [hy] at this;exact this
 clear hx hy hn
 go_enter Tryz.func69,Tryz.ntmps69
 go_wp2_with fail
 refine H1.out.mono ?_
 rintro e w1 ⟨rfl,hb1⟩
 have HB1:Hid (Below w.heap.size w w1):=hb1
 have g4:w1.cell? ⟨g,4,none⟩=some (.int .i64 y):=(hb1.cell (p:=⟨g,4,none⟩) hgl).trans h4
 clear hb1 hgl
 go_wp2_with fail
 refine (H2.out w1 HB1.out).mono ?_
 rintro e w2 ⟨rfl,hb2⟩
 have HB2:Hid (Below w.heap.size w w2):=HB1.out.trans (hb2.mono HB1.out.size)
 clear hb2
 go_wp2_with fail
 go_ret
 exact ⟨rfl,HB2.out⟩
set_option maxHeartbeats 6400000 in
set_option maxRecDepth 100000 in
theorem there3 (g m:Nat) (a:Option Addr) (cap:Nat) (x:Int) (w:World) (h1:w.cell? ⟨g,1,none⟩=some (.slice a m cap)) (h2:w.cell? ⟨g,2,none⟩=some (.int .i64 3)) (h3:w.cell? ⟨g,3,none⟩=some (.int .i64 x)) (hm:m≤20) (hx:within x 0 ((m:Int) - 1)=true) :
 Calls Tryz.prog 69 #[.pointer (some ⟨g,0,none⟩)] w fun e w'=>e=.returned (.bool true)∧Below w.heap.size w w':=by
 have hz:IntKind.i64.wrap ((m:Int) - 1)=(m:Int) - 1:=by rw [IntKind.wrap_i64];omega
 have HX:Hid (within x 0 ((m:Int) - 1)=true):=hx
 have HWI:Hid (∀ W:World,Calls Tryz.prog 76 #[.int .i64 x,.int .i64 0,.int .i64 ((m:Int) - 1)] W fun e w'=>e=.returned (.bool true)∧w'=W):=fun W=>by
  refine (within_any x 0 ((m:Int) - 1) W).mono ?_
  rintro e w' ⟨rfl,rfl⟩
  exact ⟨by rw [HX.out],rfl⟩
 clear hx
 go_enter Tryz.func69,Tryz.ntmps69
 go_wp2_with fail
 have F1:∀ d os,(Go.Sort.grow (redrawn w d) os).cell? ⟨g,1,none⟩=some (.slice a m cap):=cell_regrown h1
 have F3:∀ d os,(Go.Sort.grow (redrawn w d) os).cell? ⟨g,3,none⟩=some (.int .i64 x):=cell_regrown h3
 have C0:∀ d os,Calls Tryz.prog 76 #[.int .i64 x,.int .i64 0,.int .i64 ((m:Int) - 1)] (Go.Sort.grow (redrawn w d) os) fun e w''=>e=.returned (.bool true)∧∃ p:Regrown,w''=Go.Sort.grow (redrawn w p.d) p.os:=fun d os=>Calls.regrown_of ((HWI.out _).mono (fun e w' h=>⟨h.1,by rw [h.2];exact Below.refl _ _⟩))
 refine wp_region_quiet_below (by kernel_rfl) (by kernel_rfl) ?_
 repeat (quiet_step (exact C0 _ _))
 refine wpQuiet_nil ?_
 intro _ hw'
 obtain ⟨⟨dq,osq⟩,hw''⟩:=hw'
 subst hw''
 have HBQ:Hid (Below w.heap.size w (Go.Sort.grow (redrawn w dq) osq)):=below_regrown w dq osq
 clear C0 F1 F3
 go_wp2_with fail
 go_ret
 exact ⟨rfl,HBQ.out⟩
end Go.Proofs.YtffdoiokmiklgaaGreatDoor
