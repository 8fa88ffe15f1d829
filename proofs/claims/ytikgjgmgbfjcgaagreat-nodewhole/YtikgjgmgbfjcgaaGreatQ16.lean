import Derived.Test.YtikgjgmgbfjcgaaGreatQ10
import Derived.Deep.RegionHeld3
import Derived.Test.YtikgjgmgbfjcgaaGreatQ4
import Derived.Deep.RegionHeld
import Derived.Deep.RegionLaw
import Derived.Laws.OwnMore
namespace Go.Proofs.YtikgjgmgbfjcgaaGreat
open Go.RowKit
def Rum.cs (r:Rum):List Value:=[.string r.m.name,.int .i64 r.m.state,.int .i64 r.m.life,.int .i64 r.m.addr,.bool r.m.server,.int .i64 r.told]
def flR (rs:List Rum):List Value:=rs.flatMap Rum.cs
theorem rcs_len (r:Rum):r.cs.length=6:=rfl
theorem flR_cons (m:Rum) (r:List Rum):flR (m :: r)=m.cs++flR r:=by simp [flR]
theorem flR_append (a b:List Rum):flR (a++b)=flR a++flR b:=by simp [flR]
theorem flR_len:∀ ms:List Rum,(flR ms).length=ms.length * 6
 | []=>rfl
 | m :: r=>by rw [flR_cons,List.length_append,flR_len r,rcs_len,List.length_cons];omega
theorem flR_take:∀ (ms:List Rum) (i:Nat),(flR ms).take (i * 6)=flR (ms.take i)
 | [],i=>by simp [flR]
 | m :: r,0=>by simp [flR]
 | m :: r,i+1=>by
   rw [flR_cons,List.take_succ_cons,flR_cons,show (i+1) * 6=m.cs.length+i * 6 by rw [rcs_len];omega,List.take_length_add_append,flR_take r i]
theorem flR_drop:∀ (ms:List Rum) (i:Nat),(flR ms).drop (i * 6)=flR (ms.drop i)
 | [],i=>by simp [flR]
 | m :: r,0=>by simp
 | m :: r,i+1=>by
   rw [flR_cons,List.drop_succ_cons,show (i+1) * 6=m.cs.length+i * 6 by rw [rcs_len];omega,List.drop_length_add_append,flR_drop r i]
theorem rcs_one (m:Rum):∀ v∈m.cs,v.oneCell'=true:=by
 intro v hv;simp [Rum.cs] at hv;rcases hv with rfl | rfl | rfl | rfl | rfl | rfl<;>rfl
theorem flR_one (ms:List Rum):∀ v∈flR ms,v.oneCell'=true:=by
 intro v hv
 obtain ⟨m,_,h⟩:=List.mem_flatMap.1 hv
 exact rcs_one m v h
theorem flR_get (ms:List Rum) (j:Nat) (hj:j < ms.length) (t:Nat) (ht:t < 6):(flR ms)[j * 6+t]?=(ms.getD j dr).cs[t]?:=by
 induction ms generalizing j with
 | nil=>simp at hj
 | cons m r ih=>
   rw [flR_cons]
   cases j with
   | zero=>rw [List.getElem?_append_left (by rw [rcs_len];omega)];simp
   | succ j=>
     rw [List.getElem?_append_right (by rw [rcs_len];omega),rcs_len,show (j+1) * 6+t - 6=j * 6+t by omega,ih j (by simpa using hj)]
     simp
abbrev ROwn (base:Nat) (w:World) (v:Value) (ms:List Rum):Prop:=w.ownsRow base 82 6 v ms.length (flR ms)
theorem rown_nil (base:Nat) (w:World):ROwn base w (.slice none 0 0) []:=World.ownsRow_nil w base 82 6
theorem rown_snoc {base:Nat} {w:World} {v:Value} {L:List Rum} {m:Rum} (h:w.ownsRow base 82 6 v (L.length+1) (flR L++m.cs)):ROwn base w v (L++[m]):=by
 have e:flR (L++[m])=flR L++m.cs:=by rw [flR_append,flR_cons];simp [flR]
 show w.ownsRow base 82 6 v (L++[m]).length (flR (L++[m]))
 rw [e,List.length_append]
 exact h
theorem rns_get {rs:List Rum} (h:∀ r∈rs,r.m.name.size≤maxLen):∀ j,(rs.getD j dr).m.name.size≤maxLen:=fun j=>by
 by_cases hj:j < rs.length
 ·rw [show rs.getD j dr=rs[j] by simp [List.getD,List.getElem?_eq_getElem hj]]
  exact h _ (List.getElem_mem hj)
 ·rw [show rs.getD j dr=dr by simp [List.getD,List.getElem?_eq_none (by omega:rs.length≤j)]]
  exact Nat.zero_le _
theorem rns_mem {rs:List Rum} (h:∀ j,(rs.getD j dr).m.name.size≤maxLen):∀ m∈rs,m.m.name.size≤maxLen:=by
 intro m hm
 obtain ⟨j,hj,rfl⟩:=List.getElem_of_mem hm
 have:=h j
 rwa [show rs.getD j dr=rs[j] by simp [List.getD,List.getElem?_eq_getElem hj]] at this
theorem ROwn.sl {base:Nat} {w:World} {v:Value} {ms:List Rum} (h:ROwn base w v ms) (hs:∀ j,(ms.getD j dr).m.name.size≤maxLen):RSl w v ms:=by
 rcases h.2 with ⟨rfl,h0⟩ | ⟨g,c,cur,rfl,hbg,hg,hnc,hcm,hcs,htake⟩
 ·exact ⟨none,0,by rw [h0],hs,.inl (List.eq_nil_of_length_eq_zero h0)⟩
 ·refine ⟨_,c,rfl,hs,.inr ⟨g,0,rfl,(Array.getElem?_eq_some_iff.1 hg).1,fun j hj=>?_⟩⟩
  have hc:∀ t,t < 6→w.cell? ⟨g,0+j * 6+t,none⟩=(ms.getD j dr).cs[t]?:=fun t ht=>by
   rw [cellsAt hg,← flR_get ms j hj t ht,← htake,List.getElem?_take_of_lt (by omega)];simp
  exact ⟨hc 0 (by omega),hc 1 (by omega),hc 2 (by omega),hc 3 (by omega),hc 4 (by omega),hc 5 (by omega)⟩
theorem ROwn.below {base:Nat} {w w':World} {v:Value} {ms:List Rum} (h:ROwn base w v ms) (hb:Below w.heap.size w w'):ROwn base w' v ms:=by
 obtain ⟨h1,h2⟩:=h
 refine ⟨h1,?_⟩
 rcases h2 with h2 | ⟨g,c,cur,hv,hbg,hg,hr⟩
 ·exact .inl h2
 ·exact .inr ⟨g,c,cur,hv,hbg,by rw [hb.block g (Array.getElem?_eq_some_iff.1 hg).1];exact hg,hr⟩
theorem ROwn.base {b b':Nat} {w:World} {v:Value} {ms:List Rum} (h:ROwn b w v ms) (hb:b'≤b):ROwn b' w v ms:=by
 obtain ⟨h1,h2⟩:=h
 refine ⟨h1,?_⟩
 rcases h2 with h2 | ⟨g,c,cur,hv,hbg,hr⟩
 ·exact .inl h2
 ·exact .inr ⟨g,c,cur,hv,Nat.le_trans hb hbg,hr⟩
theorem ROwn.lt {base:Nat} {w:World} {v:Value} {ms:List Rum} (h:ROwn base w v ms) (k:Nat) (hk:v.ownBlock=some k):base≤k∧k < w.heap.size:=World.ownsRow.lt h k hk
theorem ROwn.slice {base:Nat} {w:World} {v:Value} {ms:List Rum} (h:ROwn base w v ms):∃ a c,v=.slice a ms.length c:=by
 rcases h.2 with ⟨rfl,h0⟩ | ⟨g,c,cur,rfl,_⟩
 ·exact ⟨none,0,by rw [h0]⟩
 ·exact ⟨_,c,rfl⟩
theorem Tryz.infoR:(Tryz.prog.info? 82).map (fun i=>(i.zero,i.size,i.bytes))=some (some (.agg #[.string ⟨#[]⟩,.int .i64 0,.int .i64 0,.int .i64 0,.bool false,.int .i64 0]),6,56):=by kernel_rfl
theorem rrow_cell {rs:List Rum} {w:World} {b off:Nat} (hr:RRow w b off rs) {j:Nat} {u:Value} (hj:(flR rs)[j]?=some u):w.cell? ⟨b,off+j,none⟩=some u:=by
 have hjl:j < rs.length * 6:=by rw [← flR_len];exact (List.getElem?_eq_some_iff.1 hj).1
 have h1:=flR_get rs (j / 6) (by omega) (j%6) (by omega)
 rw [show j / 6 * 6+j%6=j by omega,hj] at h1
 obtain ⟨c0,c1,c2,c3,c4,c5⟩:=hr (j / 6) (by omega)
 have hcs:j%6=0∨j%6=1∨j%6=2∨j%6=3∨j%6=4∨j%6=5:=by omega
 rcases hcs with e | e | e | e | e | e
 ·rw [show off+j=off+j / 6 * 6 by omega,c0];rw [e] at h1;simpa [Rum.cs] using h1.symm
 ·rw [show off+j=off+j / 6 * 6+1 by omega,c1];rw [e] at h1;simpa [Rum.cs] using h1.symm
 ·rw [show off+j=off+j / 6 * 6+2 by omega,c2];rw [e] at h1;simpa [Rum.cs] using h1.symm
 ·rw [show off+j=off+j / 6 * 6+3 by omega,c3];rw [e] at h1;simpa [Rum.cs] using h1.symm
 ·rw [show off+j=off+j / 6 * 6+4 by omega,c4];rw [e] at h1;simpa [Rum.cs] using h1.symm
 ·rw [show off+j=off+j / 6 * 6+5 by omega,c5];rw [e] at h1;simpa [Rum.cs] using h1.symm
set_option maxHeartbeats 800000 in
theorem rclone_any (rs:List Rum) (v:Value) (w:World) (h:RSl w v rs) (hn:rs.length≤1000) :
 Calls Tryz.prog 117 #[v] w fun e w'=>∃ v',e=.returned v'∧ROwn w.heap.size w' v' rs∧Below w.heap.size w w':=by
 obtain ⟨a,cap,rfl,hs,h⟩:=h
 obtain ⟨i0,hi0,hz0,hzs,hzb⟩:=info_parts Tryz.infoR
 cases a with
 | none=>
   have he:rs=[]:=by
    rcases h with h | ⟨b,off,h,_⟩
    ·exact h
    ·cases h
   subst he
   clear h hs
   have hnil:=fun (w:World)=>Lib.run_eql_slice_nil (P:=Tryz.prog) w 23 82 none 0 cap 0 0 Tryz.underlying23
   simp only [List.length_nil,Option.isNone_none] at hnil ⊢
   go_enter Tryz.func117,Tryz.ntmps117
   go_wp2_with fail
   go_ret
   exact ⟨_,rfl,rown_nil _ _,Below.refl _ _⟩
 | some a=>
   have hnil:=fun (w:World)=>Lib.run_eql_slice_nil (P:=Tryz.prog) w 23 82 (some a) rs.length cap 0 0 Tryz.underlying23
   simp only [Option.isNone_some] at hnil
   have hnews:Hid (∀ j u,(flR rs)[j]?=some u→(w.alloc (.cells #[] 82)).cell? (a.add j)=some u):=by
    intro j u hj
    rcases h with h | ⟨b,off,h,hb,hr⟩
    ·subst h;simp [flR] at hj
    ·cases h
     rw [Addr.add_lit,World.cell?_alloc_past (w:=w) _ b _ hb]
     exact rrow_cell hr hj
   have HO:Hid ((w.alloc (.cells #[] 82)).ownsRow w.heap.size 82 6 (.slice (some ⟨w.heap.size,0,none⟩) 0 0) 0 []):=World.ownsRow_made w #[] 0 (Nat.le_refl _) (by unfold maxLen;omega) rfl
   clear h hs
   go_enter Tryz.func117,Tryz.ntmps117
   go_wp2_with (at_builtin;refine wpList_append_own _ rfl _ _ 23 rfl w.heap.size 82 i0 _ 6 56 Tryz.underlying23 hi0 hz0 hzs hzb rfl (by omega) _ 0 [] rfl HO.out a rs.length cap (flR rs) rfl (flR_len rs) hnews.out (flR_one rs) (by unfold maxLen;omega) (by omega) (by simp) ?_)
   intro v' w' r1 r2 r3
   go_wp2_with fail
   go_ret
   refine ⟨v',rfl,?_,?_⟩
   ·simpa using r1
   ·exact ((Below.refl _ _).alloc (Nat.le_refl _) _).grown r2 (by simp) (fun k hk=>by simp [Value.ownBlock] at hk;omega)
end Go.Proofs.YtikgjgmgbfjcgaaGreat
namespace Go.Proofs.YtikgjgmgbfjcgaaGreat
open Go.RowKit Go.WideMaps Go.Maps
theorem look_any {w:World} {b n:Nat} {D:DataW Unit} (h:w.ownsMap Tryz.prog 9 (plainElem (H:=Unit) Tryz.prog 3) b n D) {s:ByteArray} (hs:s.size≤maxLen) :
 ∃ c:Int,(Instr.lookup 162 (.map (some b)) (.string s) true).run Tryz.prog w=.ok (.tuple #[.int .i64 c,.bool (Maps.has D (kS s))]) w∧D.atKey (kS s) (.lit (.int .i64 0))=.lit (.int .i64 c):=by
 obtain ⟨v,ps,hrun,hv⟩:=h.look_ok law9 Tryz.underlying162 (zero3' _) (plainElem_int Tryz.underlying3 (by decide)) (keyOf_string_mk Tryz.underlying9 hs)
 obtain ⟨c,rfl,hc,_⟩:=plainElem_int_inv Tryz.underlying3 hv
 exact ⟨c,hrun,congrArg Prod.fst hc⟩
def NotIn (rs:List Rum) (nm:ByteArray):Prop:=∀ j,j < rs.length→(rs.getD j dr).m.name≠nm
theorem has_not {rs:List Rum} {nm:ByteArray} (h:NotIn rs nm):Maps.has (Dm (rnames rs) rs.length) (kS nm)=false:=by
 cases hh:Maps.has (Dm (rnames rs) rs.length) (kS nm)
 ·rfl
 ·obtain ⟨j,hj,e⟩:=(Dm_has _ _ _).1 hh
  rw [rnames_get] at e
  exact absurd e (h j hj)
set_option maxHeartbeats 3200000 in
set_option maxRecDepth 100000 in
theorem put_new (rs:List Rum) (v:Value) (m:Mem) (w:World) (hv:RSl w v rs) (hm:m.name.size≤maxLen) (h0:chkR rs=0) (he:m.e=0) (hno:NotIn rs m.name) (hl:rs.length < 20) :
 Calls Tryz.prog 206 #[v,.agg #[.string m.name,.int .i64 m.state,.int .i64 m.life,.int .i64 m.addr,.bool m.server]] w fun e w'=>∃ v',e=.returned (.tuple #[v',.int .i64 0])∧ROwn w.heap.size w' v' (rs++[⟨m,0⟩])∧Below w.heap.size w w':=by
 obtain ⟨i0,hi0,hz0,hzs,hzb⟩:=info_parts Tryz.infoR
 have HV:Hid (RSl w v rs):=hv
 have hchk:=fun (w:World) (h:RSl w v rs)=>checkR_any rs v w h
 rw [h0] at hchk
 have hcm:=fun w=>checkMember_any m w hm
 rw [he] at hcm
 have HH:Hid (Maps.has (Dm (rnames rs) rs.length) (kS m.name)=false):=has_not hno
 clear h0 he hv
 obtain ⟨nm,st,lf,ad,sv⟩:=m
 simp only at *
 have hB0:Below w.heap.size w (w.alloc (.cells #[.string nm,.int .i64 st,.int .i64 lf,.int .i64 ad,.bool sv] 37)):=(Below.refl _ _).alloc (Nat.le_refl _) _
 go_enter Tryz.func206,Tryz.ntmps206
 go_wp2_with fail
 refine (hchk _ (HV.out.below hB0)).mono ?_
 rintro e w1 ⟨rfl,hb1⟩
 have c1:∀ o,w1.cell? ⟨w.heap.size,o,none⟩=#[Value.string nm,.int .i64 st,.int .i64 lf,.int .i64 ad,.bool sv][o]?:=fun o=>by
  rw [hb1.cell (p:=⟨w.heap.size,o,none⟩) (by simp)];exact cell_top' rfl
 have HB1:Hid (Below w.heap.size w w1):=hB0.trans (hb1.mono (by simp))
 have hz1:w.heap.size < w1.heap.size:=by have:=hb1.size;simp at this;omega
 clear hb1 hB0 hchk
 go_wp2_with fail
 refine (hcm _).mono ?_
 rintro e w2 ⟨rfl,hb2⟩
 have c2:∀ o,w2.cell? ⟨w.heap.size,o,none⟩=#[Value.string nm,.int .i64 st,.int .i64 lf,.int .i64 ad,.bool sv][o]?:=fun o=>by
  rw [hb2.cell (p:=⟨w.heap.size,o,none⟩) (by simp only;omega)];exact c1 o
 have HB2:Hid (Below w.heap.size w w2):=HB1.out.trans (hb2.mono HB1.out.size)
 have hz2:w.heap.size < w2.heap.size:=by have:=hb2.size;omega
 clear hb2 c1 hz1 HB1 hcm
 go_wp2_with fail
 refine (rclone_any rs v _ (HV.out.below HB2.out) (by omega)).mono ?_
 rintro e w3 ⟨v3,rfl,ho3,hb3⟩
 have HO3:Hid (ROwn w2.heap.size w3 v3 rs):=ho3
 have c3:w3.cell? ⟨w.heap.size,0,none⟩=some (.string nm):=by
  rw [hb3.cell (p:=⟨w.heap.size,0,none⟩) (by simp only;omega)];exact c2 0
 have C3:Hid (∀ o,w3.cell? ⟨w.heap.size,o,none⟩=#[Value.string nm,.int .i64 st,.int .i64 lf,.int .i64 ad,.bool sv][o]?):=fun o=>by
  rw [hb3.cell (p:=⟨w.heap.size,o,none⟩) (by simp only;omega)];exact c2 o
 have HB3:Hid (Below w.heap.size w w3):=HB2.out.trans (hb3.mono HB2.out.size)
 have hz3:w.heap.size < w3.heap.size:=by have:=hb3.size;omega
 have hz23:w2.heap.size≤w3.heap.size:=hb3.size
 clear hb3 ho3 c2
 go_wp2_with fail
 go_region_held3 (fun w'=>w'.cell? ⟨w.heap.size,0,none⟩=some (.string nm)) (first | assumption | go_keep) (first | (go_at_call 144;refine (met_any rs v _ ((HV.out.below HB3.out).below (Below.refl _ _).drew) (by omega)).mono ?_;rintro e w4 ⟨rfl,hown,hb4⟩;obtain ⟨cq,hrun,hat⟩:=look_any hown hm;rw [HH.out] at hrun;have hr2:(Instr.lookup 162 (.map (some w3.heap.size)) (.string nm) true).run Tryz.prog w4=.ok (.tuple #[.int .i64 cq,.bool false]) w4:=hrun;clear hrun hat hown;have HB4:Hid (Below w3.heap.size w3 w4):=(Below.refl w3.heap.size w3).drew.trans hb4;have hS:w4.cell? ⟨w.heap.size,0,none⟩=some (.string nm):=((hb4.cell (p:=⟨w.heap.size,0,none⟩) hz3).trans c3);clear hb4))
 obtain ⟨a3,ca3,hv3⟩:=HO3.out.slice
 subst hv3
 have C4:∀ o,w4.cell? ⟨w.heap.size,o,none⟩=#[Value.string nm,.int .i64 st,.int .i64 lf,.int .i64 ad,.bool sv][o]?:=fun o=>by
  rw [HB4.out.cell (p:=⟨w.heap.size,o,none⟩) hz3];exact C3.out o
 have HO4:Hid (ROwn w2.heap.size w4 (.slice a3 rs.length ca3) rs):=HO3.out.below HB4.out
 have HB5:Hid (Below w.heap.size w w4):=HB3.out.trans (HB4.out.mono HB3.out.size)
 have hz5:w2.heap.size≤w4.heap.size:=by have:=HB4.out.size;omega
 have HO5:Hid (∀ ob,(w4.alloc ob).ownsRow w2.heap.size 82 6 (.slice a3 rs.length ca3) rs.length (flR rs)):=fun ob=>HO4.out.below ((Below.refl _ _).alloc (Nat.le_refl _) _)
 have HLT:Hid (∀ k,(Value.slice a3 rs.length ca3).ownBlock=some k→w.heap.size≤k):=fun k hk=>by have:=(HO4.out.lt k hk).1;omega
 have HSN:Hid (∀ (w':World) (v':Value),w'.ownsRow w2.heap.size 82 6 v' (rs.length+1) (flR rs++(Rum.mk ⟨nm,st,lf,ad,sv⟩ 0).cs)→ROwn w.heap.size w' v' (rs++[⟨⟨nm,st,lf,ad,sv⟩,0⟩])):=fun w' v' h=>(rown_snoc h).base (by omega)
 clear HO3 C3 HB4 HB3 c3 hr2 HO4
 generalize hN:rs.length=n at *
 have HN:Hid (rs.length=n):=hN
 clear hN
 go_wp2_with (at_builtin;refine wpList_append_own _ rfl _ _ 23 rfl w2.heap.size 82 i0 _ 6 56 Tryz.underlying23 hi0 hz0 hzs hzb rfl (by omega) _ n (flR rs) rfl ?hown ⟨w4.heap.size,0,none⟩ 1 1 (Rum.mk ⟨nm,st,lf,ad,sv⟩ 0).cs rfl rfl ?hnews (rcs_one _) ?h63 ?hbytes ?hbase ?_)
 case hown=>exact HO5.out _
 case hnews=>(intro j u hj;rw [Addr.add_lit];exact (cellsAt (heap_alloc_new w4 (.cells #[.string nm,.int .i64 st,.int .i64 lf,.int .i64 ad,.bool sv,.int .i64 0] 82)) (0+j)).trans (by simpa [Rum.cs] using hj))
 case h63=>(unfold maxLen;omega)
 case hbytes=>omega
 case hbase=>(simp;omega)
 intro v' w5 r1 r2 r3
 have R1:Hid (ROwn w.heap.size w5 v' (rs++[⟨⟨nm,st,lf,ad,sv⟩,0⟩])):=HSN.out w5 v' r1
 have R2:Hid (Below w.heap.size w w5):=(HB5.out.alloc HB5.out.size _).grown r2 (by have:=HB5.out.size;simp;omega) (fun k hk=>HLT.out k hk)
 clear r1 r2 r3
 go_wp2_with fail
 go_ret2
 exact ⟨v',rfl,R1.out,R2.out⟩
end Go.Proofs.YtikgjgmgbfjcgaaGreat
namespace Go.Proofs.YtikgjgmgbfjcgaaGreat
open Go.RowKit
theorem Tryz.infoI:(Tryz.prog.info? 3).map (fun i=>(i.zero,i.size,i.bytes))=some (some (.int .i64 0),1,8):=by kernel_rfl
theorem rown_row {base g c n:Nat} {w:World} {rs:List Rum} (h:w.ownsRow base 82 6 (.slice (some ⟨g,0,none⟩) n c) rs.length (flR rs)):RRow w g 0 rs:=by
 rcases h.2 with ⟨hv,_⟩ | ⟨g',c',cur,hv,hbg,hg,hnc,hcm,hcs,htake⟩
 ·cases hv
 ·simp only [Value.slice.injEq,Option.some.injEq,Addr.mk.injEq,and_true] at hv
  obtain ⟨rfl,_,_⟩:=hv
  intro j hj
  have hc:∀ t,t < 6→w.cell? ⟨g,0+j * 6+t,none⟩=(rs.getD j dr).cs[t]?:=fun t ht=>by
   rw [cellsAt hg,← flR_get rs j hj t ht,← htake,List.getElem?_take_of_lt (by omega)];simp
  exact ⟨hc 0 (by omega),hc 1 (by omega),hc 2 (by omega),hc 3 (by omega),hc 4 (by omega),hc 5 (by omega)⟩
def wrs:List Value→Nat→List Value→List Value
 | xs,_,[]=>xs
 | xs,o,v :: r=>wrs (xs.set o v) (o+1) r
theorem wrs_len:∀ (vs xs:List Value) (o:Nat),(wrs xs o vs).length=xs.length
 | [],_,_=>rfl
 | v :: r,xs,o=>by rw [wrs,wrs_len r,List.length_set]
theorem wrs_out:∀ (vs xs:List Value) (o k:Nat),k < o∨o+vs.length≤k→(wrs xs o vs)[k]?=xs[k]?
 | [],_,_,_,_=>rfl
 | v :: r,xs,o,k,h=>by
   simp only [List.length_cons] at h
   rw [wrs,wrs_out r _ _ k (by omega),List.getElem?_set_ne (by omega)]
theorem wrs_in:∀ (vs xs:List Value) (o j:Nat),j < vs.length→o+vs.length≤xs.length→(wrs xs o vs)[o+j]?=vs[j]?
 | [],_,_,_,h,_=>by simp at h
 | v :: r,xs,o,0,_,h2=>by
   simp only [List.length_cons] at h2
   rw [wrs,wrs_out r _ _ _ (by omega)]
   simp [List.getElem?_set_self (show o < xs.length by omega)]
 | v :: r,xs,o,j+1,h,h2=>by
   simp only [List.length_cons] at h h2
   rw [wrs,show o+(j+1)=(o+1)+j by omega,wrs_in r _ _ j (by omega) (by rw [List.length_set];omega)]
   simp
theorem stored_all {base g n cap:Nat} {e:TypeId} {size:Nat}:∀ (vs xs:List Value) (o:Nat) (w:World),w.ownsRow base e size (.slice (some ⟨g,0,none⟩) n cap) n xs→(w.setCells g o vs).ownsRow base e size (.slice (some ⟨g,0,none⟩) n cap) n (wrs xs o vs)
 | [],_,_,_,h=>h
 | v :: r,_,o,_,h=>stored_all r _ _ _ (World.ownsRow.stored h o v).1
theorem below_setCells {base g:Nat} (hg:base≤g):∀ (vs:List Value) (o:Nat) (w0 w:World),Below base w0 w→Below base w0 (w.setCells g o vs)
 | [],_,_,_,h=>h
 | v :: r,o,w0,_,h=>below_setCells hg r _ w0 _ (h.setCell (p:=⟨g,o,none⟩) hg v)
theorem owns_shrink {w:World} {base g n m cap:Nat} {e:TypeId} {size:Nat} {xs:List Value} (h:w.ownsRow base e size (.slice (some ⟨g,0,none⟩) n cap) n xs) (hm:m≤n):w.ownsRow base e size (.slice (some ⟨g,0,none⟩) m cap) m (xs.take (m * size)):=by
 obtain ⟨h1,h2⟩:=h
 have hle:m * size≤n * size:=Nat.mul_le_mul_right _ hm
 refine ⟨by rw [List.length_take,h1];omega,?_⟩
 rcases h2 with ⟨hv,_⟩ | ⟨g',c',cur,hv,hbg,hg,hnc,hcm,hcs,htake⟩
 ·cases hv
 ·simp only [Value.slice.injEq,Option.some.injEq,Addr.mk.injEq,and_true,true_and] at hv
  obtain ⟨rfl,rfl⟩:=hv
  refine .inr ⟨g,cap,cur,rfl,hbg,hg,by omega,hcm,hcs,?_⟩
  rw [← htake,List.take_take,Nat.min_eq_left hle]
def zR:List Value:=[.string ⟨#[]⟩,.int .i64 0,.int .i64 0,.int .i64 0,.bool false,.int .i64 0]
theorem take_eq_of {xs ys:List Value} {k:Nat} (hl:k≤xs.length) (hy:ys.length=k) (h:∀ j,j < k→xs[j]?=ys[j]?):xs.take k=ys:=by
 apply List.ext_getElem?
 intro j
 by_cases hj:j < k
 ·rw [List.getElem?_take_of_lt hj,h j hj]
 ·rw [List.getElem?_eq_none (by rw [List.length_take];omega),List.getElem?_eq_none (by omega)]
theorem erase_cells {rs:List Rum} {p n:Nat} (hn:rs.length=n) (hp:p < n):(wrs (wrs (flR rs) (p * 6) (flR (rs.drop (p+1)))) ((n - 1) * 6) zR).take ((n - 1) * 6)=flR (rs.eraseIdx p):=by
 have hl:(flR rs).length=n * 6:=by rw [flR_len,hn]
 have hd:(flR (rs.drop (p+1))).length=(n - (p+1)) * 6:=by rw [flR_len,List.length_drop,hn]
 refine take_eq_of (by rw [wrs_len,wrs_len,hl];omega) (by rw [flR_len,List.length_eraseIdx,if_pos (by omega),hn]) (fun j hj=>?_)
 rw [wrs_out _ _ _ _ (by omega),List.eraseIdx_eq_take_drop_succ,flR_append]
 have ht:(flR (rs.take p)).length=p * 6:=by rw [flR_len,List.length_take,hn];omega
 by_cases hjp:j < p * 6
 ·rw [wrs_out _ _ _ _ (by omega),List.getElem?_append_left (by omega),← flR_take,List.getElem?_take_of_lt hjp]
 ·rw [List.getElem?_append_right (by omega),ht]
  have:=wrs_in (flR (rs.drop (p+1))) (flR rs) (p * 6) (j - p * 6) (by rw [hd];omega) (by rw [hd,hl];omega)
  rw [show p * 6+(j - p * 6)=j by omega] at this
  exact this
theorem run_clear_one (w:World) (ty:TypeId) (b o c:Nat) (hc:∀ j,j < 6→(w.cell? ⟨b,o+j,none⟩).isSome=true) (hf:∀ j,j < 6→w.frozen? ⟨b,o+j,none⟩=false) :
 (Builtin.clear_ #[23] ty #[.slice (some ⟨b,o,none⟩) 1 c]).run Tryz.prog w=.ok (.tuple #[]) (w.setCells b o zR):=by
 have hzc:(Builtin.zeroCells (Value.agg #[.string ⟨#[]⟩,.int .i64 0,.int .i64 0,.int .i64 0,.bool false,.int .i64 0]).cells 1).toList=zR:=by kernel_rfl
 have hst:=run_storeCells_cells (P:=Tryz.prog) b o zR 0 w (fun j hj=>by simpa using hc j (by simpa [zR] using hj)) (fun j hj=>by simpa using hf j (by simpa [zR] using hj)) (by intro v hv;simp [zR] at hv;rcases hv with rfl | rfl | rfl | rfl<;>rfl)
 simp only [Nat.add_zero] at hst
 simp [Builtin.clear_,run_underlying Tryz.underlying23,hzc,hst]
set_option maxHeartbeats 3200000 in
set_option maxRecDepth 1000000 in
theorem delete_any (rs:List Rum) (n p g c base:Nat) (w:World) (hn:rs.length=n) (ho:ROwn base w (.slice (some ⟨g,0,none⟩) n c) rs) (hp:p < n) (hsm:n≤1000) :
 Calls Tryz.prog 229 #[.slice (some ⟨g,0,none⟩) n c,.int .i64 p,.int .i64 (p+1)] w fun e w'=>e=.returned (.slice (some ⟨g,0,none⟩) (n - 1) c)∧ROwn base w' (.slice (some ⟨g,0,none⟩) (n - 1) c) (rs.eraseIdx p)∧Below base w w':=by
 obtain ⟨i0,hi0,hz0,hz1,hz2⟩:=info_parts Tryz.infoR
 have HO:Hid (w.ownsRow base 82 6 (.slice (some ⟨g,0,none⟩) n c) n (flR rs)):=by rw [← hn];rw [← hn] at ho;exact ho
 obtain ⟨hgl,hnc,hcm⟩:base≤g∧n≤c∧c≤maxLen:=by
  rcases HO.out.2 with ⟨hv,_⟩ | ⟨g',c',cur,hv,hbg,hg,hnc,hcm,hcs,htake⟩
  ·cases hv
  ·simp only [Value.slice.injEq,Option.some.injEq,Addr.mk.injEq,and_true,true_and] at hv
   obtain ⟨rfl,rfl⟩:=hv
   exact ⟨hbg,hnc,hcm⟩
 unfold maxLen at hcm
 have hp0:(0:Int)≤(p:Int)+1:=by omega
 have hp1:(p:Int)+1≤(n:Int):=by omega
 have hp2:((p:Int)+1).toNat=p+1:=by omega
 have hic:p≤c:=by omega
 have hcell:∀ k,k < n * 6→w.cell? ⟨g,k,none⟩=(flR rs)[k]?:=fun k hk=>by
  rcases HO.out.2 with ⟨hv,_⟩ | ⟨g',c',cur,hv,hbg,hg,_,_,hcs,htake⟩
  ·cases hv
  ·simp only [Value.slice.injEq,Option.some.injEq,Addr.mk.injEq,and_true,true_and] at hv
   obtain ⟨rfl,rfl⟩:=hv
   rw [cellsAt hg,← htake,List.getElem?_take_of_lt hk,Array.getElem?_toList]
 have hfl:(flR rs).length=n * 6:=by rw [flR_len,hn]
 have S1:Hid ((flR (rs.drop (p+1))).length=(n - (p+1)) * 6):=(show (flR (rs.drop (p+1))).length=_ by rw [flR_len,List.length_drop,hn])
 obtain ⟨A,hA,hnews⟩:∃ A:Addr,(if c=p+1 then some (⟨g,0,none⟩:Addr) else some ⟨g,(p+1) * 6,none⟩)=some A∧Hid (∀ j u,(flR (rs.drop (p+1)))[j]?=some u→w.drew.cell? (A.add j)=some u):=by
  by_cases h:c=p+1
  ·refine ⟨_,if_pos h,fun j u hj=>?_⟩
   have:j < (flR (rs.drop (p+1))).length:=(List.getElem?_eq_some_iff.1 hj).1
   rw [S1.out] at this
   omega
  ·refine ⟨_,if_neg h,fun j u hj=>?_⟩
   have hj1:j < (flR (rs.drop (p+1))).length:=(List.getElem?_eq_some_iff.1 hj).1
   rw [S1.out] at hj1
   rw [Addr.add_lit]
   show w.cell? _=_
   rw [hcell _ (by omega),← hj,← flR_drop,List.getElem?_drop]
 have S2:Hid (∀ u∈flR (rs.drop (p+1)),u.oneCell'=true):=flR_one _
 have S3:Hid (∀ j,j < (flR (rs.drop (p+1))).length→(w.drew.cell? ⟨g,0+p * 6+j,none⟩).isSome=true∧w.drew.frozen? ⟨g,0+p * 6+j,none⟩=false):=fun j hj=>by
  rw [S1.out] at hj
  refine ⟨?_,World.ownsRow.frozenAt HO.out _⟩
  show (w.cell? _).isSome=true
  rw [hcell _ (by omega),List.getElem?_eq_getElem (by omega)]
  rfl
 have HD:Hid ((w.drew.setCells g (p * 6) (flR (rs.drop (p+1)))).ownsRow base 82 6 (.slice (some ⟨g,0,none⟩) n c) n (wrs (flR rs) (p * 6) (flR (rs.drop (p+1))))):=stored_all _ _ _ _ (show w.drew.ownsRow base 82 6 (.slice (some ⟨g,0,none⟩) n c) n (flR rs) from HO.out)
 have hclear:∀ ty,(Builtin.clear_ #[23] ty #[.slice (some ⟨g,(p+(n - (p+1))) * 6,none⟩) (n - (p+(n - (p+1)))) (c - (p+(n - (p+1))))]).run Tryz.prog (w.drew.setCells g (p * 6) (flR (rs.drop (p+1))))=.ok (.tuple #[]) ((w.drew.setCells g (p * 6) (flR (rs.drop (p+1)))).setCells g ((n - 1) * 6) zR):=fun ty=>by
  rw [show p+(n - (p+1))=n - 1 by omega,show n - (n - 1)=1 by omega]
  exact run_clear_one _ ty g _ _ (fun j hj=>by rw [World.ownsRow.cellAt HD.out _ (by omega),List.getElem?_eq_getElem (by rw [wrs_len,hfl];omega)];rfl) (fun j _=>World.ownsRow.frozenAt HD.out _)
 have HF:Hid (((w.drew.setCells g (p * 6) (flR (rs.drop (p+1)))).setCells g ((n - 1) * 6) zR).ownsRow base 82 6 (.slice (some ⟨g,0,none⟩) (n - 1) c) (n - 1) (flR (rs.eraseIdx p))):=by
  have h:=owns_shrink (m:=n - 1) (stored_all zR _ ((n - 1) * 6) _ HD.out) (by omega)
  rw [erase_cells hn hp] at h
  exact h
 have HL:Hid ((rs.eraseIdx p).length=n - 1):=(show (rs.eraseIdx p).length=n - 1 by rw [List.length_eraseIdx,if_pos (by omega),hn])
 have HBL:Hid (Below base w ((w.drew.setCells g (p * 6) (flR (rs.drop (p+1)))).setCells g ((n - 1) * 6) zR)):=below_setCells hgl _ _ _ _ (below_setCells hgl _ _ _ _ (Below.refl _ _).drew)
 have HPN:Hid (p+(n - (p+1))=n - 1):=(show p+(n - (p+1))=n - 1 by omega)
 clear ho hcell
 go_enter Tryz.func229,Tryz.ntmps229
 go_wp2_with fail
 go_region_law (refine step_append_room rfl (.tmp 22) (.tmp 25) 23 rfl 82 i0 6 Tryz.underlying23 hi0 hz1 g 0 p c (by simp [Act.eval,Act.put]) A (n - (p+1)) (c - (p+1)) (flR (rs.drop (p+1))) (by simp [Act.eval,Act.put]) S1.out hnews.out S2.out (by omega) S3.out ?_)
 go_wp2_with fail
 go_ret
 refine ⟨?_,?_,HBL.out⟩
 ·have hpn:=HPN.out
  simp only [hpn]
  rfl
 ·show World.ownsRow _ _ _ _ _ (rs.eraseIdx p).length _
  rw [HL.out]
  exact HF.out
end Go.Proofs.YtikgjgmgbfjcgaaGreat
