import Derived.Test.YtffdoiokmiklgaaGreatDoortr27
import Derived.Test.YtffdoiokmiklgaaGreatDoortr5
import Derived.Test.YtffdoiokmiklgaaGreatDoortr2
import Derived.Test.YtffdoiokmiklgaaGreatDoortr1
import Derived.Test.YtffdoiokmiklgaaGreatDoortr7
import Derived.Deep.Cut
namespace Go.Proofs.YtffdoiokmiklgaaGreatDoor
open Go.RowKit
theorem Rp.row {g base:Nat} {w w':World} {T:TypeId} {k n:Nat} {v:Value} {cs:List Value} (h:Rp g w w') (ho:w.ownsRow base T k v n cs) (hg:g < base):w'.ownsRow base T k v n cs:=by
 rcases ho.2 with ⟨rfl,h0⟩ | ⟨b,c,cur,rfl,hbg,hb,hr⟩
 ·exact ⟨ho.1,.inl ⟨rfl,h0⟩⟩
 ·exact ⟨ho.1,.inr ⟨b,c,cur,rfl,hbg,h.block' (by omega) hb,hr⟩⟩
def rdLs:Nat→List UInt8→List Mem→Option (List Mem × List UInt8)
 | 0,l,D=>some (D,l)
 | n+1,l,D=>match rdEl l with
   | none=>none
   | some (m,r)=>rdLs n r (D++[m])
def rdList (l:List UInt8):Option (List Mem × List UInt8):=(rdN l).bind fun a=>if 0≤a.1 then rdLs a.1.toNat a.2 [] else none
theorem rdLs_no {n:Nat} {l:List UInt8} {D:List Mem} (h:rdEl l=none) (hn:0 < n):rdLs n l D=none:=by
 obtain ⟨m,rfl⟩:∃ m,n=m+1:=⟨n - 1,by omega⟩
 simp only [rdLs,h]
theorem rdLs_go {n:Nat} {l r:List UInt8} {x:Mem} {D:List Mem} (h:rdEl l=some (x,r)) (hn:0 < n):rdLs n l D=rdLs (n - 1) r (D++[x]):=by
 obtain ⟨m,rfl⟩:∃ m,n=m+1:=⟨n - 1,by omega⟩
 simp only [rdLs,h,Nat.add_sub_cancel]
theorem rdLs_ok:∀ {n:Nat} {l r:List UInt8} {D E:List Mem},rdLs n l D=some (E,r)→l.length≤140737488355328→(∀ m∈D,m.name.size≤maxLen)→(∀ m∈E,m.name.size≤maxLen)∧r.length≤l.length
 | 0,l,r,D,E,h,hl,hD=>by
   simp only [rdLs,Option.some.injEq,Prod.mk.injEq] at h
   obtain ⟨rfl,rfl⟩:=h
   exact ⟨hD,Nat.le_refl _⟩
 | n+1,l,r,D,E,h,hl,hD=>by
   simp only [rdLs] at h
   split at h
   ·cases h
   ·rename_i m r' he
    have hi:=rdEl_in he
    have hx:=rdLs_ok h (by omega) (fun y hy=>by
     rcases List.mem_append.1 hy with hy | hy
     ·exact hD y hy
     ·rw [List.mem_singleton.1 hy]
      unfold maxLen
      omega)
    exact ⟨hx.1,by omega⟩
theorem rdList_ok {l r:List UInt8} {E:List Mem} (h:rdList l=some (E,r)) (hl:l.length≤140737488355328):(∀ m∈E,m.name.size≤maxLen)∧r.length≤l.length:=by
 unfold rdList at h
 rw [Option.bind_eq_some_iff] at h
 obtain ⟨⟨n,r1⟩,h1,h2⟩:=h
 have hi:=rdN_in h1
 split at h2
 ·have hx:=rdLs_ok h2 (by simp only;omega) (fun m hm=>by cases hm)
  exact ⟨hx.1,by have:=hx.2;simp only at this;omega⟩
 ·cases h2
def LsP (g:Nat) (w:World) (o:Option (List Mem × List UInt8)) (e:Ending) (w':World):Prop:=
 Rp g w w'∧((∃ D r v,o=some (D,r)∧e=.returned v∧Own w.heap.size w' v D∧IsP g r w')∨(o=none∧e=outP 1))
set_option maxHeartbeats 6400000 in
set_option maxRecDepth 100000 in
theorem list_b {B g c:Nat} {l:List UInt8} {w:World} (hV:Rv B w) (hBg:B≤g) (h:IsP g l w) (hs:l.length≤16777216) (hc:w.cell? ⟨c,0,none⟩=some (.pointer (some ⟨g,0,none⟩))) (hcg:c≠g) (hcl:c < w.heap.size) :
 Calls Tryz.prog 166 #[.pointer (some ⟨g,0,none⟩),.func (.func 167) #[] #[.pointer (some ⟨c,0,none⟩)]] w (LsP g w (rdList l)):=by
 obtain ⟨F,hF⟩:∃ F,F=rdList l:=⟨_,rfl⟩
 rw [← hF]
 unfold rdList at hF
 have HF:Hid (F=(rdN l).bind fun a=>if 0≤a.1 then rdLs a.1.toNat a.2 [] else none):=hF
 obtain ⟨i0,hi0,hz0,hzs,hzb⟩:=info_parts Tryz.info56
 have ef:∀ (args:Array Value) (W:World),(callFunc 167 args).run Tryz.prog W=.ok (.enter 167 args) W:=enters_of Tryz.func167 (by kernel_rfl) rfl
 have hgl:=h.hg
 have HN:Hid (Calls Tryz.prog 168 #[.pointer (some ⟨g,0,none⟩)] w (RdP g w (fun n:Int=>.int .i64 n) (rdN l))):=num_b hV h (by omega)
 have HONE:Hid (∀ (W:World) (m:List UInt8),Rp g w W→IsP g m W→m.length≤16777216→Calls Tryz.prog 167 #[.pointer (some ⟨c,0,none⟩)] W (RdP g W Mem.val (rdEl m))):=fun W m hW hm hml=>
  one_b (hV.rp hBg hW) hBg hm (by omega) (by
   have e:=hW.block c hcl hcg
   simp only [World.cell?] at hc ⊢
   rw [e];exact hc) hcg (Nat.lt_of_lt_of_le hcl hW.size)
 clear hF h hV hBg hc hcg hcl
 unfold LsP
 go_enter Tryz.func166,Tryz.ntmps166
 go_wp2_with fail
 refine HN.out.mono ?_
 rintro e w1 ⟨hr,⟨n,r,hn,rfl,hp⟩ | ⟨hn,rfl⟩⟩
 rotate_left
 ·exact ⟨rfl,hr,.inr ⟨bind_no HF.out hn,rfl⟩⟩
 have hF1:=bind_go HF.out hn
 have HF1:Hid (F=if 0≤n then rdLs n.toNat r [] else none):=hF1
 clear hF1
 obtain ⟨hin,hrl⟩:=rdN_in hn
 have HP1:Hid (IsP g r w1∧Rp g w w1):=⟨hp,hr⟩
 clear hn hp hr HF HN
 by_cases hn0:0≤n
 rotate_left
 ·have hd:decide (0≤n)=false:=by simpa using hn0
  have HF2:Hid (F=none):=HF1.out.trans (if_neg hn0)
  clear HF1 hn0
  go_wp2_with fail
  refine (need_no _ _).mono ?_
  rintro e w4 ⟨rfl,hw4⟩
  subst hw4
  exact ⟨rfl,HP1.out.2,.inr ⟨HF2.out,rfl⟩⟩
 have HF2:Hid (F=rdLs n.toNat r []):=HF1.out.trans (if_pos hn0)
 obtain ⟨N,rfl⟩:∃ N:Nat,n=(N:Int):=⟨n.toNat,by omega⟩
 have hd:decide ((0:Int)≤(N:Int))=true:=by simp
 have hN63:N≤9223372036854775807:=by have:=hin.2;omega
 have HF3:Hid (rdLs (N - 0) r []=F):=(show _=_ by have:=HF2.out;rw [Int.toNat_natCast] at this;exact this.symm)
 clear HF1 HF2 hn0 hin
 go_wp2_with fail
 refine (need_ok _ _).mono ?_
 rintro e w4 ⟨rfl,hw4⟩
 subst hw4
 clear hd
 have hz1:w.heap.size≤w4.heap.size:=HP1.out.2.size
 go_wp2_with fail
 go_loopw [6,13] (fun v i wr=>∃ (k:Nat) (D:List Mem) (m:List UInt8) (ao:Option Addr) (lo co:Nat),k≤N∧i=.int .i64 k∧v=.slice ao lo co∧Hid (rdLs (N - k) m D=F)∧Hid (D.length+m.length≤16777216)∧Hid (IsP g m wr∧Rp g w wr)∧Hid (Own w.heap.size wr v D)∧w.heap.size≤wr.heap.size) (fun _ i _=>N - (intOf i).toNat)
 case atStart=>exact ⟨0,[],r,none,0,0,Nat.zero_le _,rfl,rfl,HF3,(show _≤_ by simp only [List.length_nil];omega),HP1,own_nil _ _,hz1⟩
 case round=>
  obtain ⟨k,D,m,ao,lo,co,hk,rfl,rfl,HRS,HLN,HP,HO,hsz⟩:=hrel
  by_cases hlt:k < N
  ·have hd:decide ((k:Int) < (N:Int))=true:=by simp;omega
   have HCC:Hid (Calls Tryz.prog 167 #[.pointer (some ⟨c,0,none⟩)] wr (RdP g wr Mem.val (rdEl m))):=HONE.out wr m HP.out.2 HP.out.1 (by have:=HLN.out;omega)
   have HNO:Hid (rdEl m=none→F=none):=fun hh=>by rw [← HRS.out,rdLs_no hh (by omega)]
   have HGO:Hid (∀ x q,rdEl m=some (x,q)→rdLs (N - (k+1)) q (D++[x])=F):=fun x q hh=>by
    rw [← HRS.out,rdLs_go hh (by omega),show N - (k+1)=N - k - 1 by omega]
   have HIN:Hid (∀ x q,rdEl m=some (x,q)→(D++[x]).length+q.length≤16777216):=fun x q hh=>by
    have h1:=(rdEl_in hh).2
    have h2:=HLN.out
    rw [List.length_append,List.length_singleton]
    omega
   go_wp2_with fail
   refine HCC.out.mono ?_
   rintro e w5 ⟨hr,⟨x,q,hx,rfl,hp⟩ | ⟨hx,rfl⟩⟩
   rotate_left
   ·exact ⟨rfl,HP.out.2.trans hr,.inr ⟨HNO.out hx,rfl⟩⟩
   have HRS2:Hid (rdLs (N - (k+1)) q (D++[x])=F):=HGO.out x q hx
   have HLN2:Hid ((D++[x]).length+q.length≤16777216):=HIN.out x q hx
   have HO5:Hid (Own w.heap.size w5 (.slice ao lo co) D):=hr.row HO.out hgl
   have HP5:Hid (IsP g q w5∧Rp g w w5):=⟨hp,HP.out.2.trans hr⟩
   have hz5:w.heap.size≤w5.heap.size:=Nat.le_trans hsz hr.size
   have hDl:D.length≤16777216:=by have:=HLN.out;omega
   clear hx hp hr HRS HLN HP HO HCC HNO HGO HIN hsz
   unfold Mem.val
   go_wp2_with (at_builtin;refine wpList_append_own _ rfl _ _ 45 rfl w.heap.size 56 i0 _ 5 48 Tryz.underlying45 hi0 hz0 hzs hzb rfl (by omega) _ D.length (fl D) rfl ?hown ⟨w5.heap.size,0,none⟩ 1 1 x.cs rfl rfl ?hnews (cs_one _) ?h63 ?hbytes ?hbase ?_)
   case hown=>(refine HO5.out.below ?_;repeat (first | exact Below.refl _ _ | refine below_drewN ?_ _ | refine Below.alloc ?_ (by simp) _ | refine Below.drew ?_))
   case hnews=>(intro j u hj;rw [Addr.add_lit];exact (cellsAt (heap_alloc_new w5 (.cells #[.string x.name,.int .i64 x.state,.int .i64 x.life,.int .i64 x.addr,.bool x.server] 56)) (0+j)).trans (by simpa [Mem.cs] using hj))
   case h63=>(unfold maxLen;omega)
   case hbytes=>omega
   case hbase=>(simp;omega)
   intro v' w6 r1 r2 r3
   have HO6:Hid (Own w.heap.size w6 v' (D++[x])):=own_snoc (by first | exact r1 | (rw [List.length_append];exact r1))
   have HP6:Hid (IsP g q w6∧Rp g w w6):=by
    have hb:Below w.heap.size w5 w6:=((Below.refl w.heap.size w5).alloc hz5 (.cells #[.string x.name,.int .i64 x.state,.int .i64 x.life,.int .i64 x.addr,.bool x.server] 56)).trans ((Below.refl _ _).grown (w:=w5.alloc (.cells #[.string x.name,.int .i64 x.state,.int .i64 x.life,.int .i64 x.addr,.bool x.server] 56)) ⟨r2.os,r2.tape,r2.output,r2.size,r2.block⟩ (by simp;omega) (fun j hj=>(HO5.out.lt j hj).1))
    refine ⟨⟨(hb.cell (p:=⟨g,0,none⟩) hgl).trans HP5.out.1.c0,?_,Nat.lt_of_lt_of_le HP5.out.1.hg hb.size⟩,?_⟩
    ·have:=HP5.out.1.hz;simp only [World.frozen?,hb.block g hgl] at this ⊢;exact this
    ·have hq:=HP5.out.2
     exact ⟨hb.os.trans hq.os,hb.tape.trans hq.tape,hb.output.trans hq.output,Nat.le_trans hq.size hb.size,fun k hk hkg=>(hb.block k hk).trans (hq.block k hk hkg)⟩
   have hz6:w.heap.size≤w6.heap.size:=HP6.out.2.size
   obtain ⟨a6,l6,c6,hv6⟩:∃ a l c,v'=.slice a l c:=by
    rcases r1.2 with ⟨hv,_⟩ | ⟨_,_,_,hv,_⟩
    ·exact ⟨_,_,_,hv⟩
    ·exact ⟨_,_,_,hv⟩
   subst hv6
   clear r1 r2 r3 HP5 HO5 hz5 hDl
   go_wp2_with fail
   exact ⟨⟨k+1,D++[x],q,a6,l6,c6,by omega,by go_num,rfl,HRS2,HLN2,HP6,HO6,hz6⟩,by simp [intOf];omega⟩
  ·have hd:decide ((k:Int) < (N:Int))=false:=by simp;omega
   have HFN:Hid (F=some (D,m)):=(show _=_ by rw [← HRS.out,show N - k=0 by omega];rfl)
   clear HRS HLN
   go_wp2_with fail
   go_ret
   exact ⟨HP.out.2,.inl ⟨D,m,_,HFN.out,rfl,HO.out,HP.out.1⟩⟩
namespace Sv
def rdLs:Nat→List UInt8→List Svc→Option (List Svc × List UInt8)
 | 0,l,D=>some (D,l)
 | n+1,l,D=>match rdEl l with
   | none=>none
   | some (m,r)=>rdLs n r (D++[m])
def rdList (l:List UInt8):Option (List Svc × List UInt8):=(rdN l).bind fun a=>if 0≤a.1 then rdLs a.1.toNat a.2 [] else none
theorem rdLs_no {n:Nat} {l:List UInt8} {D:List Svc} (h:rdEl l=none) (hn:0 < n):rdLs n l D=none:=by
 obtain ⟨m,rfl⟩:∃ m,n=m+1:=⟨n - 1,by omega⟩
 simp only [rdLs,h]
theorem rdLs_go {n:Nat} {l r:List UInt8} {x:Svc} {D:List Svc} (h:rdEl l=some (x,r)) (hn:0 < n):rdLs n l D=rdLs (n - 1) r (D++[x]):=by
 obtain ⟨m,rfl⟩:∃ m,n=m+1:=⟨n - 1,by omega⟩
 simp only [rdLs,h,Nat.add_sub_cancel]
theorem rdLs_ok:∀ {n:Nat} {l r:List UInt8} {D E:List Svc},rdLs n l D=some (E,r)→l.length≤140737488355328→(∀ m∈D,m.node.size≤maxLen∧m.idn.size≤maxLen∧m.name.size≤maxLen∧m.tag.size≤maxLen)→(∀ m∈E,m.node.size≤maxLen∧m.idn.size≤maxLen∧m.name.size≤maxLen∧m.tag.size≤maxLen)∧r.length≤l.length
 | 0,l,r,D,E,h,hl,hD=>by
   simp only [rdLs,Option.some.injEq,Prod.mk.injEq] at h
   obtain ⟨rfl,rfl⟩:=h
   exact ⟨hD,Nat.le_refl _⟩
 | n+1,l,r,D,E,h,hl,hD=>by
   simp only [rdLs] at h
   split at h
   ·cases h
   ·rename_i m r' he
    have hi:=rdEl_in he
    have hx:=rdLs_ok h (by omega) (fun y hy=>by
     rcases List.mem_append.1 hy with hy | hy
     ·exact hD y hy
     ·rw [List.mem_singleton.1 hy]
      unfold maxLen
      omega)
    exact ⟨hx.1,by omega⟩
theorem rdList_ok {l r:List UInt8} {E:List Svc} (h:rdList l=some (E,r)) (hl:l.length≤140737488355328):(∀ m∈E,m.node.size≤maxLen∧m.idn.size≤maxLen∧m.name.size≤maxLen∧m.tag.size≤maxLen)∧r.length≤l.length:=by
 unfold rdList at h
 rw [Option.bind_eq_some_iff] at h
 obtain ⟨⟨n,r1⟩,h1,h2⟩:=h
 have hi:=rdN_in h1
 split at h2
 ·have hx:=rdLs_ok h2 (by simp only;omega) (fun m hm=>by cases hm)
  exact ⟨hx.1,by have:=hx.2;simp only at this;omega⟩
 ·cases h2
def LsP (g:Nat) (w:World) (o:Option (List Svc × List UInt8)) (e:Ending) (w':World):Prop:=
 Rp g w w'∧((∃ D r v,o=some (D,r)∧e=.returned v∧Own w.heap.size w' v D∧IsP g r w')∨(o=none∧e=outP 1))
set_option maxHeartbeats 6400000 in
set_option maxRecDepth 100000 in
theorem list_b {B g c:Nat} {l:List UInt8} {w:World} (hV:Rv B w) (hBg:B≤g) (h:IsP g l w) (hs:l.length≤16777216) (hc:w.cell? ⟨c,0,none⟩=some (.pointer (some ⟨g,0,none⟩))) (hcg:c≠g) (hcl:c < w.heap.size) :
 Calls Tryz.prog 169 #[.pointer (some ⟨g,0,none⟩),.func (.func 170) #[] #[.pointer (some ⟨c,0,none⟩)]] w (LsP g w (rdList l)):=by
 obtain ⟨F,hF⟩:∃ F,F=rdList l:=⟨_,rfl⟩
 rw [← hF]
 unfold rdList at hF
 have HF:Hid (F=(rdN l).bind fun a=>if 0≤a.1 then rdLs a.1.toNat a.2 [] else none):=hF
 obtain ⟨i0,hi0,hz0,hzs,hzb⟩:=info_parts Tryz.info42
 have ef:∀ (args:Array Value) (W:World),(callFunc 170 args).run Tryz.prog W=.ok (.enter 170 args) W:=enters_of Tryz.func170 (by kernel_rfl) rfl
 have hgl:=h.hg
 have HN:Hid (Calls Tryz.prog 168 #[.pointer (some ⟨g,0,none⟩)] w (RdP g w (fun n:Int=>.int .i64 n) (rdN l))):=num_b hV h (by omega)
 have HONE:Hid (∀ (W:World) (m:List UInt8),Rp g w W→IsP g m W→m.length≤16777216→Calls Tryz.prog 170 #[.pointer (some ⟨c,0,none⟩)] W (RdP g W Svc.val (rdEl m))):=fun W m hW hm hml=>
  one_b (hV.rp hBg hW) hBg hm (by omega) (by
   have e:=hW.block c hcl hcg
   simp only [World.cell?] at hc ⊢
   rw [e];exact hc) hcg (Nat.lt_of_lt_of_le hcl hW.size)
 clear hF h hV hBg hc hcg hcl
 unfold LsP
 go_enter Tryz.func169,Tryz.ntmps169
 go_wp2_with fail
 refine HN.out.mono ?_
 rintro e w1 ⟨hr,⟨n,r,hn,rfl,hp⟩ | ⟨hn,rfl⟩⟩
 rotate_left
 ·exact ⟨rfl,hr,.inr ⟨bind_no HF.out hn,rfl⟩⟩
 have hF1:=bind_go HF.out hn
 have HF1:Hid (F=if 0≤n then rdLs n.toNat r [] else none):=hF1
 clear hF1
 obtain ⟨hin,hrl⟩:=rdN_in hn
 have HP1:Hid (IsP g r w1∧Rp g w w1):=⟨hp,hr⟩
 clear hn hp hr HF HN
 by_cases hn0:0≤n
 rotate_left
 ·have hd:decide (0≤n)=false:=by simpa using hn0
  have HF2:Hid (F=none):=HF1.out.trans (if_neg hn0)
  clear HF1 hn0
  go_wp2_with fail
  refine (need_no _ _).mono ?_
  rintro e w4 ⟨rfl,hw4⟩
  subst hw4
  exact ⟨rfl,HP1.out.2,.inr ⟨HF2.out,rfl⟩⟩
 have HF2:Hid (F=rdLs n.toNat r []):=HF1.out.trans (if_pos hn0)
 obtain ⟨N,rfl⟩:∃ N:Nat,n=(N:Int):=⟨n.toNat,by omega⟩
 have hd:decide ((0:Int)≤(N:Int))=true:=by simp
 have hN63:N≤9223372036854775807:=by have:=hin.2;omega
 have HF3:Hid (rdLs (N - 0) r []=F):=(show _=_ by have:=HF2.out;rw [Int.toNat_natCast] at this;exact this.symm)
 clear HF1 HF2 hn0 hin
 go_wp2_with fail
 refine (need_ok _ _).mono ?_
 rintro e w4 ⟨rfl,hw4⟩
 subst hw4
 clear hd
 have hz1:w.heap.size≤w4.heap.size:=HP1.out.2.size
 go_wp2_with fail
 go_loopw [6,13] (fun v i wr=>∃ (k:Nat) (D:List Svc) (m:List UInt8) (ao:Option Addr) (lo co:Nat),k≤N∧i=.int .i64 k∧v=.slice ao lo co∧Hid (rdLs (N - k) m D=F)∧Hid (D.length+m.length≤16777216)∧Hid (IsP g m wr∧Rp g w wr)∧Hid (Own w.heap.size wr v D)∧w.heap.size≤wr.heap.size) (fun _ i _=>N - (intOf i).toNat)
 case atStart=>exact ⟨0,[],r,none,0,0,Nat.zero_le _,rfl,rfl,HF3,(show _≤_ by simp only [List.length_nil];omega),HP1,own_nil _ _,hz1⟩
 case round=>
  obtain ⟨k,D,m,ao,lo,co,hk,rfl,rfl,HRS,HLN,HP,HO,hsz⟩:=hrel
  by_cases hlt:k < N
  ·have hd:decide ((k:Int) < (N:Int))=true:=by simp;omega
   have HCC:Hid (Calls Tryz.prog 170 #[.pointer (some ⟨c,0,none⟩)] wr (RdP g wr Svc.val (rdEl m))):=HONE.out wr m HP.out.2 HP.out.1 (by have:=HLN.out;omega)
   have HNO:Hid (rdEl m=none→F=none):=fun hh=>by rw [← HRS.out,rdLs_no hh (by omega)]
   have HGO:Hid (∀ x q,rdEl m=some (x,q)→rdLs (N - (k+1)) q (D++[x])=F):=fun x q hh=>by
    rw [← HRS.out,rdLs_go hh (by omega),show N - (k+1)=N - k - 1 by omega]
   have HIN:Hid (∀ x q,rdEl m=some (x,q)→(D++[x]).length+q.length≤16777216):=fun x q hh=>by
    have h1:=(rdEl_in hh).2
    have h2:=HLN.out
    rw [List.length_append,List.length_singleton]
    omega
   go_wp2_with fail
   refine HCC.out.mono ?_
   rintro e w5 ⟨hr,⟨x,q,hx,rfl,hp⟩ | ⟨hx,rfl⟩⟩
   rotate_left
   ·exact ⟨rfl,HP.out.2.trans hr,.inr ⟨HNO.out hx,rfl⟩⟩
   have HRS2:Hid (rdLs (N - (k+1)) q (D++[x])=F):=HGO.out x q hx
   have HLN2:Hid ((D++[x]).length+q.length≤16777216):=HIN.out x q hx
   have HO5:Hid (Own w.heap.size w5 (.slice ao lo co) D):=hr.row HO.out hgl
   have HP5:Hid (IsP g q w5∧Rp g w w5):=⟨hp,HP.out.2.trans hr⟩
   have hz5:w.heap.size≤w5.heap.size:=Nat.le_trans hsz hr.size
   have hDl:D.length≤16777216:=by have:=HLN.out;omega
   clear hx hp hr HRS HLN HP HO HCC HNO HGO HIN hsz
   unfold Svc.val
   go_wp2_with (at_builtin;refine wpList_append_own _ rfl _ _ 47 rfl w.heap.size 42 i0 _ 9 104 Tryz.underlying47 hi0 hz0 hzs hzb rfl (by omega) _ D.length (fl D) rfl ?hown ⟨w5.heap.size,0,none⟩ 1 1 x.cs rfl rfl ?hnews (cs_one _) ?h63 ?hbytes ?hbase ?_)
   case hown=>(refine HO5.out.below ?_;repeat (first | exact Below.refl _ _ | refine below_drewN ?_ _ | refine Below.alloc ?_ (by simp) _ | refine Below.drew ?_))
   case hnews=>(intro j u hj;rw [Addr.add_lit];exact (cellsAt (heap_alloc_new w5 (.cells #[.string x.node,.string x.idn,.string x.name,.string x.tag,.int .i64 x.addr,.int .i64 x.port,.bool x.passing,.int .i64 x.version,.bool x.gone] 42)) (0+j)).trans (by simpa [Svc.cs] using hj))
   case h63=>(unfold maxLen;omega)
   case hbytes=>omega
   case hbase=>(simp;omega)
   intro v' w6 r1 r2 r3
   have HO6:Hid (Own w.heap.size w6 v' (D++[x])):=own_snoc (by first | exact r1 | (rw [List.length_append];exact r1))
   have HP6:Hid (IsP g q w6∧Rp g w w6):=by
    have hb:Below w.heap.size w5 w6:=((Below.refl w.heap.size w5).alloc hz5 (.cells #[.string x.node,.string x.idn,.string x.name,.string x.tag,.int .i64 x.addr,.int .i64 x.port,.bool x.passing,.int .i64 x.version,.bool x.gone] 42)).trans ((Below.refl _ _).grown (w:=w5.alloc (.cells #[.string x.node,.string x.idn,.string x.name,.string x.tag,.int .i64 x.addr,.int .i64 x.port,.bool x.passing,.int .i64 x.version,.bool x.gone] 42)) ⟨r2.os,r2.tape,r2.output,r2.size,r2.block⟩ (by simp;omega) (fun j hj=>(HO5.out.lt j hj).1))
    refine ⟨⟨(hb.cell (p:=⟨g,0,none⟩) hgl).trans HP5.out.1.c0,?_,Nat.lt_of_lt_of_le HP5.out.1.hg hb.size⟩,?_⟩
    ·have:=HP5.out.1.hz;simp only [World.frozen?,hb.block g hgl] at this ⊢;exact this
    ·have hq:=HP5.out.2
     exact ⟨hb.os.trans hq.os,hb.tape.trans hq.tape,hb.output.trans hq.output,Nat.le_trans hq.size hb.size,fun k hk hkg=>(hb.block k hk).trans (hq.block k hk hkg)⟩
   have hz6:w.heap.size≤w6.heap.size:=HP6.out.2.size
   obtain ⟨a6,l6,c6,hv6⟩:∃ a l c,v'=.slice a l c:=by
    rcases r1.2 with ⟨hv,_⟩ | ⟨_,_,_,hv,_⟩
    ·exact ⟨_,_,_,hv⟩
    ·exact ⟨_,_,_,hv⟩
   subst hv6
   clear r1 r2 r3 HP5 HO5 hz5 hDl
   go_wp2_with fail
   exact ⟨⟨k+1,D++[x],q,a6,l6,c6,by omega,by go_num,rfl,HRS2,HLN2,HP6,HO6,hz6⟩,by simp [intOf];omega⟩
  ·have hd:decide ((k:Int) < (N:Int))=false:=by simp;omega
   have HFN:Hid (F=some (D,m)):=(show _=_ by rw [← HRS.out,show N - k=0 by omega];rfl)
   clear HRS HLN
   go_wp2_with fail
   go_ret
   exact ⟨HP.out.2,.inl ⟨D,m,_,HFN.out,rfl,HO.out,HP.out.1⟩⟩
end Sv
namespace Gw
def rdLs:Nat→List UInt8→List Gwy→Option (List Gwy × List UInt8)
 | 0,l,D=>some (D,l)
 | n+1,l,D=>match rdEl l with
   | none=>none
   | some (m,r)=>rdLs n r (D++[m])
def rdList (l:List UInt8):Option (List Gwy × List UInt8):=(rdN l).bind fun a=>if 0≤a.1 then rdLs a.1.toNat a.2 [] else none
theorem rdLs_no {n:Nat} {l:List UInt8} {D:List Gwy} (h:rdEl l=none) (hn:0 < n):rdLs n l D=none:=by
 obtain ⟨m,rfl⟩:∃ m,n=m+1:=⟨n - 1,by omega⟩
 simp only [rdLs,h]
theorem rdLs_go {n:Nat} {l r:List UInt8} {x:Gwy} {D:List Gwy} (h:rdEl l=some (x,r)) (hn:0 < n):rdLs n l D=rdLs (n - 1) r (D++[x]):=by
 obtain ⟨m,rfl⟩:∃ m,n=m+1:=⟨n - 1,by omega⟩
 simp only [rdLs,h,Nat.add_sub_cancel]
theorem rdLs_ok:∀ {n:Nat} {l r:List UInt8} {D E:List Gwy},rdLs n l D=some (E,r)→l.length≤140737488355328→(∀ m∈D,m.centre.size≤maxLen)→(∀ m∈E,m.centre.size≤maxLen)∧r.length≤l.length
 | 0,l,r,D,E,h,hl,hD=>by
   simp only [rdLs,Option.some.injEq,Prod.mk.injEq] at h
   obtain ⟨rfl,rfl⟩:=h
   exact ⟨hD,Nat.le_refl _⟩
 | n+1,l,r,D,E,h,hl,hD=>by
   simp only [rdLs] at h
   split at h
   ·cases h
   ·rename_i m r' he
    have hi:=rdEl_in he
    have hx:=rdLs_ok h (by omega) (fun y hy=>by
     rcases List.mem_append.1 hy with hy | hy
     ·exact hD y hy
     ·rw [List.mem_singleton.1 hy]
      unfold maxLen
      omega)
    exact ⟨hx.1,by omega⟩
theorem rdList_ok {l r:List UInt8} {E:List Gwy} (h:rdList l=some (E,r)) (hl:l.length≤140737488355328):(∀ m∈E,m.centre.size≤maxLen)∧r.length≤l.length:=by
 unfold rdList at h
 rw [Option.bind_eq_some_iff] at h
 obtain ⟨⟨n,r1⟩,h1,h2⟩:=h
 have hi:=rdN_in h1
 split at h2
 ·have hx:=rdLs_ok h2 (by simp only;omega) (fun m hm=>by cases hm)
  exact ⟨hx.1,by have:=hx.2;simp only at this;omega⟩
 ·cases h2
def LsP (g:Nat) (w:World) (o:Option (List Gwy × List UInt8)) (e:Ending) (w':World):Prop:=
 Rp g w w'∧((∃ D r v,o=some (D,r)∧e=.returned v∧Own w.heap.size w' v D∧IsP g r w')∨(o=none∧e=outP 1))
set_option maxHeartbeats 6400000 in
set_option maxRecDepth 100000 in
theorem list_b {B g c:Nat} {l:List UInt8} {w:World} (hV:Rv B w) (hBg:B≤g) (h:IsP g l w) (hs:l.length≤16777216) (hc:w.cell? ⟨c,0,none⟩=some (.pointer (some ⟨g,0,none⟩))) (hcg:c≠g) (hcl:c < w.heap.size) :
 Calls Tryz.prog 171 #[.pointer (some ⟨g,0,none⟩),.func (.func 172) #[] #[.pointer (some ⟨c,0,none⟩)]] w (LsP g w (rdList l)):=by
 obtain ⟨F,hF⟩:∃ F,F=rdList l:=⟨_,rfl⟩
 rw [← hF]
 unfold rdList at hF
 have HF:Hid (F=(rdN l).bind fun a=>if 0≤a.1 then rdLs a.1.toNat a.2 [] else none):=hF
 obtain ⟨i0,hi0,hz0,hzs,hzb⟩:=info_parts Tryz.info107
 have ef:∀ (args:Array Value) (W:World),(callFunc 172 args).run Tryz.prog W=.ok (.enter 172 args) W:=enters_of Tryz.func172 (by kernel_rfl) rfl
 have hgl:=h.hg
 have HN:Hid (Calls Tryz.prog 168 #[.pointer (some ⟨g,0,none⟩)] w (RdP g w (fun n:Int=>.int .i64 n) (rdN l))):=num_b hV h (by omega)
 have HONE:Hid (∀ (W:World) (m:List UInt8),Rp g w W→IsP g m W→m.length≤16777216→Calls Tryz.prog 172 #[.pointer (some ⟨c,0,none⟩)] W (RdP g W Gwy.val (rdEl m))):=fun W m hW hm hml=>
  one_b (hV.rp hBg hW) hBg hm (by omega) (by
   have e:=hW.block c hcl hcg
   simp only [World.cell?] at hc ⊢
   rw [e];exact hc) hcg (Nat.lt_of_lt_of_le hcl hW.size)
 clear hF h hV hBg hc hcg hcl
 unfold LsP
 go_enter Tryz.func171,Tryz.ntmps171
 go_wp2_with fail
 refine HN.out.mono ?_
 rintro e w1 ⟨hr,⟨n,r,hn,rfl,hp⟩ | ⟨hn,rfl⟩⟩
 rotate_left
 ·exact ⟨rfl,hr,.inr ⟨bind_no HF.out hn,rfl⟩⟩
 have hF1:=bind_go HF.out hn
 have HF1:Hid (F=if 0≤n then rdLs n.toNat r [] else none):=hF1
 clear hF1
 obtain ⟨hin,hrl⟩:=rdN_in hn
 have HP1:Hid (IsP g r w1∧Rp g w w1):=⟨hp,hr⟩
 clear hn hp hr HF HN
 by_cases hn0:0≤n
 rotate_left
 ·have hd:decide (0≤n)=false:=by simpa using hn0
  have HF2:Hid (F=none):=HF1.out.trans (if_neg hn0)
  clear HF1 hn0
  go_wp2_with fail
  refine (need_no _ _).mono ?_
  rintro e w4 ⟨rfl,hw4⟩
  subst hw4
  exact ⟨rfl,HP1.out.2,.inr ⟨HF2.out,rfl⟩⟩
 have HF2:Hid (F=rdLs n.toNat r []):=HF1.out.trans (if_pos hn0)
 obtain ⟨N,rfl⟩:∃ N:Nat,n=(N:Int):=⟨n.toNat,by omega⟩
 have hd:decide ((0:Int)≤(N:Int))=true:=by simp
 have hN63:N≤9223372036854775807:=by have:=hin.2;omega
 have HF3:Hid (rdLs (N - 0) r []=F):=(show _=_ by have:=HF2.out;rw [Int.toNat_natCast] at this;exact this.symm)
 clear HF1 HF2 hn0 hin
 go_wp2_with fail
 refine (need_ok _ _).mono ?_
 rintro e w4 ⟨rfl,hw4⟩
 subst hw4
 clear hd
 have hz1:w.heap.size≤w4.heap.size:=HP1.out.2.size
 go_wp2_with fail
 go_loopw [6,13] (fun v i wr=>∃ (k:Nat) (D:List Gwy) (m:List UInt8) (ao:Option Addr) (lo co:Nat),k≤N∧i=.int .i64 k∧v=.slice ao lo co∧Hid (rdLs (N - k) m D=F)∧Hid (D.length+m.length≤16777216)∧Hid (IsP g m wr∧Rp g w wr)∧Hid (Own w.heap.size wr v D)∧w.heap.size≤wr.heap.size) (fun _ i _=>N - (intOf i).toNat)
 case atStart=>exact ⟨0,[],r,none,0,0,Nat.zero_le _,rfl,rfl,HF3,(show _≤_ by simp only [List.length_nil];omega),HP1,own_nil _ _,hz1⟩
 case round=>
  obtain ⟨k,D,m,ao,lo,co,hk,rfl,rfl,HRS,HLN,HP,HO,hsz⟩:=hrel
  by_cases hlt:k < N
  ·have hd:decide ((k:Int) < (N:Int))=true:=by simp;omega
   have HCC:Hid (Calls Tryz.prog 172 #[.pointer (some ⟨c,0,none⟩)] wr (RdP g wr Gwy.val (rdEl m))):=HONE.out wr m HP.out.2 HP.out.1 (by have:=HLN.out;omega)
   have HNO:Hid (rdEl m=none→F=none):=fun hh=>by rw [← HRS.out,rdLs_no hh (by omega)]
   have HGO:Hid (∀ x q,rdEl m=some (x,q)→rdLs (N - (k+1)) q (D++[x])=F):=fun x q hh=>by
    rw [← HRS.out,rdLs_go hh (by omega),show N - (k+1)=N - k - 1 by omega]
   have HIN:Hid (∀ x q,rdEl m=some (x,q)→(D++[x]).length+q.length≤16777216):=fun x q hh=>by
    have h1:=(rdEl_in hh).2
    have h2:=HLN.out
    rw [List.length_append,List.length_singleton]
    omega
   go_wp2_with fail
   refine HCC.out.mono ?_
   rintro e w5 ⟨hr,⟨x,q,hx,rfl,hp⟩ | ⟨hx,rfl⟩⟩
   rotate_left
   ·exact ⟨rfl,HP.out.2.trans hr,.inr ⟨HNO.out hx,rfl⟩⟩
   have HRS2:Hid (rdLs (N - (k+1)) q (D++[x])=F):=HGO.out x q hx
   have HLN2:Hid ((D++[x]).length+q.length≤16777216):=HIN.out x q hx
   have HO5:Hid (Own w.heap.size w5 (.slice ao lo co) D):=hr.row HO.out hgl
   have HP5:Hid (IsP g q w5∧Rp g w w5):=⟨hp,HP.out.2.trans hr⟩
   have hz5:w.heap.size≤w5.heap.size:=Nat.le_trans hsz hr.size
   have hDl:D.length≤16777216:=by have:=HLN.out;omega
   clear hx hp hr HRS HLN HP HO HCC HNO HGO HIN hsz
   unfold Gwy.val
   go_wp2_with (at_builtin;refine wpList_append_own _ rfl _ _ 48 rfl w.heap.size 107 i0 _ 3 32 Tryz.underlying48 hi0 hz0 hzs hzb rfl (by omega) _ D.length (fl D) rfl ?hown ⟨w5.heap.size,0,none⟩ 1 1 x.cs rfl rfl ?hnews (cs_one _) ?h63 ?hbytes ?hbase ?_)
   case hown=>(refine HO5.out.below ?_;repeat (first | exact Below.refl _ _ | refine below_drewN ?_ _ | refine Below.alloc ?_ (by simp) _ | refine Below.drew ?_))
   case hnews=>(intro j u hj;rw [Addr.add_lit];exact (cellsAt (heap_alloc_new w5 (.cells #[.string x.centre,.int .i64 x.addr,.int .i64 x.version] 107)) (0+j)).trans (by simpa [Gwy.cs] using hj))
   case h63=>(unfold maxLen;omega)
   case hbytes=>omega
   case hbase=>(simp;omega)
   intro v' w6 r1 r2 r3
   have HO6:Hid (Own w.heap.size w6 v' (D++[x])):=own_snoc (by first | exact r1 | (rw [List.length_append];exact r1))
   have HP6:Hid (IsP g q w6∧Rp g w w6):=by
    have hb:Below w.heap.size w5 w6:=((Below.refl w.heap.size w5).alloc hz5 (.cells #[.string x.centre,.int .i64 x.addr,.int .i64 x.version] 107)).trans ((Below.refl _ _).grown (w:=w5.alloc (.cells #[.string x.centre,.int .i64 x.addr,.int .i64 x.version] 107)) ⟨r2.os,r2.tape,r2.output,r2.size,r2.block⟩ (by simp;omega) (fun j hj=>(HO5.out.lt j hj).1))
    refine ⟨⟨(hb.cell (p:=⟨g,0,none⟩) hgl).trans HP5.out.1.c0,?_,Nat.lt_of_lt_of_le HP5.out.1.hg hb.size⟩,?_⟩
    ·have:=HP5.out.1.hz;simp only [World.frozen?,hb.block g hgl] at this ⊢;exact this
    ·have hq:=HP5.out.2
     exact ⟨hb.os.trans hq.os,hb.tape.trans hq.tape,hb.output.trans hq.output,Nat.le_trans hq.size hb.size,fun k hk hkg=>(hb.block k hk).trans (hq.block k hk hkg)⟩
   have hz6:w.heap.size≤w6.heap.size:=HP6.out.2.size
   obtain ⟨a6,l6,c6,hv6⟩:∃ a l c,v'=.slice a l c:=by
    rcases r1.2 with ⟨hv,_⟩ | ⟨_,_,_,hv,_⟩
    ·exact ⟨_,_,_,hv⟩
    ·exact ⟨_,_,_,hv⟩
   subst hv6
   clear r1 r2 r3 HP5 HO5 hz5 hDl
   go_wp2_with fail
   exact ⟨⟨k+1,D++[x],q,a6,l6,c6,by omega,by go_num,rfl,HRS2,HLN2,HP6,HO6,hz6⟩,by simp [intOf];omega⟩
  ·have hd:decide ((k:Int) < (N:Int))=false:=by simp;omega
   have HFN:Hid (F=some (D,m)):=(show _=_ by rw [← HRS.out,show N - k=0 by omega];rfl)
   clear HRS HLN
   go_wp2_with fail
   go_ret
   exact ⟨HP.out.2,.inl ⟨D,m,_,HFN.out,rfl,HO.out,HP.out.1⟩⟩
end Gw
namespace Wh
def rdLs:Nat→List UInt8→List Whe→Option (List Whe × List UInt8)
 | 0,l,D=>some (D,l)
 | n+1,l,D=>match rdEl l with
   | none=>none
   | some (m,r)=>rdLs n r (D++[m])
def rdList (l:List UInt8):Option (List Whe × List UInt8):=(rdN l).bind fun a=>if 0≤a.1 then rdLs a.1.toNat a.2 [] else none
theorem rdLs_no {n:Nat} {l:List UInt8} {D:List Whe} (h:rdEl l=none) (hn:0 < n):rdLs n l D=none:=by
 obtain ⟨m,rfl⟩:∃ m,n=m+1:=⟨n - 1,by omega⟩
 simp only [rdLs,h]
theorem rdLs_go {n:Nat} {l r:List UInt8} {x:Whe} {D:List Whe} (h:rdEl l=some (x,r)) (hn:0 < n):rdLs n l D=rdLs (n - 1) r (D++[x]):=by
 obtain ⟨m,rfl⟩:∃ m,n=m+1:=⟨n - 1,by omega⟩
 simp only [rdLs,h,Nat.add_sub_cancel]
theorem rdLs_ok:∀ {n:Nat} {l r:List UInt8} {D E:List Whe},rdLs n l D=some (E,r)→l.length≤140737488355328→(∀ m∈D,m.node.size≤maxLen)→(∀ m∈E,m.node.size≤maxLen)∧r.length≤l.length
 | 0,l,r,D,E,h,hl,hD=>by
   simp only [rdLs,Option.some.injEq,Prod.mk.injEq] at h
   obtain ⟨rfl,rfl⟩:=h
   exact ⟨hD,Nat.le_refl _⟩
 | n+1,l,r,D,E,h,hl,hD=>by
   simp only [rdLs] at h
   split at h
   ·cases h
   ·rename_i m r' he
    have hi:=rdEl_in he
    have hx:=rdLs_ok h (by omega) (fun y hy=>by
     rcases List.mem_append.1 hy with hy | hy
     ·exact hD y hy
     ·rw [List.mem_singleton.1 hy]
      unfold maxLen
      omega)
    exact ⟨hx.1,by omega⟩
theorem rdList_ok {l r:List UInt8} {E:List Whe} (h:rdList l=some (E,r)) (hl:l.length≤140737488355328):(∀ m∈E,m.node.size≤maxLen)∧r.length≤l.length:=by
 unfold rdList at h
 rw [Option.bind_eq_some_iff] at h
 obtain ⟨⟨n,r1⟩,h1,h2⟩:=h
 have hi:=rdN_in h1
 split at h2
 ·have hx:=rdLs_ok h2 (by simp only;omega) (fun m hm=>by cases hm)
  exact ⟨hx.1,by have:=hx.2;simp only at this;omega⟩
 ·cases h2
def LsP (g:Nat) (w:World) (o:Option (List Whe × List UInt8)) (e:Ending) (w':World):Prop:=
 Rp g w w'∧((∃ D r v,o=some (D,r)∧e=.returned v∧Own w.heap.size w' v D∧IsP g r w')∨(o=none∧e=outP 1))
set_option maxHeartbeats 6400000 in
set_option maxRecDepth 100000 in
theorem list_b {B g c:Nat} {l:List UInt8} {w:World} (hV:Rv B w) (hBg:B≤g) (h:IsP g l w) (hs:l.length≤16777216) (hc:w.cell? ⟨c,0,none⟩=some (.pointer (some ⟨g,0,none⟩))) (hcg:c≠g) (hcl:c < w.heap.size) :
 Calls Tryz.prog 173 #[.pointer (some ⟨g,0,none⟩),.func (.func 174) #[] #[.pointer (some ⟨c,0,none⟩)]] w (LsP g w (rdList l)):=by
 obtain ⟨F,hF⟩:∃ F,F=rdList l:=⟨_,rfl⟩
 rw [← hF]
 unfold rdList at hF
 have HF:Hid (F=(rdN l).bind fun a=>if 0≤a.1 then rdLs a.1.toNat a.2 [] else none):=hF
 obtain ⟨i0,hi0,hz0,hzs,hzb⟩:=info_parts Tryz.info109
 have ef:∀ (args:Array Value) (W:World),(callFunc 174 args).run Tryz.prog W=.ok (.enter 174 args) W:=enters_of Tryz.func174 (by kernel_rfl) rfl
 have hgl:=h.hg
 have HN:Hid (Calls Tryz.prog 168 #[.pointer (some ⟨g,0,none⟩)] w (RdP g w (fun n:Int=>.int .i64 n) (rdN l))):=num_b hV h (by omega)
 have HONE:Hid (∀ (W:World) (m:List UInt8),Rp g w W→IsP g m W→m.length≤16777216→Calls Tryz.prog 174 #[.pointer (some ⟨c,0,none⟩)] W (RdP g W Whe.val (rdEl m))):=fun W m hW hm hml=>
  one_b (hV.rp hBg hW) hBg hm (by omega) (by
   have e:=hW.block c hcl hcg
   simp only [World.cell?] at hc ⊢
   rw [e];exact hc) hcg (Nat.lt_of_lt_of_le hcl hW.size)
 clear hF h hV hBg hc hcg hcl
 unfold LsP
 go_enter Tryz.func173,Tryz.ntmps173
 go_wp2_with fail
 refine HN.out.mono ?_
 rintro e w1 ⟨hr,⟨n,r,hn,rfl,hp⟩ | ⟨hn,rfl⟩⟩
 rotate_left
 ·exact ⟨rfl,hr,.inr ⟨bind_no HF.out hn,rfl⟩⟩
 have hF1:=bind_go HF.out hn
 have HF1:Hid (F=if 0≤n then rdLs n.toNat r [] else none):=hF1
 clear hF1
 obtain ⟨hin,hrl⟩:=rdN_in hn
 have HP1:Hid (IsP g r w1∧Rp g w w1):=⟨hp,hr⟩
 clear hn hp hr HF HN
 by_cases hn0:0≤n
 rotate_left
 ·have hd:decide (0≤n)=false:=by simpa using hn0
  have HF2:Hid (F=none):=HF1.out.trans (if_neg hn0)
  clear HF1 hn0
  go_wp2_with fail
  refine (need_no _ _).mono ?_
  rintro e w4 ⟨rfl,hw4⟩
  subst hw4
  exact ⟨rfl,HP1.out.2,.inr ⟨HF2.out,rfl⟩⟩
 have HF2:Hid (F=rdLs n.toNat r []):=HF1.out.trans (if_pos hn0)
 obtain ⟨N,rfl⟩:∃ N:Nat,n=(N:Int):=⟨n.toNat,by omega⟩
 have hd:decide ((0:Int)≤(N:Int))=true:=by simp
 have hN63:N≤9223372036854775807:=by have:=hin.2;omega
 have HF3:Hid (rdLs (N - 0) r []=F):=(show _=_ by have:=HF2.out;rw [Int.toNat_natCast] at this;exact this.symm)
 clear HF1 HF2 hn0 hin
 go_wp2_with fail
 refine (need_ok _ _).mono ?_
 rintro e w4 ⟨rfl,hw4⟩
 subst hw4
 clear hd
 have hz1:w.heap.size≤w4.heap.size:=HP1.out.2.size
 go_wp2_with fail
 go_loopw [6,13] (fun v i wr=>∃ (k:Nat) (D:List Whe) (m:List UInt8) (ao:Option Addr) (lo co:Nat),k≤N∧i=.int .i64 k∧v=.slice ao lo co∧Hid (rdLs (N - k) m D=F)∧Hid (D.length+m.length≤16777216)∧Hid (IsP g m wr∧Rp g w wr)∧Hid (Own w.heap.size wr v D)∧w.heap.size≤wr.heap.size) (fun _ i _=>N - (intOf i).toNat)
 case atStart=>exact ⟨0,[],r,none,0,0,Nat.zero_le _,rfl,rfl,HF3,(show _≤_ by simp only [List.length_nil];omega),HP1,own_nil _ _,hz1⟩
 case round=>
  obtain ⟨k,D,m,ao,lo,co,hk,rfl,rfl,HRS,HLN,HP,HO,hsz⟩:=hrel
  by_cases hlt:k < N
  ·have hd:decide ((k:Int) < (N:Int))=true:=by simp;omega
   have HCC:Hid (Calls Tryz.prog 174 #[.pointer (some ⟨c,0,none⟩)] wr (RdP g wr Whe.val (rdEl m))):=HONE.out wr m HP.out.2 HP.out.1 (by have:=HLN.out;omega)
   have HNO:Hid (rdEl m=none→F=none):=fun hh=>by rw [← HRS.out,rdLs_no hh (by omega)]
   have HGO:Hid (∀ x q,rdEl m=some (x,q)→rdLs (N - (k+1)) q (D++[x])=F):=fun x q hh=>by
    rw [← HRS.out,rdLs_go hh (by omega),show N - (k+1)=N - k - 1 by omega]
   have HIN:Hid (∀ x q,rdEl m=some (x,q)→(D++[x]).length+q.length≤16777216):=fun x q hh=>by
    have h1:=(rdEl_in hh).2
    have h2:=HLN.out
    rw [List.length_append,List.length_singleton]
    omega
   go_wp2_with fail
   refine HCC.out.mono ?_
   rintro e w5 ⟨hr,⟨x,q,hx,rfl,hp⟩ | ⟨hx,rfl⟩⟩
   rotate_left
   ·exact ⟨rfl,HP.out.2.trans hr,.inr ⟨HNO.out hx,rfl⟩⟩
   have HRS2:Hid (rdLs (N - (k+1)) q (D++[x])=F):=HGO.out x q hx
   have HLN2:Hid ((D++[x]).length+q.length≤16777216):=HIN.out x q hx
   have HO5:Hid (Own w.heap.size w5 (.slice ao lo co) D):=hr.row HO.out hgl
   have HP5:Hid (IsP g q w5∧Rp g w w5):=⟨hp,HP.out.2.trans hr⟩
   have hz5:w.heap.size≤w5.heap.size:=Nat.le_trans hsz hr.size
   have hDl:D.length≤16777216:=by have:=HLN.out;omega
   clear hx hp hr HRS HLN HP HO HCC HNO HGO HIN hsz
   unfold Whe.val
   go_wp2_with (at_builtin;refine wpList_append_own _ rfl _ _ 49 rfl w.heap.size 109 i0 _ 6 56 Tryz.underlying49 hi0 hz0 hzs hzb rfl (by omega) _ D.length (fl D) rfl ?hown ⟨w5.heap.size,0,none⟩ 1 1 x.cs rfl rfl ?hnews (cs_one _) ?h63 ?hbytes ?hbase ?_)
   case hown=>(refine HO5.out.below ?_;repeat (first | exact Below.refl _ _ | refine below_drewN ?_ _ | refine Below.alloc ?_ (by simp) _ | refine Below.drew ?_))
   case hnews=>(intro j u hj;rw [Addr.add_lit];exact (cellsAt (heap_alloc_new w5 (.cells #[.string x.node,.int .i64 x.x,.int .i64 x.y,.int .i64 x.z,.int .i64 x.h,.int .i64 x.s] 109)) (0+j)).trans (by simpa [Whe.cs] using hj))
   case h63=>(unfold maxLen;omega)
   case hbytes=>omega
   case hbase=>(simp;omega)
   intro v' w6 r1 r2 r3
   have HO6:Hid (Own w.heap.size w6 v' (D++[x])):=own_snoc (by first | exact r1 | (rw [List.length_append];exact r1))
   have HP6:Hid (IsP g q w6∧Rp g w w6):=by
    have hb:Below w.heap.size w5 w6:=((Below.refl w.heap.size w5).alloc hz5 (.cells #[.string x.node,.int .i64 x.x,.int .i64 x.y,.int .i64 x.z,.int .i64 x.h,.int .i64 x.s] 109)).trans ((Below.refl _ _).grown (w:=w5.alloc (.cells #[.string x.node,.int .i64 x.x,.int .i64 x.y,.int .i64 x.z,.int .i64 x.h,.int .i64 x.s] 109)) ⟨r2.os,r2.tape,r2.output,r2.size,r2.block⟩ (by simp;omega) (fun j hj=>(HO5.out.lt j hj).1))
    refine ⟨⟨(hb.cell (p:=⟨g,0,none⟩) hgl).trans HP5.out.1.c0,?_,Nat.lt_of_lt_of_le HP5.out.1.hg hb.size⟩,?_⟩
    ·have:=HP5.out.1.hz;simp only [World.frozen?,hb.block g hgl] at this ⊢;exact this
    ·have hq:=HP5.out.2
     exact ⟨hb.os.trans hq.os,hb.tape.trans hq.tape,hb.output.trans hq.output,Nat.le_trans hq.size hb.size,fun k hk hkg=>(hb.block k hk).trans (hq.block k hk hkg)⟩
   have hz6:w.heap.size≤w6.heap.size:=HP6.out.2.size
   obtain ⟨a6,l6,c6,hv6⟩:∃ a l c,v'=.slice a l c:=by
    rcases r1.2 with ⟨hv,_⟩ | ⟨_,_,_,hv,_⟩
    ·exact ⟨_,_,_,hv⟩
    ·exact ⟨_,_,_,hv⟩
   subst hv6
   clear r1 r2 r3 HP5 HO5 hz5 hDl
   go_wp2_with fail
   exact ⟨⟨k+1,D++[x],q,a6,l6,c6,by omega,by go_num,rfl,HRS2,HLN2,HP6,HO6,hz6⟩,by simp [intOf];omega⟩
  ·have hd:decide ((k:Int) < (N:Int))=false:=by simp;omega
   have HFN:Hid (F=some (D,m)):=(show _=_ by rw [← HRS.out,show N - k=0 by omega];rfl)
   clear HRS HLN
   go_wp2_with fail
   go_ret
   exact ⟨HP.out.2,.inl ⟨D,m,_,HFN.out,rfl,HO.out,HP.out.1⟩⟩
end Wh
end Go.Proofs.YtffdoiokmiklgaaGreatDoor
