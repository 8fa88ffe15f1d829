import Derived.Test.YtffdoiokmiklgaaGreatDoorX29
import Derived.Test.YtffdoiokmiklgaaGreatDoorX20
import Derived.Test.YtffdoiokmiklgaaGreatDoorX27
import Derived.Deep.CutRange
import Derived.Lib.QuietBelow
namespace Go.Proofs.YtffdoiokmiklgaaGreatDoor
open Go.RowKit
abbrev QC (c:Nat) (s:ByteArray) (a:Nat) (bad:Bool) (w:World):Prop:=w.heap[c]?=some (.cells #[.string s,.int .i64 a,.bool bad] 102 (0,0))
def IsQ (c:Nat) (s:ByteArray) (o:Option (List UInt8)) (w:World):Prop:=∃ a:Nat,a≤s.size∧(∀ l,o=some l→s.data.toList.drop a=l)∧QC c s a o.isNone w
theorem QC.at {c a:Nat} {s:ByteArray} {bad:Bool} {W:World} (h:QC c s a bad W) (b:Nat):QC c s b bad (W.setCell ⟨c,1,none⟩ (.int .i64 b)):=Joins.block_setCell (i:=1) h (.int .i64 b)
theorem QC.spoil {c a:Nat} {s:ByteArray} {bad:Bool} {W:World} (h:QC c s a bad W) (b:Bool):QC c s a b (W.setCell ⟨c,2,none⟩ (.bool b)):=Joins.block_setCell (i:=2) h (.bool b)
theorem Rp.one {g i:Nat} {w w1:World} (h:Rp g w w1) (v:Value):Rp g w (w1.setCell ⟨g,i,none⟩ v):=
 ⟨h.os,h.tape,h.output,by simpa using h.size,fun k hk hg=>(Below.heap_setCell _ _ _ k hg).trans (h.block k hk hg)⟩
theorem Rp.drewN {g:Nat} {w w1:World} (h:Rp g w w1) (n:Nat):Rp g w (w1.drewN n):=⟨h.os,h.tape,h.output,h.size,h.block⟩
theorem drop_at {s:ByteArray} {a:Nat} (h:a < s.size):s.data.toList.drop a=s[a] :: s.data.toList.drop (a+1):=by
 have h':a < s.data.toList.length:=h
 rw [List.drop_eq_getElem_cons h']
 congr 1
theorem drop_end {s:ByteArray} {a:Nat} (h:s.size≤a):s.data.toList.drop a=[]:=List.drop_eq_nil_of_le h
theorem ext_take {s:ByteArray} {a b:Nat}:(s.extract a b).data.toList=(s.data.toList.drop a).take (b - a):=by
 rw [ByteArray.data_extract];simp [List.extract]
theorem free3 {W:World} {b:Nat} {T:TypeId} {C:Array Value} (h:W.heap[b]?=some (.cells C T (0,0))) (i:Nat):W.frozen? ⟨b,i,none⟩=false:=by simp [World.frozen?,h]
theorem cells3 {W:World} {b:Nat} {T:TypeId} {f:Nat × Nat} {c0 c1 c2:Value} (h:W.heap[b]?=some (.cells #[c0,c1,c2] T f)):W.cell? ⟨b,0,none⟩=some c0∧W.cell? ⟨b,1,none⟩=some c1∧W.cell? ⟨b,2,none⟩=some c2:=⟨cellsAt h 0,cellsAt h 1,cellsAt h 2⟩
def goB (m:Nat) (l:List UInt8):Bool:=match l with
 | c :: _=>decide (48≤c.toNat∧c.toNat≤57∧m < 1099511627776)
 | []=>false
theorem goB_no {m:Nat} {l:List UInt8} (h:goB m l=false):dgs m l=(m,0):=by
 cases l with
 | nil=>rfl
 | cons c r=>
   rw [dgs,if_neg (by simpa [goB] using h)]
theorem goB_yes {m:Nat} {c:UInt8} {r:List UInt8} (h:goB m (c :: r)=true):(48≤c.toNat∧c.toNat≤57∧m < 1099511627776)∧dgs m (c :: r)=((dgs (10 * m+(c.toNat - 48)) r).1,(dgs (10 * m+(c.toNat - 48)) r).2+1):=by
 have h':48≤c.toNat∧c.toNat≤57∧m < 1099511627776:=by simpa [goB] using h
 exact ⟨h',by rw [dgs,if_pos h']⟩
theorem goB_lt {m:Nat} {s:ByteArray} {b:Nat} (h:goB m (s.data.toList.drop b)=true):b < s.size:=by
 apply Classical.byContradiction
 intro hn
 rw [drop_end (by omega)] at h
 cases h
def NumSays (c:Nat) (s:ByteArray) (a:Nat) (bad:Bool) (FL:Nat) (N:Int) (L:List UInt8) (w:World) (e:Ending) (w':World):Prop:=
 Rp c w w'∧(((bad=false∧FL < L.length∧L.take (FL+1)=numB N)∧e=.returned (.int .i64 N)∧QC c s (a+FL+1) false w')∨(¬ (bad=false∧FL < L.length∧L.take (FL+1)=numB N)∧e=.returned (.int .i64 0)∧∃ b,b≤s.size∧QC c s b true w'))
set_option maxHeartbeats 200000000 in
set_option maxRecDepth 100000 in
theorem cnum_walk (c a:Nat) (s:ByteArray) (bad:Bool) (w:World) (h:QC c s a bad w) (hs:s.size≤16777216) (ha:a≤s.size) :
 Calls Tryz.prog 52 #[.pointer (some ⟨c,0,none⟩)] w (NumSays c s a bad (far (s.data.toList.drop a)) (val (s.data.toList.drop a)) (s.data.toList.drop a) w):=by
 have HQ:Hid (QC c s a bad w):=h
 have HR:Hid (Rp c w w):=Rp.refl _ _
 have hcl:c < w.heap.size:=(Array.getElem?_eq_some_iff.1 h).1
 obtain ⟨L,hL⟩:∃ L,L=s.data.toList.drop a:=⟨_,rfl⟩
 have HL:Hid (L=s.data.toList.drop a):=hL
 rw [← hL]
 clear hL
 have HLL:Hid (L.length=s.size - a):=by
  show _=_
  rw [HL.out,List.length_drop];rfl
 obtain ⟨x0,x1,x2⟩:=cells3 h
 clear h
 have HNG:Hid (ngB L=true→a < s.size∧bhd L=s.data.toList.drop (a+1)):=fun hn=>by
  have hlt:a < s.size:=by
   apply Classical.byContradiction
   intro h2
   rw [HL.out,drop_end (by omega)] at hn
   cases hn
  refine ⟨hlt,?_⟩
  unfold bhd
  rw [if_pos hn,HL.out,drop_at hlt];rfl
 have HNO:Hid (ngB L=false→bhd L=s.data.toList.drop a):=fun hn=>by
  unfold bhd
  rw [if_neg (by rw [hn];exact Bool.false_ne_true)];exact HL.out
 have HAT:Hid (∀ ha:a < s.size,(((s[a].toNat:Nat):Int) == 45)=ngB L):=fun ha=>by
  rw [HL.out,drop_at ha]
  unfold ngB
  split
  ·rename_i q hq
   simp only [List.cons.injEq] at hq
   rw [hq.1];rfl
  ·rename_i hq
   apply Bool.eq_false_iff.2
   intro h2
   have h3:(s[a].toNat:Int)=45:=by simpa using h2
   exact hq _ (by rw [show s[a]=45 from UInt8.toNat_inj.1 (by have:(45:UInt8).toNat=45:=rfl;omega)])
 have HEMP:Hid (¬ a < s.size→ngB L=false):=fun h2=>by
  rw [HL.out,drop_end (by omega)];rfl
 obtain ⟨FL,hFL⟩:∃ FL,FL=far L:=⟨_,rfl⟩
 obtain ⟨N,hNL⟩:∃ N,N=val L:=⟨_,rfl⟩
 have HFN:Hid (FL=far L∧N=val L):=⟨hFL,hNL⟩
 rw [← hFL,← hNL]
 clear hFL hNL
 generalize hng:ngB L=ng at *
 have HNGE:Hid (ngB L=ng):=hng
 clear hng
 go_enter Tryz.func52,Tryz.ntmps52
 go_upto_region 2 with fail
 go_cut [4] from 10 to 31 (fun b wx=>b=.bool ng∧Hid (QC c s a bad wx∧Rp c w wx))
 case first=>
  by_cases hlt:a < s.size
  ·have hd:decide ((a:Int) < (s.size:Int))=true:=by simp;omega
   have hi0:(0:Int)≤(a:Int):=by omega
   have hi1:(a:Int) < (s.size:Int):=by omega
   have hi2:((a:Int)).toNat=a:=by omega
   have hat:=HAT.out hlt
   go_quiet (fail)
   go_wp2_with fail
   go_meet
   case rel=>exact ⟨by first | rfl | (rw [← hat]) | (simp [← hat]),HQ.out,HR.out.drewN _⟩
  ·have hd:decide ((a:Int) < (s.size:Int))=false:=by simp;omega
   have hnf:=HEMP.out hlt
   subst hnf
   go_quiet (fail)
   go_wp2_with fail
   go_meet
   case rel=>exact ⟨rfl,HQ.out,HR.out.drewN _⟩
 case rest=>
  obtain ⟨rfl,HW⟩:=hcut
  clear x0 x1 x2 HQ HR HAT HEMP
  cases ng with
  | true=>
    have hng:ngB L=true:=HNGE.out
    obtain ⟨hal,hbh⟩:=HNG.out rfl
    have HBH:Hid (bhd L=s.data.toList.drop (a+1)):=hbh
    obtain ⟨y0,y1,y2⟩:=cells3 HW.out.1
    have z1:=free3 HW.out.1 1
    have HFAR:Hid (FL=1+(dgs 0 (bhd L)).2∧N = -((dgs 0 (bhd L)).1:Int)):=by
     rw [HFN.out.1,HFN.out.2]
     unfold far val;rw [if_pos hng,if_pos hng];exact ⟨rfl,rfl⟩
    clear hng hbh HNO HNG
    go_wp2_with fail
    have HS:Hid (QC c s (a+1) bad (wc.setCell ⟨c,1,none⟩ (.int .i64 ((a+1:Nat):Int)))∧Rp c w (wc.setCell ⟨c,1,none⟩ (.int .i64 ((a+1:Nat):Int)))):=⟨HW.out.1.at (a+1),HW.out.2.one _⟩
    have hal1:a+1≤s.size:=hal
    go_loopw [5] (fun vn wr=>∃ (m j:Nat),vn=.int .i64 m∧m < 10995116277760∧(a+1)+j≤s.size∧Hid (dgs 0 (s.data.toList.drop (a+1))=((dgs m (s.data.toList.drop ((a+1)+j))).1,(dgs m (s.data.toList.drop ((a+1)+j))).2+j))∧Hid (QC c s ((a+1)+j) bad wr∧Rp c w wr)) (fun _ wr=>s.size - (match wr.cell? ⟨c,1,none⟩ with | some v=>(intOf v).toNat | none=>0))
    case atStart=>exact ⟨0,0,rfl,by omega,hal1,rfl,HS⟩
    case round=>
     obtain ⟨m,j,rfl,hm,hj,HD,HQ⟩:=hrel
     obtain ⟨y0,y1,y2⟩:=cells3 HQ.out.1
     have HY1:Hid (wr.cell? ⟨c,1,none⟩=some (.int .i64 (((a+1)+j:Nat):Int))):=y1
     have z1:=free3 HQ.out.1 1
     have z2:=free3 HQ.out.1 2
     generalize hb:(a+1)+j=b at *
     have HBJ:Hid ((a+1)+j=b):=hb
     clear hb
     obtain ⟨gB,hgB⟩:∃ g,goB m (s.data.toList.drop b)=g:=⟨_,rfl⟩
     have HGB:Hid (goB m (s.data.toList.drop b)=gB):=hgB
     clear hgB
     go_upto_region 6 with fail
     go_cut [77] from 40 to 98 (fun g wx=>g=.bool gB∧Hid (QC c s b bad wx∧Rp c w wx))
     case first=>
      by_cases hlt:b < s.size
      ·have d1:decide ((b:Int) < (s.size:Int))=true:=by simp;omega
       have hi0:(0:Int)≤(b:Int):=by omega
       have hi1:(b:Int) < (s.size:Int):=by omega
       have hi2:((b:Int)).toNat=b:=by omega
       have hgb:decide (48≤s[b].toNat∧s[b].toNat≤57∧m < 1099511627776)=gB:=by
        have:=HGB.out
        rw [drop_at hlt] at this
        exact this
       by_cases e1:48≤s[b].toNat
       ·have d2:decide ((48:Int)≤((s[b].toNat:Nat):Int))=true:=by simp;omega
        by_cases e2:s[b].toNat≤57
        ·have d3:decide (((s[b].toNat:Nat):Int)≤(57:Int))=true:=by simp;omega
         by_cases e3:m < 1099511627776
         ·have d4:decide ((m:Int) < (1099511627776:Int))=true:=by simp;omega
          have hg1:gB=true:=by rw [← hgb];exact decide_eq_true ⟨e1,e2,e3⟩
          subst hg1
          clear hgb e1 e2 e3
          go_quiet (fail)
          go_wp2_with fail
          go_meet
          case rel=>exact ⟨rfl,HQ.out.1,HQ.out.2.drewN _⟩
         ·have d4:decide ((m:Int) < (1099511627776:Int))=false:=by simp;omega
          have hg1:gB=false:=by rw [← hgb];exact decide_eq_false (fun h=>e3 h.2.2)
          subst hg1
          clear hgb e1 e2 e3
          go_quiet (fail)
          go_wp2_with fail
          go_meet
          case rel=>exact ⟨rfl,HQ.out.1,HQ.out.2.drewN _⟩
        ·have d3:decide (((s[b].toNat:Nat):Int)≤(57:Int))=false:=by simp;omega
         have hg1:gB=false:=by rw [← hgb];exact decide_eq_false (fun h=>e2 h.2.1)
         subst hg1
         clear hgb e1 e2
         go_quiet (fail)
         go_wp2_with fail
         go_meet
         case rel=>exact ⟨rfl,HQ.out.1,HQ.out.2.drewN _⟩
       ·have d2:decide ((48:Int)≤((s[b].toNat:Nat):Int))=false:=by simp;omega
        have hg1:gB=false:=by rw [← hgb];exact decide_eq_false (fun h=>e1 h.1)
        subst hg1
        clear hgb e1
        go_quiet (fail)
        go_wp2_with fail
        go_meet
        case rel=>exact ⟨rfl,HQ.out.1,HQ.out.2.drewN _⟩
      ·have d1:decide ((b:Int) < (s.size:Int))=false:=by simp;omega
       have hg1:gB=false:=by
        have:=HGB.out
        rw [drop_end (by omega)] at this
        exact this.symm
       subst hg1
       go_quiet (fail)
       go_wp2_with fail
       go_meet
       case rel=>exact ⟨rfl,HQ.out.1,HQ.out.2.drewN _⟩
     case rest=>
      obtain ⟨rfl,HWQ⟩:=hcut
      clear y0 y1 y2 z1 z2 HQ
      obtain ⟨y0,y1,y2⟩:=cells3 HWQ.out.1
      have z1:=free3 HWQ.out.1 1
      have z2:=free3 HWQ.out.1 2
      cases gB with
      | true=>
        have hlt:=goB_lt HGB.out
        have hi0:(0:Int)≤(b:Int):=by omega
        have hi1:(b:Int) < (s.size:Int):=by omega
        have hi2:((b:Int)).toNat=b:=by omega
        have HST:Hid ((48≤s[b].toNat∧s[b].toNat≤57∧m < 1099511627776)∧dgs m (s.data.toList.drop b)=((dgs (10 * m+(s[b].toNat - 48)) (s.data.toList.drop (b+1))).1,(dgs (10 * m+(s[b].toNat - 48)) (s.data.toList.drop (b+1))).2+1)):=by
         have h1:=HGB.out
         rw [drop_at hlt] at h1 ⊢
         exact goB_yes h1
        have hw1:IntKind.i64.wrap (10 * (m:Int))=10 * (m:Int):=by rw [IntKind.wrap_i64];have:=HST.out.1.2.2;omega
        have hw2:IntKind.i64.wrap ((s[b].toNat:Nat):Int)=((s[b].toNat:Nat):Int):=by rw [IntKind.wrap_i64];have:=s[b].toNat_lt;omega
        have hw3:IntKind.i64.wrap (10 * (m:Int)+((s[b].toNat:Nat):Int))=10 * (m:Int)+((s[b].toNat:Nat):Int):=by rw [IntKind.wrap_i64];have:=HST.out.1;omega
        have hw4:IntKind.i64.wrap (10 * (m:Int)+((s[b].toNat:Nat):Int) - 48)=((10 * m+(s[b].toNat - 48):Nat):Int):=by rw [IntKind.wrap_i64];have:=HST.out.1;omega
        go_wp2_with fail
        go_quiet (fail)
        go_wp2_with fail
        have y1n:((wc.drewN nq).setCell ⟨c,1,none⟩ (.int .i64 ((b:Int)+1))).cell? ⟨c,1,none⟩=some (.int .i64 ((b:Int)+1)):=World.cell?_setCell_same _ _ _ (show (wc.drewN nq).cell? ⟨c,1,none⟩=some _ from y1)
        refine ⟨⟨10 * m+(s[b].toNat - 48),j+1,congrArg (Value.int .i64) (by have:=HST.out.1;omega),by have:=HST.out.1;omega,by have:=HBJ.out;omega,?_,?_,?_⟩,?_⟩
        ·show _=_
         have e:=HD.out
         rw [HST.out.2] at e
         rw [e,show (a+1)+(j+1)=b+1 by have:=HBJ.out;omega]
         simp only [Nat.add_assoc,Nat.add_comm 1]
        ·have e:=(show QC c s b bad (wc.drewN nq) from HWQ.out.1).at (b+1)
         rw [show (a+1)+(j+1)=b+1 by have:=HBJ.out;omega]
         exact e
        ·exact (HWQ.out.2.drewN _).one _
        ·rw [y1n,HY1.out]
         simp only [intOf]
         have:=HBJ.out
         omega
      | false=>
        have hdn:dgs 0 (s.data.toList.drop (a+1))=(m,j):=by
         rw [HD.out,goB_no HGB.out];simp
        have HFB:Hid (a+FL=b):=by
         show _=_
         have h1:=HFAR.out.1
         rw [HBH.out,hdn] at h1
         have h2:=HBJ.out
         simp only at h1
         omega
        have HVL:Hid (N = -(m:Int)):=by
         have h1:=HFAR.out.2
         rw [HBH.out,hdn] at h1
         exact h1
        have HSM:Hid (In63 (-(m:Int))):=by rw [← HVL.out,HFN.out.2];exact sm_in (val_sm L)
        have hwn:IntKind.i64.wrap (-(m:Int)) = -(m:Int):=by rw [IntKind.wrap_i64];omega
        clear hdn HD HGB HFAR HBH HFN
        cases bad with
        | true=>
          go_wp2_with fail
          go_quiet (fail)
          go_wp2_with fail
          go_ret
          exact ⟨(HWQ.out.2.drewN _).one _,.inr ⟨fun h=>(by cases h.1),rfl,b,hj,(show QC c s b true (wc.drewN nq) from HWQ.out.1).spoil true⟩⟩
        | false=>
          by_cases hlt:b < s.size
          ·have d1:decide ((s.size:Int)≤(b:Int))=false:=by simp;omega
           have hwb:IntKind.i64.wrap ((b:Int)+1)=((b+1:Nat):Int):=by rw [IntKind.wrap_i64];omega
           have hi0:(0:Int)≤(a:Int):=by omega
           have hi1:(a:Int)≤((b+1:Nat):Int):=by have:=HFB.out;omega
           have hi2:((b+1:Nat):Int)≤(s.size:Int):=by omega
           have hi3:((a:Int)).toNat=a:=by omega
           have hi4:(((b+1:Nat):Int)).toNat=b+1:=by omega
           obtain ⟨D,hD⟩:∃ D,D=bstr (numB (-(m:Int))):=⟨_,rfl⟩
           have hN:∀ d os,Calls Tryz.prog 83 #[.int .i64 (-(m:Int))] (Go.Sort.grow (redrawn wc d) os) fun e w''=>e=.returned (.string D)∧∃ p:Regrown,w''=Go.Sort.grow (redrawn wc p.d) p.os:=fun d os=>by rw [hD];exact Calls.regrown_of (dec_any _ _ HSM.out)
           have F0:∀ d os,(Go.Sort.grow (redrawn wc d) os).cell? ⟨c,0,none⟩=some (.string s):=cell_regrown y0
           have F1:∀ d os,(Go.Sort.grow (redrawn wc d) os).cell? ⟨c,1,none⟩=some (.int .i64 (b:Int)):=cell_regrown y1
           have F2:∀ d os,(Go.Sort.grow (redrawn wc d) os).cell? ⟨c,2,none⟩=some (.bool false):=cell_regrown y2
           have HX:Hid ((s.extract a (b+1)).data.toList=L.take (FL+1)):=by
            show _=_
            rw [ext_take,HL.out,show b+1 - a=FL+1 by have:=HFB.out;omega]
           have HDD:Hid (D.data.toList=numB N):=by show _=_;rw [hD,HVL.out];exact bstr_list _
           have HLT:Hid (FL < L.length):=by show _ < _;have h1:=HLL.out;have h2:=HFB.out;omega
           have heq:((s.extract a (b+1)).toList == D.toList)=decide (L.take (FL+1)=numB N):=by
            rw [ByteArray.toList_eq,ByteArray.toList_eq,HX.out,HDD.out]
            rw [Bool.eq_iff_iff];simp
           clear hD
           generalize hbn:((b+1:Nat):Int)=bn at hwb hi1 hi2 hi4
           have HBN:Hid (((b+1:Nat):Int)=bn):=hbn
           clear hbn
           by_cases hq:L.take (FL+1)=numB N
           ·have hqb:((s.extract a (b+1)).toList == D.toList)=true:=by rw [heq];exact decide_eq_true hq
            have HQT:Hid (L.take (FL+1)=numB N):=hq
            clear heq hq y0 y1 y2
            go_wp2_with fail
            refine wp_region_quiet_below (by kernel_rfl) (by kernel_rfl) ?_
            repeat (quiet_step (exact hN _ _))
            refine wpQuiet_nil ?_
            intro _ hw'
            obtain ⟨⟨dq,osq⟩,hw''⟩:=hw'
            subst hw''
            have hbq:Below wc.heap.size wc (Go.Sort.grow (redrawn wc dq) osq):=below_regrown wc dq osq
            clear hN F0 F1 F2
            generalize Go.Sort.grow (redrawn wc dq) osq=wz at *
            have HZ:Hid (QC c s b false wz∧Rp c w wz):=⟨(hbq.block c (Array.getElem?_eq_some_iff.1 HWQ.out.1).1).trans HWQ.out.1,HWQ.out.2.trans (Rp.of_below hbq (Nat.le_refl _))⟩
            obtain ⟨y0,y1,y2⟩:=cells3 HZ.out.1
            have z1:=free3 HZ.out.1 1
            clear hbq z2
            go_wp2_with fail
            go_ret
            exact ⟨HZ.out.2.one _,.inl ⟨⟨rfl,HLT.out,HQT.out⟩,by rw [HVL.out];rfl,by rw [HFB.out,← HBN.out];exact HZ.out.1.at (b+1)⟩⟩
           ·have hqb:((s.extract a (b+1)).toList == D.toList)=false:=by rw [heq];exact decide_eq_false hq
            have HQT:Hid (¬ L.take (FL+1)=numB N):=hq
            clear heq hq y0 y1 y2
            go_wp2_with fail
            refine wp_region_quiet_below (by kernel_rfl) (by kernel_rfl) ?_
            repeat (quiet_step (exact hN _ _))
            refine wpQuiet_nil ?_
            intro _ hw'
            obtain ⟨⟨dq,osq⟩,hw''⟩:=hw'
            subst hw''
            have hbq:Below wc.heap.size wc (Go.Sort.grow (redrawn wc dq) osq):=below_regrown wc dq osq
            clear hN F0 F1 F2
            generalize Go.Sort.grow (redrawn wc dq) osq=wz at *
            have HZ:Hid (QC c s b false wz∧Rp c w wz):=⟨(hbq.block c (Array.getElem?_eq_some_iff.1 HWQ.out.1).1).trans HWQ.out.1,HWQ.out.2.trans (Rp.of_below hbq (Nat.le_refl _))⟩
            obtain ⟨y0,y1,y2⟩:=cells3 HZ.out.1
            have z2:=free3 HZ.out.1 2
            clear hbq z1
            go_wp2_with fail
            go_ret
            exact ⟨HZ.out.2.one _,.inr ⟨fun h=>absurd h.2.2 HQT.out,rfl,b,hj,HZ.out.1.spoil true⟩⟩
          ·have d1:decide ((s.size:Int)≤(b:Int))=true:=by simp;omega
           go_wp2_with fail
           go_quiet (fail)
           go_wp2_with fail
           go_ret
           exact ⟨(HWQ.out.2.drewN _).one _,.inr ⟨fun h=>(by have h1:=h.2.1;have h2:=HLL.out;have h3:=HFB.out;omega),rfl,b,hj,(show QC c s b false (wc.drewN nq) from HWQ.out.1).spoil true⟩⟩
  | false=>
    have hng:ngB L=false:=HNGE.out
    have HBH:Hid (bhd L=s.data.toList.drop a):=HNO.out rfl
    have HFAR:Hid (FL=0+(dgs 0 (bhd L)).2∧N=((dgs 0 (bhd L)).1:Int)):=by
     rw [HFN.out.1,HFN.out.2]
     unfold far val;rw [if_neg (by rw [hng];exact Bool.false_ne_true),if_neg (by rw [hng];exact Bool.false_ne_true)];exact ⟨rfl,rfl⟩
    clear hng HNO HNG
    go_wp2_with fail
    have HS:Hid (QC c s a bad wc∧Rp c w wc):=HW
    have hal1:a≤s.size:=ha
    go_loopw [5] (fun vn wr=>∃ (m j:Nat),vn=.int .i64 m∧m < 10995116277760∧a+j≤s.size∧Hid (dgs 0 (s.data.toList.drop a)=((dgs m (s.data.toList.drop (a+j))).1,(dgs m (s.data.toList.drop (a+j))).2+j))∧Hid (QC c s (a+j) bad wr∧Rp c w wr)) (fun _ wr=>s.size - (match wr.cell? ⟨c,1,none⟩ with | some v=>(intOf v).toNat | none=>0))
    case atStart=>exact ⟨0,0,rfl,by omega,hal1,rfl,HS⟩
    case round=>
     obtain ⟨m,j,rfl,hm,hj,HD,HQ⟩:=hrel
     obtain ⟨y0,y1,y2⟩:=cells3 HQ.out.1
     have HY1:Hid (wr.cell? ⟨c,1,none⟩=some (.int .i64 ((a+j:Nat):Int))):=y1
     have z1:=free3 HQ.out.1 1
     have z2:=free3 HQ.out.1 2
     generalize hb:a+j=b at *
     have HBJ:Hid (a+j=b):=hb
     clear hb
     obtain ⟨gB,hgB⟩:∃ g,goB m (s.data.toList.drop b)=g:=⟨_,rfl⟩
     have HGB:Hid (goB m (s.data.toList.drop b)=gB):=hgB
     clear hgB
     go_upto_region 6 with fail
     go_cut [77] from 40 to 98 (fun g wx=>g=.bool gB∧Hid (QC c s b bad wx∧Rp c w wx))
     case first=>
      by_cases hlt:b < s.size
      ·have d1:decide ((b:Int) < (s.size:Int))=true:=by simp;omega
       have hi0:(0:Int)≤(b:Int):=by omega
       have hi1:(b:Int) < (s.size:Int):=by omega
       have hi2:((b:Int)).toNat=b:=by omega
       have hgb:decide (48≤s[b].toNat∧s[b].toNat≤57∧m < 1099511627776)=gB:=by
        have:=HGB.out
        rw [drop_at hlt] at this
        exact this
       by_cases e1:48≤s[b].toNat
       ·have d2:decide ((48:Int)≤((s[b].toNat:Nat):Int))=true:=by simp;omega
        by_cases e2:s[b].toNat≤57
        ·have d3:decide (((s[b].toNat:Nat):Int)≤(57:Int))=true:=by simp;omega
         by_cases e3:m < 1099511627776
         ·have d4:decide ((m:Int) < (1099511627776:Int))=true:=by simp;omega
          have hg1:gB=true:=by rw [← hgb];exact decide_eq_true ⟨e1,e2,e3⟩
          subst hg1
          clear hgb e1 e2 e3
          go_quiet (fail)
          go_wp2_with fail
          go_meet
          case rel=>exact ⟨rfl,HQ.out.1,HQ.out.2.drewN _⟩
         ·have d4:decide ((m:Int) < (1099511627776:Int))=false:=by simp;omega
          have hg1:gB=false:=by rw [← hgb];exact decide_eq_false (fun h=>e3 h.2.2)
          subst hg1
          clear hgb e1 e2 e3
          go_quiet (fail)
          go_wp2_with fail
          go_meet
          case rel=>exact ⟨rfl,HQ.out.1,HQ.out.2.drewN _⟩
        ·have d3:decide (((s[b].toNat:Nat):Int)≤(57:Int))=false:=by simp;omega
         have hg1:gB=false:=by rw [← hgb];exact decide_eq_false (fun h=>e2 h.2.1)
         subst hg1
         clear hgb e1 e2
         go_quiet (fail)
         go_wp2_with fail
         go_meet
         case rel=>exact ⟨rfl,HQ.out.1,HQ.out.2.drewN _⟩
       ·have d2:decide ((48:Int)≤((s[b].toNat:Nat):Int))=false:=by simp;omega
        have hg1:gB=false:=by rw [← hgb];exact decide_eq_false (fun h=>e1 h.1)
        subst hg1
        clear hgb e1
        go_quiet (fail)
        go_wp2_with fail
        go_meet
        case rel=>exact ⟨rfl,HQ.out.1,HQ.out.2.drewN _⟩
      ·have d1:decide ((b:Int) < (s.size:Int))=false:=by simp;omega
       have hg1:gB=false:=by
        have:=HGB.out
        rw [drop_end (by omega)] at this
        exact this.symm
       subst hg1
       go_quiet (fail)
       go_wp2_with fail
       go_meet
       case rel=>exact ⟨rfl,HQ.out.1,HQ.out.2.drewN _⟩
     case rest=>
      obtain ⟨rfl,HWQ⟩:=hcut
      clear y0 y1 y2 z1 z2 HQ
      obtain ⟨y0,y1,y2⟩:=cells3 HWQ.out.1
      have z1:=free3 HWQ.out.1 1
      have z2:=free3 HWQ.out.1 2
      cases gB with
      | true=>
        have hlt:=goB_lt HGB.out
        have hi0:(0:Int)≤(b:Int):=by omega
        have hi1:(b:Int) < (s.size:Int):=by omega
        have hi2:((b:Int)).toNat=b:=by omega
        have HST:Hid ((48≤s[b].toNat∧s[b].toNat≤57∧m < 1099511627776)∧dgs m (s.data.toList.drop b)=((dgs (10 * m+(s[b].toNat - 48)) (s.data.toList.drop (b+1))).1,(dgs (10 * m+(s[b].toNat - 48)) (s.data.toList.drop (b+1))).2+1)):=by
         have h1:=HGB.out
         rw [drop_at hlt] at h1 ⊢
         exact goB_yes h1
        have hw1:IntKind.i64.wrap (10 * (m:Int))=10 * (m:Int):=by rw [IntKind.wrap_i64];have:=HST.out.1.2.2;omega
        have hw2:IntKind.i64.wrap ((s[b].toNat:Nat):Int)=((s[b].toNat:Nat):Int):=by rw [IntKind.wrap_i64];have:=s[b].toNat_lt;omega
        have hw3:IntKind.i64.wrap (10 * (m:Int)+((s[b].toNat:Nat):Int))=10 * (m:Int)+((s[b].toNat:Nat):Int):=by rw [IntKind.wrap_i64];have:=HST.out.1;omega
        have hw4:IntKind.i64.wrap (10 * (m:Int)+((s[b].toNat:Nat):Int) - 48)=((10 * m+(s[b].toNat - 48):Nat):Int):=by rw [IntKind.wrap_i64];have:=HST.out.1;omega
        go_wp2_with fail
        go_quiet (fail)
        go_wp2_with fail
        have y1n:((wc.drewN nq).setCell ⟨c,1,none⟩ (.int .i64 ((b:Int)+1))).cell? ⟨c,1,none⟩=some (.int .i64 ((b:Int)+1)):=World.cell?_setCell_same _ _ _ (show (wc.drewN nq).cell? ⟨c,1,none⟩=some _ from y1)
        refine ⟨⟨10 * m+(s[b].toNat - 48),j+1,congrArg (Value.int .i64) (by have:=HST.out.1;omega),by have:=HST.out.1;omega,by have:=HBJ.out;omega,?_,?_,?_⟩,?_⟩
        ·show _=_
         have e:=HD.out
         rw [HST.out.2] at e
         rw [e,show a+(j+1)=b+1 by have:=HBJ.out;omega]
         simp only [Nat.add_assoc,Nat.add_comm 1]
        ·have e:=(show QC c s b bad (wc.drewN nq) from HWQ.out.1).at (b+1)
         rw [show a+(j+1)=b+1 by have:=HBJ.out;omega]
         exact e
        ·exact (HWQ.out.2.drewN _).one _
        ·rw [y1n,HY1.out]
         simp only [intOf]
         have:=HBJ.out
         omega
      | false=>
        have hdn:dgs 0 (s.data.toList.drop a)=(m,j):=by
         rw [HD.out,goB_no HGB.out];simp
        have HFB:Hid (a+FL=b):=by
         show _=_
         have h1:=HFAR.out.1
         rw [HBH.out,hdn] at h1
         have h2:=HBJ.out
         simp only at h1
         omega
        have HVL:Hid (N=(m:Int)):=by
         have h1:=HFAR.out.2
         rw [HBH.out,hdn] at h1
         exact h1
        have HSM:Hid (In63 ((m:Int))):=by rw [← HVL.out,HFN.out.2];exact sm_in (val_sm L)
        have hwn:IntKind.i64.wrap (-(m:Int)) = -(m:Int):=by rw [IntKind.wrap_i64];omega
        clear hdn HD HGB HFAR HBH HFN
        cases bad with
        | true=>
          go_wp2_with fail
          go_quiet (fail)
          go_wp2_with fail
          go_ret
          exact ⟨(HWQ.out.2.drewN _).one _,.inr ⟨fun h=>(by cases h.1),rfl,b,hj,(show QC c s b true (wc.drewN nq) from HWQ.out.1).spoil true⟩⟩
        | false=>
          by_cases hlt:b < s.size
          ·have d1:decide ((s.size:Int)≤(b:Int))=false:=by simp;omega
           have hwb:IntKind.i64.wrap ((b:Int)+1)=((b+1:Nat):Int):=by rw [IntKind.wrap_i64];omega
           have hi0:(0:Int)≤(a:Int):=by omega
           have hi1:(a:Int)≤((b+1:Nat):Int):=by have:=HFB.out;omega
           have hi2:((b+1:Nat):Int)≤(s.size:Int):=by omega
           have hi3:((a:Int)).toNat=a:=by omega
           have hi4:(((b+1:Nat):Int)).toNat=b+1:=by omega
           obtain ⟨D,hD⟩:∃ D,D=bstr (numB ((m:Int))):=⟨_,rfl⟩
           have hN:∀ d os,Calls Tryz.prog 83 #[.int .i64 ((m:Int))] (Go.Sort.grow (redrawn wc d) os) fun e w''=>e=.returned (.string D)∧∃ p:Regrown,w''=Go.Sort.grow (redrawn wc p.d) p.os:=fun d os=>by rw [hD];exact Calls.regrown_of (dec_any _ _ HSM.out)
           have F0:∀ d os,(Go.Sort.grow (redrawn wc d) os).cell? ⟨c,0,none⟩=some (.string s):=cell_regrown y0
           have F1:∀ d os,(Go.Sort.grow (redrawn wc d) os).cell? ⟨c,1,none⟩=some (.int .i64 (b:Int)):=cell_regrown y1
           have F2:∀ d os,(Go.Sort.grow (redrawn wc d) os).cell? ⟨c,2,none⟩=some (.bool false):=cell_regrown y2
           have HX:Hid ((s.extract a (b+1)).data.toList=L.take (FL+1)):=by
            show _=_
            rw [ext_take,HL.out,show b+1 - a=FL+1 by have:=HFB.out;omega]
           have HDD:Hid (D.data.toList=numB N):=by show _=_;rw [hD,HVL.out];exact bstr_list _
           have HLT:Hid (FL < L.length):=by show _ < _;have h1:=HLL.out;have h2:=HFB.out;omega
           have heq:((s.extract a (b+1)).toList == D.toList)=decide (L.take (FL+1)=numB N):=by
            rw [ByteArray.toList_eq,ByteArray.toList_eq,HX.out,HDD.out]
            rw [Bool.eq_iff_iff];simp
           clear hD
           generalize hbn:((b+1:Nat):Int)=bn at hwb hi1 hi2 hi4
           have HBN:Hid (((b+1:Nat):Int)=bn):=hbn
           clear hbn
           by_cases hq:L.take (FL+1)=numB N
           ·have hqb:((s.extract a (b+1)).toList == D.toList)=true:=by rw [heq];exact decide_eq_true hq
            have HQT:Hid (L.take (FL+1)=numB N):=hq
            clear heq hq y0 y1 y2
            go_wp2_with fail
            refine wp_region_quiet_below (by kernel_rfl) (by kernel_rfl) ?_
            repeat (quiet_step (exact hN _ _))
            refine wpQuiet_nil ?_
            intro _ hw'
            obtain ⟨⟨dq,osq⟩,hw''⟩:=hw'
            subst hw''
            have hbq:Below wc.heap.size wc (Go.Sort.grow (redrawn wc dq) osq):=below_regrown wc dq osq
            clear hN F0 F1 F2
            generalize Go.Sort.grow (redrawn wc dq) osq=wz at *
            have HZ:Hid (QC c s b false wz∧Rp c w wz):=⟨(hbq.block c (Array.getElem?_eq_some_iff.1 HWQ.out.1).1).trans HWQ.out.1,HWQ.out.2.trans (Rp.of_below hbq (Nat.le_refl _))⟩
            obtain ⟨y0,y1,y2⟩:=cells3 HZ.out.1
            have z1:=free3 HZ.out.1 1
            clear hbq z2
            go_wp2_with fail
            go_ret
            exact ⟨HZ.out.2.one _,.inl ⟨⟨rfl,HLT.out,HQT.out⟩,by rw [HVL.out];rfl,by rw [HFB.out,← HBN.out];exact HZ.out.1.at (b+1)⟩⟩
           ·have hqb:((s.extract a (b+1)).toList == D.toList)=false:=by rw [heq];exact decide_eq_false hq
            have HQT:Hid (¬ L.take (FL+1)=numB N):=hq
            clear heq hq y0 y1 y2
            go_wp2_with fail
            refine wp_region_quiet_below (by kernel_rfl) (by kernel_rfl) ?_
            repeat (quiet_step (exact hN _ _))
            refine wpQuiet_nil ?_
            intro _ hw'
            obtain ⟨⟨dq,osq⟩,hw''⟩:=hw'
            subst hw''
            have hbq:Below wc.heap.size wc (Go.Sort.grow (redrawn wc dq) osq):=below_regrown wc dq osq
            clear hN F0 F1 F2
            generalize Go.Sort.grow (redrawn wc dq) osq=wz at *
            have HZ:Hid (QC c s b false wz∧Rp c w wz):=⟨(hbq.block c (Array.getElem?_eq_some_iff.1 HWQ.out.1).1).trans HWQ.out.1,HWQ.out.2.trans (Rp.of_below hbq (Nat.le_refl _))⟩
            obtain ⟨y0,y1,y2⟩:=cells3 HZ.out.1
            have z2:=free3 HZ.out.1 2
            clear hbq z1
            go_wp2_with fail
            go_ret
            exact ⟨HZ.out.2.one _,.inr ⟨fun h=>absurd h.2.2 HQT.out,rfl,b,hj,HZ.out.1.spoil true⟩⟩
          ·have d1:decide ((s.size:Int)≤(b:Int))=true:=by simp;omega
           go_wp2_with fail
           go_quiet (fail)
           go_wp2_with fail
           go_ret
           exact ⟨(HWQ.out.2.drewN _).one _,.inr ⟨fun h=>(by have h1:=h.2.1;have h2:=HLL.out;have h3:=HFB.out;omega),rfl,b,hj,(show QC c s b false (wc.drewN nq) from HWQ.out.1).spoil true⟩⟩
end Go.Proofs.YtffdoiokmiklgaaGreatDoor
