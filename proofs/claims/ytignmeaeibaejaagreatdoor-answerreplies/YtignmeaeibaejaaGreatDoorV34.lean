import Derived.Test.YtignmeaeibaejaaGreatDoorV33
namespace Go.Proofs.YtignmeaeibaejaaGreatDoor
open Go.RowKit
def aft:Option Nat→Int
 | none => -1
 | some q=>q
def okAt (W:World) (k:Nat):Nat:=match W.cell? ⟨k,2,none⟩ with
 | some (.bool false)=>1
 | _=>0
theorem okAt_of {W:World} {k a:Nat} {t:ByteArray} {bad:Bool} (h:IsC k t a bad W):okAt W k=if bad then 0 else 1:=by
 have c2:W.cell? ⟨k,2,none⟩=some (.bool bad):=cellsAt h 2
 unfold okAt
 rw [c2]
 cases bad<;>rfl
structure Cn (k:Nat) (t:ByteArray) (w:World) (RES:Option (List ByteArray × Nat)) (lv:Value) (bg:Nat) (p:Option Nat) (bad:Bool) (W:World):Prop where
 rd:Rd k w W
 st:∃ D b,OwnS w.heap.size W lv D∧IsC k t b bad W∧b≤20000∧(bad=true→RES=none)∧(bad=false→b≤t.size∧bg≤t.size∧D.length≤8∧(∀ l∈D,l.size≤30)∧nmF t b bg D p=RES∧∀ q,p=some q→q≤t.size)
set_option maxHeartbeats 1600000 in
set_option maxRecDepth 100000 in
theorem sname_b (k a:Nat) (t:ByteArray) (w:World) (h:IsC k t a false w) (hs:t.size≤1000) (ha:a≤t.size) :
 Calls Tryz.prog 37 #[.pointer (some ⟨k,0,none⟩)] w fun e w'=>Hid (Rd k w w')∧((∃ ls q,nmF t a a [] none=some (ls,q)∧(ls.length≤8∧∀ l∈ls,l.size≤30)∧q≤t.size∧e=.returned (.string (mk (jn (ls.map bts))))∧Hid (IsC k t q false w'))∨(nmF t a a [] none=none∧e=.returned (.string ⟨#[]⟩)∧∃ b,b≤20000∧Hid (IsC k t b true w'))):=by
 obtain ⟨i0,hi0,hz0,hzs,hzb⟩:=info_parts Tryz.info9
 have c1:w.cell? ⟨k,1,none⟩=some (.int .i64 a):=cellsAt h 1
 have HI:Hid (IsC k t a false w):=h
 have hkw:=h.lt
 clear h
 obtain ⟨RES,hRES⟩:∃ R,R=nmF t a a [] none:=⟨_,rfl⟩
 rw [← hRES]
 have HRES:Hid (nmF t a a [] none=RES):=hRES.symm
 clear hRES
 go_enter Tryz.func37,Tryz.ntmps37
 go_wp2_with fail
 go_loopw [3,4,5] (fun lv bv av wr=>∃ bg p bad,bv=.int .i64 (bg:Nat)∧av=.int .i64 (aft p)∧Hid (Cn k t w RES lv bg p bad wr)) (fun lv bv _ wr=>okAt wr k * (1+(intOf bv).toNat * 9+(8 - lenOf lv)))
 case atStart=>exact ⟨a,none,false,rfl,rfl,(⟨Rd.refl _ _,[],a,ownS_nil _ _,HI.out,by omega,(fun e=>by cases e),fun _=>⟨ha,ha,by simp,(fun l hl=>by cases hl),HRES.out,fun q e=>by cases e⟩⟩:Cn k t w RES _ a none false w)⟩
 case round=>
  obtain ⟨bg,p,bad,rfl,rfl,HC⟩:=hrel
  obtain ⟨D,b,ho,hc,hb2,hbt,hbf⟩:=HC.out.st
  have HO:Hid (OwnS w.heap.size wr _ D):=ho
  have HCC:Hid (IsC k t b bad wr):=hc
  have HD:Hid (Rd k w wr):=HC.out.rd
  clear ho hc HC
  have c2:wr.cell? ⟨k,2,none⟩=some (.bool bad):=cellsAt HCC.out 2
  cases bad with
  | true=>
    have HN:Hid (RES=none):=hbt rfl
    clear hbt hbf
    go_wp2_with fail
    go_ret
    exact ⟨HD,.inr ⟨HN.out,rfl,b,hb2,HCC⟩⟩
  | false=>
    obtain ⟨hb,hbg,hD8,hsm,hnm,hpq⟩:=hbf rfl
    have HSM:Hid (∀ l∈D,l.size≤30):=hsm
    have HNM:Hid (nmF t b bg D p=RES):=hnm
    have HPQ:Hid (∀ q,p=some q→q≤t.size):=hpq
    have HMS:Hid (okAt wr k=1):=okAt_of HCC.out
    clear hsm hnm hpq hbt hbf
    go_wp2_with fail
    refine (snum_b k b 1 t false wr HCC.out hs (by omega) (by omega) (by omega)).mono ?_
    rintro e w1 ⟨HD1,⟨hle,rfl,HI1⟩ | ⟨hno,rfl,b1,_,hb1,HI1⟩⟩
    rotate_left
    ·have HN:Hid (RES=none):=HNM.out.symm.trans (nmF_no (by omega))
     have d2:w1.cell? ⟨k,2,none⟩=some (.bool true):=cellsAt HI1.out 2
     have HDD:Hid (Rd k w w1):=HD.out.trans HD1.out
     clear HNM
     go_wp2_with fail
     go_ret
     exact ⟨HDD,.inr ⟨HN.out,rfl,b1,hb1,HI1⟩⟩
    have HDD:Hid (Rd k w w1):=HD.out.trans HD1.out
    have HO1:Hid (OwnS w.heap.size w1 _ D):=HD1.out.own HO.out hkw
    have d1:w1.cell? ⟨k,1,none⟩=some (.int .i64 ((b+1:Nat):Int)):=cellsAt HI1.out 1
    have d2:w1.cell? ⟨k,2,none⟩=some (.bool false):=cellsAt HI1.out 2
    have z1:w1.frozen? ⟨k,1,none⟩=false:=frozenAt HI1.out 1
    have z2:w1.frozen? ⟨k,2,none⟩=false:=frozenAt HI1.out 2
    clear HD1 HD HO HCC c2
    by_cases h0:rnum t b 1=0
    ·have HR1:Hid (RES=some (D,p.getD (b+1))):=HNM.out.symm.trans (nmF_end (by omega) h0)
     rw [h0]
     clear h0 HNM
     cases p with
     | none=>
       have ha1:aft none = -1:=rfl
       go_wp2_with fail
       refine (nameOf_any w.heap.size D _ w1 HO1.out (by omega) HSM.out).mono ?_
       rintro e w2 ⟨rfl,hw2⟩
       subst hw2
       go_wp2_with fail
       go_ret
       exact ⟨HDD,.inl ⟨D,b+1,HR1.out,⟨hD8,HSM.out⟩,hle,rfl,HI1⟩⟩
     | some q=>
       have ha1:aft (some q)=(q:Int):=rfl
       have ha2:decide ((0:Int)≤(q:Int))=true:=by simp
       have hq:=HPQ.out q rfl
       have HO2:Hid (OwnS w.heap.size (w1.setCell ⟨k,1,none⟩ (.int .i64 (q:Int))) _ D):=((Rd.refl k w1).here 1 _).own HO1.out hkw
       go_wp2_with fail
       refine (nameOf_any w.heap.size D _ _ HO2.out (by omega) HSM.out).mono ?_
       rintro e w2 ⟨rfl,hw2⟩
       subst hw2
       go_wp2_with fail
       go_ret
       exact ⟨HDD.out.here 1 _,.inl ⟨D,q,HR1.out,⟨hD8,HSM.out⟩,hq,rfl,HI1.out.at q⟩⟩
    ·by_cases h192:192≤rnum t b 1
     ·have HR1:Hid (RES=if b+2≤t.size∧rnum t b 2 - 49152 < bg then nmF t (rnum t b 2 - 49152) (rnum t b 2 - 49152) D (some (p.getD (b+2))) else none):=HNM.out.symm.trans (nmF_rest (by omega) h192)
      have hf2:rnum t b 2=rnum t b 1 * 256+rnum t (b+1) 1:=by
       simp only [rnum,Nat.zero_mul,Nat.zero_add,Nat.add_zero]
      have hfl:=rnum_lt t b 1
      have hgl:=rnum_lt t (b+1) 1
      have hm0:((rnum t b 1:Int) == 0)=false:=beq_eq_false_iff_ne.2 (by omega)
      have hm2:decide ((192:Int)≤(rnum t b 1:Int))=true:=by simp;omega
      generalize rnum t b 1=f at *
      generalize rnum t b 2=f2 at *
      have hw1:IntKind.i64.wrap ((f:Int) - 192)=(f:Int) - 192:=by rw [IntKind.wrap_i64];omega
      have hw2:IntKind.i64.wrap (((f:Int) - 192) * 256)=((f:Int) - 192) * 256:=by rw [IntKind.wrap_i64];omega
      clear HNM
      go_wp2_with fail
      refine (snum_b k (b+1) 1 t false w1 HI1.out hs (by omega) (by omega) (by omega)).mono ?_
      rintro e w2 ⟨HD2,⟨hle2,rfl,HI2⟩ | ⟨hno2,rfl,b3,_,hb3,HI2⟩⟩
      ·generalize rnum t (b+1) 1=y at *
       obtain ⟨r,hr⟩:∃ r,r=f2 - 49152:=⟨_,rfl⟩
       rw [← hr] at HR1
       have hr2:r≤20000:=by omega
       have hw3:IntKind.i64.wrap (((f:Int) - 192) * 256+(y:Int))=(r:Int):=by rw [IntKind.wrap_i64];omega
       have HO2:Hid (OwnS w.heap.size w2 _ D):=HD2.out.own HO1.out hkw
       have HDE:Hid (Rd k w w2):=HDD.out.trans HD2.out
       have e1:w2.cell? ⟨k,1,none⟩=some (.int .i64 ((b+1+1:Nat):Int)):=cellsAt HI2.out 1
       have e2:w2.cell? ⟨k,2,none⟩=some (.bool false):=cellsAt HI2.out 2
       have y1:w2.frozen? ⟨k,1,none⟩=false:=frozenAt HI2.out 1
       have y2:w2.frozen? ⟨k,2,none⟩=false:=frozenAt HI2.out 2
       have HIC:Hid (IsC k t r (decide (bg≤r)) ((w2.setCell ⟨k,2,none⟩ (.bool (decide (bg≤r)))).setCell ⟨k,1,none⟩ (.int .i64 (r:Int)))):=(HI2.out.spoil (decide (bg≤r))).at r
       have hpd:p.getD (b+2)≤t.size:=by
        cases p with
        | none=>exact hle2
        | some q=>exact HPQ.out q rfl
       have HCN:Hid (Cn k t w RES _ r (some (p.getD (b+2))) (decide (bg≤r)) ((w2.setCell ⟨k,2,none⟩ (.bool (decide (bg≤r)))).setCell ⟨k,1,none⟩ (.int .i64 (r:Int)))):=(⟨(HDE.out.here 2 _).here 1 _,D,r,(((Rd.refl k w2).here 2 _).here 1 _).own HO2.out hkw,HIC.out,hr2,fun e=>HR1.out.trans (if_neg (fun h=>by have:=of_decide_eq_true e;omega)),fun e=>by
        have hrb:r < bg:=by have:=of_decide_eq_false e;omega
        refine ⟨by omega,by omega,hD8,HSM.out,(HR1.out.trans (if_pos ⟨hle2,hrb⟩)).symm,fun q e2=>?_⟩
        rw [← Option.some.inj e2];exact hpd⟩:Cn _ _ _ _ _ _ _ _ _)
       have HMM:Hid (okAt ((w2.setCell ⟨k,2,none⟩ (.bool (decide (bg≤r)))).setCell ⟨k,1,none⟩ (.int .i64 (r:Int))) k * (1+r * 9+(8 - D.length)) < okAt wr k * (1+bg * 9+(8 - D.length))):=(show _ < _ by
        rw [okAt_of HIC.out,HMS.out]
        by_cases hrb:bg≤r
        ·rw [decide_eq_true hrb];simp;omega
        ·rw [decide_eq_false hrb];simp;omega)
       clear hr hf2 hfl hgl HD2 HI1 HO1 HDD d1 d2 z1 z2 hpd HIC HR1 HMS
       cases p with
       | none=>
         have ha1:aft none = -1:=rfl
         go_wp2_with fail
         refine ⟨⟨r,_,_,rfl,?_,HCN⟩,?_⟩
         ·simp [aft];omega
         ·rw [own_len HO2.out];exact HMM.out
       | some q=>
         have ha1:aft (some q)=(q:Int):=rfl
         have ha2:decide ((q:Int) < 0)=false:=by simp
         go_wp2_with fail
         refine ⟨⟨r,_,_,rfl,?_,HCN⟩,?_⟩
         ·simp [aft]
         ·rw [own_len HO2.out];exact HMM.out
      ·have HN:Hid (RES=none):=HR1.out.trans (if_neg (fun h=>hno2 h.1))
       obtain ⟨r,hr⟩:∃ r,r=(f - 192) * 256:=⟨_,rfl⟩
       have hr2:r≤20000:=by omega
       have hw3:IntKind.i64.wrap (((f:Int) - 192) * 256)=(r:Int):=by rw [IntKind.wrap_i64];omega
       have hw4:((f:Int) - 192) * 256=(r:Int):=by omega
       have HO2:Hid (OwnS w.heap.size w2 _ D):=HD2.out.own HO1.out hkw
       have HDE:Hid (Rd k w w2):=HDD.out.trans HD2.out
       have e1:w2.cell? ⟨k,1,none⟩=some (.int .i64 (b3:Int)):=cellsAt HI2.out 1
       have e2:w2.cell? ⟨k,2,none⟩=some (.bool true):=cellsAt HI2.out 2
       have y1:w2.frozen? ⟨k,1,none⟩=false:=frozenAt HI2.out 1
       have y2:w2.frozen? ⟨k,2,none⟩=false:=frozenAt HI2.out 2
       have HIC:Hid (IsC k t r true ((w2.setCell ⟨k,2,none⟩ (.bool true)).setCell ⟨k,1,none⟩ (.int .i64 (r:Int)))):=(HI2.out.spoil true).at r
       have HCN:Hid (∀ p',Cn k t w RES _ r p' true ((w2.setCell ⟨k,2,none⟩ (.bool true)).setCell ⟨k,1,none⟩ (.int .i64 (r:Int)))):=fun p'=>(⟨(HDE.out.here 2 _).here 1 _,D,r,(((Rd.refl k w2).here 2 _).here 1 _).own HO2.out hkw,HIC.out,hr2,fun _=>HN.out,fun e=>by cases e⟩:Cn _ _ _ _ _ _ _ _ _)
       have HMM:Hid (∀ x y z:Nat,okAt ((w2.setCell ⟨k,2,none⟩ (.bool true)).setCell ⟨k,1,none⟩ (.int .i64 (r:Int))) k * x < okAt wr k * (1+y+z)):=(show ∀ _ _ _,_ from fun x y z=>by
        rw [okAt_of HIC.out,HMS.out];simp;omega)
       clear hr hf2 hfl hgl HD2 HI1 HO1 HDD d1 d2 z1 z2 HIC HR1 HMS
       cases p with
       | none=>
         have ha1:aft none = -1:=rfl
         go_wp2_with fail
         exact ⟨⟨r,some b3,true,rfl,rfl,HCN.out _⟩,HMM.out _ _ _⟩
       | some q=>
         have ha1:aft (some q)=(q:Int):=rfl
         have ha2:decide ((q:Int) < 0)=false:=by simp
         go_wp2_with fail
         exact ⟨⟨r,some q,true,rfl,rfl,HCN.out _⟩,HMM.out _ _ _⟩
     ·have HR1:Hid (RES=if b+1+rnum t b 1≤t.size∧labB (lwS (t.extract (b+1) (b+1+rnum t b 1)))=true∧D.length < 8 then nmF t (b+1+rnum t b 1) bg (D++[lwS (t.extract (b+1) (b+1+rnum t b 1))]) p else none):=HNM.out.symm.trans (nmF_label (by omega) h0 h192)
      have hm0:((rnum t b 1:Int) == 0)=false:=beq_eq_false_iff_ne.2 (by omega)
      have hm2:decide ((192:Int)≤(rnum t b 1:Int))=false:=by simp;omega
      generalize rnum t b 1=f at *
      clear HNM
      go_wp2_with fail
      have HLB0:Hid (Lb k b f t 0 ⟨#[]⟩ w1):=(show Lb _ _ _ _ _ _ _ from ⟨rfl,.inl ⟨hle,(by apply ba_ext;simp [lwS,mk]),HI1.out⟩⟩)
      have HLS:Hid (∀ i x W,Lb k b f t i x W→i < f→Calls Tryz.prog 36 #[.pointer (some ⟨k,0,none⟩),.int .i64 1] W fun e w'=>Hid (Rd k W w')∧∃ v:UInt8,e=.returned (.int .i64 (v.toNat:Nat))∧Hid (Lb k b f t (i+1) (x++⟨#[lwb v]⟩) w')):=fun i x W hx hi=>lb_step k b f i t x W hx hs hi
      have hf191:f≤191:=by omega
      clear d1 d2 z1 z2
      go_loopw [8,9] (fun vs vi wi=>∃ i x,vs=.string x∧vi=.int .i64 (i:Nat)∧i≤f∧Hid (Lb k b f t i x wi)∧Hid (Rd k w1 wi)) (fun _ vi _=>f - (intOf vi).toNat)
      case atStart=>exact ⟨0,_,rfl,rfl,by omega,HLB0,Rd.refl _ _⟩
      case round=>
       obtain ⟨i,x,rfl,rfl,hif,HLB,HDI⟩:=hrel
       have hxs:x.size=i:=HLB.out.1
       by_cases hi:i < f
       ·have hd:decide ((i:Int) < (f:Int))=true:=by simp;omega
        have hss:¬ 9223372036854775807 < x.size+1:=by omega
        go_wp2_with fail
        refine (HLS.out i x _ HLB.out hi).mono ?_
        rintro e w3 ⟨HD3,v,rfl,HL3⟩
        have hv:=v.toNat_lt
        have HDI2:Hid (Rd k w1 w3):=HDI.out.trans HD3.out
        have HL4:Hid (∀ o,Hid (Lb k b f t (i+1) (x++⟨#[lwb v]⟩) (w3.alloc o))):=fun o=>HL3.out.ext ((World.Extends.refl _).alloc o)
        by_cases hc:65≤v.toNat∧v.toNat≤90
        ·have hl:(lwb v).toNat=v.toNat+32:=by
          unfold lwb;rw [if_pos hc];show (v.toNat+32)%256=_;omega
         have h1:decide ((65:Int)≤(v.toNat:Int))=true:=by simp;omega
         have h2:decide ((v.toNat:Int)≤90)=true:=by simp;omega
         have hw:Sem.run Tryz.prog (convert 102 9 (.slice (some ⟨w3.heap.size,0,none⟩) 1 1)) (w3.alloc (.cells #[.int .u8 ((v.toNat:Int)+32)] 5))=.ok (.string ⟨#[lwb v]⟩) (w3.alloc (.cells #[.int .u8 ((v.toNat:Int)+32)] 5)):=by
          have e:((v.toNat:Int)+32)=((lwb v).toNat:Int):=by rw [hl];simp
          rw [e];exact conv_one w3 _
         generalize lwb v=lc at *
         generalize v.toNat=vn at *
         go_wp2_with fail
         exact ⟨⟨i+1,_,rfl,by simp,by omega,HL4.out _,HDI2.out.trans (Rd.ext ((World.Extends.refl _).alloc _))⟩,by simp [intOf];omega⟩
        ·have hl:(lwb v).toNat=v.toNat:=by unfold lwb;rw [if_neg hc]
         have hw:Sem.run Tryz.prog (convert 102 9 (.slice (some ⟨w3.heap.size,0,none⟩) 1 1)) (w3.alloc (.cells #[.int .u8 (v.toNat:Int)] 5))=.ok (.string ⟨#[lwb v]⟩) (w3.alloc (.cells #[.int .u8 (v.toNat:Int)] 5)):=by
          have e:(v.toNat:Int)=((lwb v).toNat:Int):=by rw [hl]
          rw [e];exact conv_one w3 _
         generalize lwb v=lc at *
         generalize v.toNat=vn at *
         by_cases h65:65≤vn
         ·have h1:decide ((65:Int)≤(vn:Int))=true:=by simp;omega
          have h2:decide ((vn:Int)≤90)=false:=by simp;omega
          go_wp2_with fail
          exact ⟨⟨i+1,_,rfl,by simp,by omega,HL4.out _,HDI2.out.trans (Rd.ext ((World.Extends.refl _).alloc _))⟩,by simp [intOf];omega⟩
         ·have h1:decide ((65:Int)≤(vn:Int))=false:=by simp;omega
          go_wp2_with fail
          exact ⟨⟨i+1,_,rfl,by simp,by omega,HL4.out _,HDI2.out.trans (Rd.ext ((World.Extends.refl _).alloc _))⟩,by simp [intOf];omega⟩
       ·have hd:decide ((i:Int) < (f:Int))=false:=by simp;omega
        have hi2:i=f:=by omega
        subst hi2
        have HOI:Hid (OwnS w.heap.size wr _ D):=HDI.out.own HO1.out hkw
        have HDX:Hid (Rd k w wr):=HDD.out.trans HDI.out
        obtain ⟨pp,c,hv⟩:=own_shape HOI.out
        subst hv
        have hls:x.size≤maxLen:=by unfold maxLen;omega
        obtain ⟨_,⟨g2,g3,g4⟩ | ⟨g2,q,g3,g4⟩⟩:=HLB.out
        ·have HIX:Hid (IsC k t (b+1+i) false wr):=g4
         have e2:wr.cell? ⟨k,2,none⟩=some (.bool false):=cellsAt g4 2
         have y2:wr.frozen? ⟨k,2,none⟩=false:=frozenAt g4 2
         have HXE:Hid (x=lwS (t.extract (b+1) (b+1+i))):=g3
         have HRX:Hid (RES=if b+1+i≤t.size∧labB x=true∧D.length < 8 then nmF t (b+1+i) bg (D++[x]) p else none):=(show _=_ by rw [HXE.out];exact HR1.out)
         have hl30:labB x=true→x.size≤30:=fun h=>(lab_size h).2
         have hsz:=HDX.out.size
         clear g3 g4 HLB HLB0 HLS HR1
         go_wp2_with fail
         refine (isLabel_any x wr hls).mono ?_
         rintro e w5 ⟨rfl,hw5⟩
         subst hw5
         have HOJ:Hid (OwnS w.heap.size (w5.setCell ⟨k,2,none⟩ (.bool (!labB x))) (.slice pp D.length c) D):=((Rd.refl k w5).here 2 _).own HOI.out hkw
         generalize labB x=lb at *
         go_wp2_with (at_builtin;refine wpList_append_own_at _ rfl _ _ 81 rfl w.heap.size 9 i0 _ 1 16 Tryz.underlying81 hi0 hz0 hzs hzb rfl (by omega) _ D.length (D.map Value.string) rfl ?hown ⟨w5.heap.size,0,none⟩ 1 1 [.string x] rfl rfl ?hnews (strs_one [_]) ?h63 ?hbytes ?hbase ?_)
         case hown=>exact HOJ.out.below ((Below.refl _ _).alloc (Nat.le_refl _) _)
         case hnews=>(intro j u hj;have h:=cell_one_new (w5.setCell ⟨k,2,none⟩ (.bool (!lb))) (.string x) 9 j u hj;simpa using h)
         case h63=>(unfold maxLen;omega)
         case hbytes=>omega
         case hbase=>(simp;omega)
         intro v' w6 r1 r2 r3 r4
         have HO6:Hid (OwnS w.heap.size w6 v' (D++[x])):=ownS_snoc (l:=D) r1
         have hk5:k < w5.heap.size:=HIX.out.lt
         have hne:∀ j,j < w.heap.size→some j≠(Value.slice pp D.length c).ownBlock:=fun j hj e=>by have:=(HOI.out.lt _ e.symm).1;omega
         have HB6:Hid (∀ j,j < w.heap.size→w6.heap[j]?=(w5.setCell ⟨k,2,none⟩ (.bool (!lb))).heap[j]?):=fun j hj=>(r2.block j (by simp;omega) (hne j hj)).trans (Lib.alloc_old _ _ _ (by simp;omega))
         have HI6:Hid (IsC k t (b+1+i) (!lb) w6):=(HB6.out k hkw).trans (HIX.out.spoil (!lb))
         have HD6:Hid (Rd k w w6):=(⟨r2.os.trans HDX.out.os,r2.tape.trans HDX.out.tape,r2.output.trans HDX.out.output,by have:=r2.size;simp at this;omega,fun j hj hjk=>(HB6.out j hj).trans ((Below.heap_setCell w5 _ _ j (by simpa using hjk)).trans (HDX.out.block j hj hjk))⟩:Rd k w w6)
         obtain ⟨p6,c6,hv6⟩:=own_shape HO6.out
         subst hv6
         rw [List.length_append,List.length_singleton] at *
         have f2:w6.cell? ⟨k,2,none⟩=some (.bool (!lb)):=cellsAt HI6.out 2
         have z6:w6.frozen? ⟨k,2,none⟩=false:=frozenAt HI6.out 2
         clear r1 r2 r3 r4 HB6 hne HOJ e2 y2
         by_cases hD:D.length < 8
         ·have hd9:decide ((8:Int) < ((D.length+1:Nat):Int))=false:=by simp;omega
          have HCN:Hid (Cn k t w RES (.slice p6 (D.length+1) c6) bg p (!lb) w6):=(⟨HD6.out,D++[x],b+1+i,HO6.out,HI6.out,by omega,fun e=>HRX.out.trans (if_neg (fun h=>by rw [h.2.1] at e;cases e)),fun e=>by
           have hlb:lb=true:=by cases lb<;>simp_all
           refine ⟨g2,hbg,by rw [List.length_append,List.length_singleton];omega,fun l hl=>?_,(HRX.out.trans (if_pos ⟨g2,hlb,hD⟩)).symm,HPQ.out⟩
           rcases List.mem_append.1 hl with h | h
           ·exact HSM.out l h
           ·rw [List.mem_singleton.1 h];exact hl30 hlb⟩:Cn _ _ _ _ _ _ _ _ _)
          go_wp2_with fail
          refine ⟨⟨bg,p,!lb,rfl,rfl,HCN⟩,?_⟩
          rw [okAt_of HI6.out,HMS.out]
          cases lb<;>simp [intOf,lenOf]<;>omega
         ·have hd9:decide ((8:Int) < ((D.length+1:Nat):Int))=true:=by simp;omega
          have HI7:Hid (IsC k t (b+1+i) true (w6.setCell ⟨k,2,none⟩ (.bool true))):=HI6.out.spoil true
          have HO7:Hid (OwnS w.heap.size (w6.setCell ⟨k,2,none⟩ (.bool true)) (.slice p6 (D.length+1) c6) (D++[x])):=((Rd.refl k w6).here 2 _).own HO6.out hkw
          have HCN:Hid (Cn k t w RES (.slice p6 (D.length+1) c6) bg p true (w6.setCell ⟨k,2,none⟩ (.bool true))):=(⟨HD6.out.here 2 _,D++[x],b+1+i,HO7.out,HI7.out,by omega,fun _=>HRX.out.trans (if_neg (fun h=>hD h.2.2)),fun e=>by cases e⟩:Cn _ _ _ _ _ _ _ _ _)
          go_wp2_with fail
          refine ⟨⟨bg,p,true,rfl,rfl,HCN⟩,?_⟩
          rw [okAt_of HI7.out,HMS.out]
          simp
          omega
        ·have HIX:Hid (IsC k t q true wr):=g4
         have e2:wr.cell? ⟨k,2,none⟩=some (.bool true):=cellsAt g4 2
         have y2:wr.frozen? ⟨k,2,none⟩=false:=frozenAt g4 2
         have HRX:Hid (RES=none):=(show _=_ from HR1.out.trans (if_neg (fun h=>g2 h.1)))
         have hsz:=HDX.out.size
         have HOJ:Hid (OwnS w.heap.size (wr.setCell ⟨k,2,none⟩ (.bool true)) (.slice pp D.length c) D):=((Rd.refl k wr).here 2 _).own HOI.out hkw
         clear g4 HLB HLB0 HLS HR1
         go_wp2_with (at_builtin;refine wpList_append_own_at _ rfl _ _ 81 rfl w.heap.size 9 i0 _ 1 16 Tryz.underlying81 hi0 hz0 hzs hzb rfl (by omega) _ D.length (D.map Value.string) rfl ?hown ⟨wr.heap.size,0,none⟩ 1 1 [.string x] rfl rfl ?hnews (strs_one [_]) ?h63 ?hbytes ?hbase ?_)
         case hown=>exact HOJ.out.below ((Below.refl _ _).alloc (Nat.le_refl _) _)
         case hnews=>(intro j u hj;have h:=cell_one_new (wr.setCell ⟨k,2,none⟩ (.bool true)) (.string x) 9 j u hj;simpa using h)
         case h63=>(unfold maxLen;omega)
         case hbytes=>omega
         case hbase=>(simp;omega)
         intro v' w6 r1 r2 r3 r4
         have HO6:Hid (OwnS w.heap.size w6 v' (D++[x])):=ownS_snoc (l:=D) r1
         have hk5:k < wr.heap.size:=HIX.out.lt
         have hne:∀ j,j < w.heap.size→some j≠(Value.slice pp D.length c).ownBlock:=fun j hj e=>by have:=(HOI.out.lt _ e.symm).1;omega
         have HB6:Hid (∀ j,j < w.heap.size→w6.heap[j]?=(wr.setCell ⟨k,2,none⟩ (.bool true)).heap[j]?):=fun j hj=>(r2.block j (by simp;omega) (hne j hj)).trans (Lib.alloc_old _ _ _ (by simp;omega))
         have HI6:Hid (IsC k t q true w6):=(HB6.out k hkw).trans (HIX.out.spoil true)
         have HD6:Hid (Rd k w w6):=(⟨r2.os.trans HDX.out.os,r2.tape.trans HDX.out.tape,r2.output.trans HDX.out.output,by have:=r2.size;simp at this;omega,fun j hj hjk=>(HB6.out j hj).trans ((Below.heap_setCell wr _ _ j (by simpa using hjk)).trans (HDX.out.block j hj hjk))⟩:Rd k w w6)
         obtain ⟨p6,c6,hv6⟩:=own_shape HO6.out
         subst hv6
         rw [List.length_append,List.length_singleton] at *
         have f2:w6.cell? ⟨k,2,none⟩=some (.bool true):=cellsAt HI6.out 2
         have z6:w6.frozen? ⟨k,2,none⟩=false:=frozenAt HI6.out 2
         clear r1 r2 r3 r4 HB6 hne HOJ e2 y2
         by_cases hD:D.length < 8
         ·have hd9:decide ((8:Int) < ((D.length+1:Nat):Int))=false:=by simp;omega
          have HCN:Hid (Cn k t w RES (.slice p6 (D.length+1) c6) bg p true w6):=(⟨HD6.out,D++[x],q,HO6.out,HI6.out,g3,fun _=>HRX.out,fun e=>by cases e⟩:Cn _ _ _ _ _ _ _ _ _)
          go_wp2_with fail
          refine ⟨⟨bg,p,true,rfl,rfl,HCN⟩,?_⟩
          rw [okAt_of HI6.out,HMS.out]
          simp
          omega
         ·have hd9:decide ((8:Int) < ((D.length+1:Nat):Int))=true:=by simp;omega
          have HI7:Hid (IsC k t q true (w6.setCell ⟨k,2,none⟩ (.bool true))):=HI6.out.spoil true
          have HO7:Hid (OwnS w.heap.size (w6.setCell ⟨k,2,none⟩ (.bool true)) (.slice p6 (D.length+1) c6) (D++[x])):=((Rd.refl k w6).here 2 _).own HO6.out hkw
          have HCN:Hid (Cn k t w RES (.slice p6 (D.length+1) c6) bg p true (w6.setCell ⟨k,2,none⟩ (.bool true))):=(⟨HD6.out.here 2 _,D++[x],q,HO7.out,HI7.out,g3,fun _=>HRX.out,fun e=>by cases e⟩:Cn _ _ _ _ _ _ _ _ _)
          go_wp2_with fail
          refine ⟨⟨bg,p,true,rfl,rfl,HCN⟩,?_⟩
          rw [okAt_of HI7.out,HMS.out]
          simp
          omega
end Go.Proofs.YtignmeaeibaejaaGreatDoor
