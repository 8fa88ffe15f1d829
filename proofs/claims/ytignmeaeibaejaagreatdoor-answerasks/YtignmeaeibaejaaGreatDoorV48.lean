import Derived.Test.YtignmeaeibaejaaGreatDoorV46
import Derived.Deep.DeepCutAuto
import Derived.Deep.CutBlock
import Derived.Test.YtignmeaeibaejaaGreatDoorV33
import Derived.Test.YtignmeaeibaejaaGreatDoorV39
import Derived.Test.YtignmeaeibaejaaGreatDoorV47
import Derived.Test.YtignmeaeibaejaaGreatDoorV45
namespace Go.Proofs.YtignmeaeibaejaaGreatDoor
open Go.RowKit
set_option maxHeartbeats 6400000 in
set_option maxRecDepth 100000 in
theorem mof_s (t:ByteArray) (w:World) (hl:t.size≤512):Calls Tryz.prog 15 #[.string t] w fun e w'=>
 Below w.heap.size w w'∧((∃ M v,msgF t=some M∧chkMsg M.id M.code M.typ M.R M.rs=0∧e=.returned (.tuple #[.agg #[.int .i64 M.id,.bool M.ans,.bool M.cut,.int .i64 M.code,.string M.R,.int .i64 M.typ,v],.int .i64 0])∧Hid (Rc.Own w.heap.size w' v M.rs))∨(rdE t≠0∧e=.returned (.tuple #[.agg zmsg,.int .i64 1]))):=by
 have hcmp:decide (512 < (t.size:Int))=false:=by simp;omega
 have hs:t.size≤1000:=by omega
 clear hl
 go_enter Tryz.func15,Tryz.ntmps15
 go_wp2_with fail
 obtain ⟨w0,hw0⟩:∃ w0,w0=(w.alloc (.cells zmsg 38)).alloc (.cells #[.string t,.int .i64 0,.bool false] 76):=⟨_,rfl⟩
 rw [← hw0]
 have hx0:w.Extends w0:=by rw [hw0];exact ((World.Extends.refl w).alloc _).alloc _
 have B0:Hid (Below w.heap.size w w0):=(show Below _ _ _ by rw [hw0];exact ((Below.refl _ _).alloc (Nat.le_refl _) _).alloc (by simp) _)
 have Q0:Hid (w0.heap[w.heap.size]?=some (.cells zmsg 38 (0,0))):=(show _=_ by rw [hw0];exact (Lib.alloc_old _ _ _ (by simp)).trans (heap_alloc_new w _))
 have I0:Hid (IsC (w.heap.size+1) t 0 false w0):=(show IsC _ _ _ _ _ by
  unfold IsC
  rw [hw0]
  have:=heap_alloc_new (w.alloc (.cells zmsg 38)) (.cells #[.string t,.int .i64 0,.bool false] 76)
  simpa using this)
 clear hw0 hx0
 refine (snum_l (w.heap.size+1) 0 2 t false w0 I0.out hs (by omega) (by omega) (by omega)).mono ?_
 rintro e w1 ⟨v1,b1,d1,rfl,hb1,hv1,HD1,HI1,HN1⟩
 have hlt1:w.heap.size+1 < w1.heap.size:=HI1.out.lt
 have hq1:w.heap.size < w0.heap.size:=by have:=I0.out.lt;omega
 go_wp2_with fail
 obtain ⟨w2,hw2⟩:∃ w2,w2=w1.alloc (.cells #[.int .i64 v1,.bool false,.bool false,.int .i64 0,.string ⟨#[]⟩,.int .i64 0,.slice none 0 0] 38):=⟨_,rfl⟩
 rw [← hw2]
 obtain ⟨mb,hmb⟩:∃ mb,mb=w1.heap.size:=⟨_,rfl⟩
 have S0:Hid (Sc w t mb b1 d1 #[.int .i64 v1,.bool false,.bool false,.int .i64 0,.string ⟨#[]⟩,.int .i64 0,.slice none 0 0] w2):=(show Sc _ _ _ _ _ _ _ by
  have hx:w1.Extends w2:=by rw [hw2];exact (World.Extends.refl _).alloc _
  refine ⟨(hx.block _ hlt1).trans HI1.out,?_,?_,?_,by omega⟩
  ·exact ⟨hx.os.trans (HD1.out.os.trans B0.out.os),hx.tape.trans (HD1.out.tape.trans B0.out.tape),hx.output.trans (HD1.out.output.trans B0.out.output),by have:=hx.size;have:=HD1.out.size;have:=B0.out.size;omega,fun j hj=>(hx.block j (by omega)).trans ((HD1.out.block j (by omega) (by omega)).trans (B0.out.block j hj))⟩
  ·exact (hx.block _ (by omega)).trans ((HD1.out.block _ hq1 (by omega)).trans Q0.out)
  ·rw [hmb,hw2];exact heap_alloc_new w1 _)
 rw [← hmb]
 clear hw2 hmb HI1 HD1 B0 Q0 I0 hlt1 hq1
 refine (snum_l (w.heap.size+1) b1 1 t d1 w2 S0.out.sc hs (by omega) (by omega) hb1).mono ?_
 rintro e w3 ⟨v2,b2,d2,rfl,hb2,hv2,HD,HI,HN2⟩
 have S1:Hid (Sc w t mb b2 d2 #[.int .i64 v1,.bool false,.bool false,.int .i64 0,.string ⟨#[]⟩,.int .i64 0,.slice none 0 0] w3):=S0.out.call HI HD
 have z1:=S1.out.free 1
 have z2:=S1.out.free 2
 have c1:w3.cell? ⟨mb,1,none⟩=some (.bool false):=S1.out.cell 1
 have c2:w3.cell? ⟨mb,2,none⟩=some (.bool false):=S1.out.cell 2
 clear S0 HD HI
 obtain ⟨ans,hans⟩:∃ x,decide ((128:Int)≤(v2:Int))=x:=⟨_,rfl⟩
 obtain ⟨cut,hcutb⟩:∃ x,decide ((2:Int)≤(v2:Int)%4)=x:=⟨_,rfl⟩
 go_wp2_with fail
 have S2:Hid (Sc w t mb b2 d2 #[.int .i64 v1,.bool ans,.bool cut,.int .i64 0,.string ⟨#[]⟩,.int .i64 0,.slice none 0 0] ((w3.setCell ⟨mb,1,none⟩ (.bool ans)).setCell ⟨mb,2,none⟩ (.bool cut))):=(S1.out.store 1 (.bool ans)).store 2 (.bool cut)
 refine (snum_l (w.heap.size+1) b2 1 t d2 _ S2.out.sc hs (by omega) (by omega) hb2).mono ?_
 rintro e w4 ⟨v3,b3,d3,rfl,hb3,hv3,HD,HI,HN3⟩
 have S3:Hid (Sc w t mb b3 d3 #[.int .i64 v1,.bool ans,.bool cut,.int .i64 0,.string ⟨#[]⟩,.int .i64 0,.slice none 0 0] w4):=S2.out.call HI HD
 have z1:=S3.out.free 3
 have c1:w4.cell? ⟨mb,3,none⟩=some (.int .i64 0):=S3.out.cell 3
 clear S1 S2 HD HI z2 c2
 have HAN:Hid (decide ((128:Int)≤(v2:Int))=ans):=hans
 have HCU:Hid (decide ((2:Int)≤(v2:Int)%4)=cut):=hcutb
 clear hans hcutb
 go_wp2_with fail
 have S4:Hid (Sc w t mb b3 d3 #[.int .i64 v1,.bool ans,.bool cut,.int .i64 v3,.string ⟨#[]⟩,.int .i64 0,.slice none 0 0] (w4.setCell ⟨mb,3,none⟩ (.int .i64 v3))):=S3.out.store 3 (.int .i64 v3)
 refine (snum_l (w.heap.size+1) b3 2 t d3 _ S4.out.sc hs (by omega) (by omega) hb3).mono ?_
 rintro e w5 ⟨v4,b4,d4,rfl,hb4,hv4,HD,HI,HN4⟩
 have S5:Hid (Sc w t mb b4 d4 #[.int .i64 v1,.bool ans,.bool cut,.int .i64 v3,.string ⟨#[]⟩,.int .i64 0,.slice none 0 0] w5):=S4.out.call HI HD
 clear S3 S4 HD HI z1 c1
 go_wp2_with fail
 refine (snum_l (w.heap.size+1) b4 2 t d4 _ S5.out.sc hs (by omega) (by omega) hb4).mono ?_
 rintro e w6 ⟨v5,b5,d5,rfl,hb5,hv5,HD,HI,HN5⟩
 have S6:Hid (Sc w t mb b5 d5 #[.int .i64 v1,.bool ans,.bool cut,.int .i64 v3,.string ⟨#[]⟩,.int .i64 0,.slice none 0 0] w6):=S5.out.call HI HD
 clear S5 HD HI
 go_wp2_with fail
 refine (snum_l (w.heap.size+1) b5 4 t d5 _ S6.out.sc hs (by omega) (by omega) hb5).mono ?_
 rintro e w7 ⟨v6,b6,d6,rfl,hb6,hv6,HD,HI,HN6⟩
 have S7:Hid (Sc w t mb b6 d6 #[.int .i64 v1,.bool ans,.bool cut,.int .i64 v3,.string ⟨#[]⟩,.int .i64 0,.slice none 0 0] w7):=S6.out.call HI HD
 have HH:Hid (HeadL t v1 v2 v3 v4 v5 v6 b6 d6):=headL HN1.out HN2.out HN3.out HN4.out HN5.out HN6.out
 clear S6 HD HI HN1 HN2 HN3 HN4 HN5 HN6 hb1 hb2 hb3 hb4 hb5
 have c3:w7.cell? ⟨mb,3,none⟩=some (.int .i64 v3):=S7.out.cell 3
 have k2:w7.cell? ⟨w.heap.size+1,2,none⟩=some (.bool d6):=S7.out.sbad
 have HEB:Hid (d6=false→¬ (flB v2∧v3≤15∧v4=1∧v5≤20∧v6=0)→rdE t≠0):=fun e hno=>by
  obtain ⟨g1,g2,g3,g4,g5,g6,g7,g8⟩:=HH.out.good e
  by_cases hh:flB v2∧v4=1∧v6=0
  ·obtain ⟨h1,h2,h3⟩:=hh
   refine rdE_great (msgF_head g1 (by rw [← g3];exact h1) (by omega) (by omega)) ?_
   by_cases h4:v3≤15
   ·exact .inr (by by_cases h5:v5≤20;exact absurd ⟨h1,h4,h2,h5,h3⟩ hno;omega)
   ·exact .inl (by omega)
  ·refine rdE_none (msgF_nohead ?_)
   rw [← g3,← g5,← g7]
   by_cases h1:flB v2
   ·by_cases h2:v4=1
    ·exact .inr (.inr (fun h3=>hh ⟨h1,h2,h3⟩))
    ·exact .inr (.inl h2)
   ·exact .inl h1
 have HHB:Hid (d6=true→rdE t≠0):=fun e=>rdE_none (HH.out.bad e)
 go_upto_region 12 with fail
 refine p12 w w7 t mb v2 v3 v4 v5 v6 k2 c3 _ HHB HEB ?_
 intro y43 y44 y45 y46 y47 y48 y49 y50 y51 y52 y53 y54 y55 y56 y57 y58 y59 y60 y61 y62 y63 y64 y65 y66 y67 y68 y69 y70 y71 y72 y73 y74 y75 y76 y77 y78 x HX1 HX2
 cases x with
 | true=>
   have HE:Hid (rdE t≠0):=HX1.out rfl
   have q0:w7.cell? ⟨w.heap.size,0,none⟩=some (.int .i64 0):=S7.out.qcell 0
   have yy0:=S7.out.qfree 0
   have q1:w7.cell? ⟨w.heap.size,1,none⟩=some (.bool false):=S7.out.qcell 1
   have yy1:=S7.out.qfree 1
   have q2:w7.cell? ⟨w.heap.size,2,none⟩=some (.bool false):=S7.out.qcell 2
   have yy2:=S7.out.qfree 2
   have q3:w7.cell? ⟨w.heap.size,3,none⟩=some (.int .i64 0):=S7.out.qcell 3
   have yy3:=S7.out.qfree 3
   have q4:w7.cell? ⟨w.heap.size,4,none⟩=some (.string ⟨#[]⟩):=S7.out.qcell 4
   have yy4:=S7.out.qfree 4
   have q5:w7.cell? ⟨w.heap.size,5,none⟩=some (.int .i64 0):=S7.out.qcell 5
   have yy5:=S7.out.qfree 5
   have q6:w7.cell? ⟨w.heap.size,6,none⟩=some (.slice none 0 0):=S7.out.qcell 6
   have yy6:=S7.out.qfree 6
   go_wp2_with fail
   refine bodyPost_ret (v:=.tuple #[.agg zmsg,.int .i64 1]) ?_ rfl ⟨?_,.inr ⟨HE.out,rfl⟩⟩
   ·simp [results,Tryz.results15,go_sem,q0,q1,q2,q3,q4,q5,q6]
   ·exact atop 6 (atop 5 (atop 4 (atop 3 (atop 2 (atop 1 (atop 0 S7.out.bl (Nat.le_refl _)) (Nat.le_refl _)) (Nat.le_refl _)) (Nat.le_refl _)) (Nat.le_refl _)) (Nat.le_refl _)) (Nat.le_refl _)
 | false=>
   obtain ⟨hfl,h15,h1,h20,h0,hd6⟩:=HX2.out rfl
   have HM:Hid (msgF t=msgT t v1 ans cut v3 v5 (tgF t 12)):=(show _=_ by
    obtain ⟨g1,g2,g3,g4,g5,g6,g7,g8⟩:=HH.out.good hd6
    have hA:decide (128≤rnum t 2 1)=ans:=by rw [← HAN.out,← g3];apply decide_eq_decide.2;omega
    have hC:decide (2≤rnum t 2 1%4)=cut:=by rw [← HCU.out,← g3];apply decide_eq_decide.2;omega
    have:=msgF_head g1 (by rw [← g3];exact hfl) (by omega) (by omega)
    rw [hA,hC] at this
    rw [this,← g2,← g4,← g6])
   have h12:12≤t.size∧b6=12:=by
    obtain ⟨g1,_,_,_,_,_,_,g8⟩:=HH.out.good hd6
    exact ⟨g1,g8⟩
   obtain ⟨h12,hb12⟩:=h12
   subst hd6
   subst hb12
   clear HH HX1 HX2 HAN HCU HEB hfl h0 h1 k2 c3 c1 z1
   go_wp2_with fail
   refine (sname_l (w.heap.size+1) 12 t false w7 S7.out.sc hs (by omega) (fun _=>h12)).mono ?_
   rintro e w8 ⟨R,b7,d7,rfl,hb7,hR,HD,HI,HN7⟩
   have S8:Hid (Sc w t mb b7 d7 #[.int .i64 v1,.bool ans,.bool cut,.int .i64 v3,.string ⟨#[]⟩,.int .i64 0,.slice none 0 0] w8):=S7.out.call HI HD
   have z4:=S8.out.free 4
   have c4:w8.cell? ⟨mb,4,none⟩=some (.string ⟨#[]⟩):=S8.out.cell 4
   clear S7 HD HI
   go_wp2_with fail
   have S9:Hid (Sc w t mb b7 d7 #[.int .i64 v1,.bool ans,.bool cut,.int .i64 v3,.string R,.int .i64 0,.slice none 0 0] (w8.setCell ⟨mb,4,none⟩ (.string R))):=S8.out.store 4 (.string R)
   refine (snum_l (w.heap.size+1) b7 2 t d7 _ S9.out.sc hs (by omega) (by omega) hb7).mono ?_
   rintro e w9 ⟨v8,b8,d8,rfl,hb8,hv8,HD,HI,HN8⟩
   have SA:Hid (Sc w t mb b8 d8 #[.int .i64 v1,.bool ans,.bool cut,.int .i64 v3,.string R,.int .i64 0,.slice none 0 0] w9):=S9.out.call HI HD
   have z5:=SA.out.free 5
   have c5:w9.cell? ⟨mb,5,none⟩=some (.int .i64 0):=SA.out.cell 5
   clear S8 S9 HD HI z4 c4
   go_upto_region 16 with fail
   obtain ⟨wb,hwb⟩:∃ wb,wb=w9.setCell ⟨mb,5,none⟩ (.int .i64 v8):=⟨_,rfl⟩
   have SB:Hid (Sc w t mb b8 d8 #[.int .i64 v1,.bool ans,.bool cut,.int .i64 v3,.string R,.int .i64 v8,.slice none 0 0] wb):=(show Sc _ _ _ _ _ _ _ by rw [hwb];exact SA.out.store 5 (.int .i64 v8))
   rw [← hwb]
   clear SA z5 c5 hwb
   have k2:wb.cell? ⟨w.heap.size+1,2,none⟩=some (.bool d8):=SB.out.sbad
   have k3:=SB.out.sfree 2
   go_cut [98] (fun _ wx=>∃ (b9:Nat) (dq:Bool),b9≤20000∧Hid (Sc w t mb b9 dq #[.int .i64 v1,.bool ans,.bool cut,.int .i64 v3,.string R,.int .i64 v8,.slice none 0 0] wx)∧Hid (dq=true→msgF t=none)∧Hid (dq=false→b9≤t.size∧msgF t=msgU t v1 ans cut v3 R v8 (recsF t v5 b9 [])))
   case first=>
    cases d8 with
    | true=>
      go_wp2_with fail
      go_meet
      exact ⟨b8,true,hb8,SB.out.mark true,fun _=>q_bad HM.out HN7.out HN8.out,fun e=>by cases e⟩
    | false=>
      go_wp2_with fail
      refine (snum_l (w.heap.size+1) b8 2 t false _ SB.out.sc hs (by omega) (by omega) hb8).mono ?_
      rintro e wd ⟨v9,b9,d9,rfl,hb9,hv9,HD,HI,HN9⟩
      have SD:Hid (Sc w t mb b9 d9 #[.int .i64 v1,.bool ans,.bool cut,.int .i64 v3,.string R,.int .i64 v8,.slice none 0 0] wd):=SB.out.call HI HD
      have k5:wd.cell? ⟨w.heap.size+1,2,none⟩=some (.bool d9):=SD.out.sbad
      have k6:=SD.out.sfree 2
      have HQ:=q_end HM.out HN7.out HN8.out HN9.out
      have HQ1:Hid (((v9:Int) != 1)=true→msgF t=none):=HQ.1
      have HQ2:Hid (((v9:Int) != 1)=false→b9≤t.size∧msgF t=msgU t v1 ans cut v3 R v8 (recsF t v5 b9 [])):=HQ.2
      clear HQ HD HI k2 k3 SB HM HN7 HN8 HN9
      go_wp2_with fail
      go_meet
      exact ⟨b9,_,hb9,SD.out.mark _,HQ1,HQ2⟩
   case rest=>
    obtain ⟨b9,dq,hb9,SE,HQ1,HQ2⟩:=hcut
    clear SB k2 k3 HM HN7 HN8 hb7 hb8
    go_upto_block 0 with fail
    refine ploop w wc t R mb b9 v1 v3 v5 v8 ans cut dq hs h20 hb9 SE HQ1 HQ2 _ (fun a W hh=>errRet_post hh) ?_
    intro y3 y11 y12 y13 y14 y101 y102 y103 y104 y105 y106 y107 y108 y109 y110 y111 y112 y113 y114 y115 y116 y117 y118 y119 y120 y121 y122 y123 y124 y125 y126 y127 y128 y129 y130 y131 y132 y133 y134 y135 y136 y137 y138 y139 y140 y141 y142 y143 y144 y145 y146 y147 y148 y149 y150 y151 y152 y153 y154 y155 y156 y157 y158 y159 y160 y161 y162 y163 y164 y165 y166 y167 y168 y169 y170 y171 y172 y173 y174 y175 y176 y177 y178 y179 y180 y181 y182 y183 y184 y185 y186 y187 y188 y189 y190 y191 y192 y193 y194 y195 y196 y197 y198 y199 y200 y201 y202 y203 y204 y205 y206 y207 y208 y209 y210 y211 y212 y213 y214 y215 y216 y217 y218 y219 y220 y221 y222 y223 y224 y225 y226 y227 y228 y229 y230 y231 y232 y233 y234 y235 y236 y237 y238 y239 y240 y241 y10 v D b d wr HS HO HOK HT HF
    clear SE HQ1 HQ2
    refine (‹∀ (a:Act) (w:World),Code.wp Tryz.prog _ _ a w→_›) _ _ ?_
    exact ptail w wr t R mb b v1 v3 v8 ans cut d v D hR HS HO HOK HT HF _ (fun a W hh=>errRet_post hh) (fun a W hh=>okRet_post hh)
theorem mof_b (t:ByteArray) (w:World):Calls Tryz.prog 15 #[.string t] w (RdP t w):=by
 by_cases hl:t.size≤512
 ·refine (mof_s t w hl).mono ?_
  rintro e w' ⟨h1,⟨M,v,h2,h3,h4,h5⟩ | ⟨h2,h3⟩⟩
  ·exact ⟨h1,.inl ⟨M,v,h2,hl,h3,h4,h5⟩⟩
  ·exact ⟨h1,.inr ⟨1,by rw [if_pos hl],fun _=>h2,h3⟩⟩
 ·refine (mof_long t w hl).mono ?_
  rintro e w' ⟨h1,h2⟩
  exact ⟨h2,.inr ⟨2,by rw [if_neg hl],fun h=>absurd h hl,h1⟩⟩
def MsV (w:World) (m:Option Ms) (x:Array Value):Prop:=match m with
 | none=>x=zmsg
 | some M=>∃ v,Rc.Sl w v M.rs∧M.rs.length≤1000∧x=#[.int .i64 M.id,.bool M.ans,.bool M.cut,.int .i64 M.code,.string M.R,.int .i64 M.typ,v]
theorem MsV.below {w w':World} {m:Option Ms} {x:Array Value} (h:MsV w m x) (hb:Below w.heap.size w w'):MsV w' m x:=by
 cases m with
 | none=>exact h
 | some M=>
   obtain ⟨v,h1,h2,h3⟩:=h
   exact ⟨v,h1.below hb,h2,h3⟩
def rdM (t:ByteArray):Option Ms:=if t.size≤512∧rdE t=0 then msgF t else none
def rdX (t:ByteArray):Int:=if t.size≤512 then (if rdE t=0 then 0 else 1) else 2
theorem rdP_is {t:ByteArray} {w:World} {e:Ending} {w':World} (h:RdP t w e w'):∃ i a c o r y p l k,e=.returned (.tuple #[.agg #[.int .i64 i,.bool a,.bool c,.int .i64 o,.string r,.int .i64 y,.slice p l k],.int .i64 (rdX t)])∧Hid (MsV w' (rdM t) #[.int .i64 i,.bool a,.bool c,.int .i64 o,.string r,.int .i64 y,.slice p l k])∧Below w.heap.size w w':=by
 obtain ⟨hb,⟨M,v,hM,hl,hc,he,ho⟩ | ⟨E,hE,hE2,he⟩⟩:=h
 ·have h0:rdE t=0:=by unfold rdE;rw [hM];exact hc
  have hx:rdX t=0:=by unfold rdX;rw [if_pos hl,if_pos h0]
  have hm:rdM t=some M:=by unfold rdM;rw [if_pos ⟨hl,h0⟩,hM]
  have hcf:=chkMsg_facts hc
  obtain ⟨p,l,k,rfl⟩:∃ a l c,v=.slice a l c:=by
   rcases ho.out.2 with ⟨hv,_⟩ | ⟨gq,cq,_,hv,_⟩
   ·exact ⟨_,_,_,hv⟩
   ·exact ⟨_,_,_,hv⟩
  refine ⟨M.id,M.ans,M.cut,M.code,M.R,M.typ,p,l,k,by rw [hx];exact he,?_,hb⟩
  rw [hm]
  exact ⟨_,ho.out.sl (recs_ok hcf.2.2),by have:=hcf.1;omega,rfl⟩
 ·have hm:rdM t=none:=by
   unfold rdM
   rw [if_neg (fun h=>hE2 h.1 h.2)]
  have hx:rdX t=E:=by
   unfold rdX
   rw [hE]
   by_cases hl:t.size≤512
   ·rw [if_pos hl,if_pos hl,if_neg (hE2 hl)]
   ·rw [if_neg hl,if_neg hl]
  refine ⟨0,false,false,0,⟨#[]⟩,0,none,0,0,by rw [hx];exact he,?_,hb⟩
  rw [hm]
  exact (rfl:_=zmsg)
def quietB (s:ByteArray):Bool:=decide (s.size < 12) || decide (128≤(s.data.toList.getD 2 0).toNat)
def repId (s:ByteArray):Int:=256 * ((s.data.toList.getD 0 0).toNat:Int)+((s.data.toList.getD 1 0).toNat:Int)
theorem repId_in (s:ByteArray):0≤repId s∧repId s≤65535:=by
 unfold repId
 have h0:=(s.data.toList.getD 0 0).toNat_lt
 have h1:=(s.data.toList.getD 1 0).toNat_lt
 omega
def ansL (name:ByteArray) (typ:Int) (here:ByteArray) (sv:List Sv.Svc) (ms:List Mem) (p:Pl) (wh:List Wh.Whe):List Rc.Rec:=
 if prsE name=0 then (if (anS (prsQ name) typ here sv ms p wh).e=0 then (anS (prsQ name) typ here sv ms p wh).rs else []) else []
def ansC (name:ByteArray) (typ:Int) (here:ByteArray) (sv:List Sv.Svc) (ms:List Mem) (p:Pl) (wh:List Wh.Whe):Int:=
 if prsE name=0 then (if (anS (prsQ name) typ here sv ms p wh).e=0 then (anS (prsQ name) typ here sv ms p wh).code else 2) else if prsE name=8 then 4 else 3
structure Rp where
 code:Int
 typ:Int
 R:ByteArray
 rs:List Rc.Rec
def repM (s here:ByteArray) (sv:List Sv.Svc) (ms:List Mem) (p:Pl) (wh:List Wh.Whe):Rp:=match rdM s with
 | some M=>if M.rs.length=0 then ⟨ansC M.R M.typ here sv ms p wh,M.typ,M.R,ansL M.R M.typ here sv ms p wh⟩ else ⟨1,1,⟨#[]⟩,[]⟩
 | none=>⟨1,1,⟨#[]⟩,[]⟩
theorem rdM_some {s:ByteArray} {M:Ms} (h:rdM s=some M):chkMsg M.id M.code M.typ M.R M.rs=0:=by
 unfold rdM at h
 by_cases hc:s.size≤512∧rdE s=0
 ·rw [if_pos hc] at h
  have h2:=hc.2
  unfold rdE at h2
  rw [h] at h2
  exact h2
 ·rw [if_neg hc] at h;cases h
theorem chkMsg_typ {id code typ:Int} {name:ByteArray} {rs:List Rc.Rec} (h:chkMsg id code typ name rs=0):typB typ=true:=by
 unfold chkMsg at h
 split at h
 ·omega
 ·split at h
  ·omega
  ·split at h
   ·rename_i h1;exact absurd h h1
   ·split at h
    ·omega
    ·rename_i h1;simpa using h1
theorem prsE_0 {s:ByteArray} (h:prsE s=0):prE (prsQ s)=0:=(back_two h).1
theorem prE_chk {q:Qu} (h:prE q=0):chkQ q=0∧chkN (prS q)=0:=by
 unfold prE at h
 by_cases h2:chkQ q=0
 ·rw [if_pos h2] at h
  refine ⟨h2,?_⟩
  have h3:prE q=0:=by unfold prE;rw [if_pos h2];exact h
  unfold prS
  rw [if_pos h3]
  exact h
 ·rw [if_neg h2] at h;exact absurd h h2
theorem chkN_empty:chkN ⟨#[]⟩=0:=by kernel_rfl
theorem svc_facts {s:Sv.Svc} (h:s.e=0):within s.addr 0 4294967295=true∧within s.port 0 65535=true∧s.idn.size≤30:=by
 unfold Sv.Svc.e at h
 split at h
 ·rename_i h1
  split at h
  ·rename_i h2
   simp only [Bool.and_eq_true] at h1 h2
   refine ⟨h2.1,h2.2.1,?_⟩
   have h3:=h1.2.1
   unfold labB at h3
   simp only [Bool.and_eq_true,decide_eq_true_eq] at h3
   exact h3.1.2
  ·omega
 ·omega
theorem w0:within 0 0 2147483647=true:=by decide
theorem rec1_chk {name here:ByteArray} {t:Int} {s:Sv.Svc} (hn:chkN name=0) (ht:typB t=true) (hs:s.e=0) (he:recE here t s=0):chkRec (rec1 name here t s)=0:=by
 obtain ⟨h1,h2,h3⟩:=svc_facts hs
 have ht2:t=1∨t=16∨t=33:=by unfold typB at ht;simpa [or_assoc] using ht
 have e0:(⟨#[]⟩:ByteArray).size=0:=rfl
 rcases ht2 with rfl | rfl | rfl
 ·have e:rec1 name here 1 s=⟨name,1,0,s.addr,⟨#[]⟩,0,⟨#[]⟩⟩:=rfl
  rw [e]
  unfold chkRec
  simp only [hn,ownB,h1,w0,chkN_empty,e0]
  simp [typB,within]
 ·have e:rec1 name here 16 s=⟨name,16,0,0,s.idn,0,⟨#[]⟩⟩:=rfl
  rw [e]
  have h4:¬ 200 < s.idn.size:=by omega
  unfold chkRec
  simp only [hn,ownB,w0,chkN_empty,e0,h4]
  simp [typB,within]
 ·have e:rec1 name here 33 s=⟨name,33,0,0,⟨#[]⟩,s.port,prS (qN s.node here)⟩:=rfl
  have he2:prE (qN s.node here)=0:=he
  have h5:=(prE_chk he2).2
  rw [e]
  unfold chkRec
  simp only [hn,ownB,w0,h2,h5,e0]
  simp [typB,within]
theorem mem_addr {ms:List Mem} {t:ByteArray} (hc:chk ms=0):within (mOf ms t).addr 0 4294967295=true:=by
 cases h:fstM ms t with
 | none=>rw [mOf_none h];decide
 | some m=>
   rw [mOf_some h]
   have h2:m.e=0:=firstE_mem0 (chk_zero hc).2.2 m (fstM_mem h).1
   unfold Mem.e oneE at h2
   split at h2
   ·split at h2
    ·split at h2
     ·split at h2
      ·rename_i h5;exact h5
      ·omega
     ·omega
    ·omega
   ·omega
theorem nd_chk {name:ByteArray} {ad:Int} (hn:chkN name=0) (ha:within ad 0 4294967295=true):chkRec ⟨name,1,0,ad,⟨#[]⟩,0,⟨#[]⟩⟩=0:=by
 have e0:(⟨#[]⟩:ByteArray).size=0:=rfl
 unfold chkRec
 simp only [hn,ownB,ha,w0,chkN_empty,e0]
 simp [typB,within]
theorem recsE_none {here:ByteArray} {t:Int}:∀ {L:List Sv.Svc},recsE here t L=0→∀ s∈L,recE here t s=0
 | [],_,s,hs=>by simp at hs
 | x :: r,h,s,hs=>by
   rw [recsE] at h
   by_cases h2:recE here t x=0
   ·rw [if_pos h2] at h
    rcases List.mem_cons.1 hs with rfl | hs
    ·exact h2
    ·exact recsE_none h s hs
   ·rw [if_neg h2] at h;exact absurd h h2
theorem anS_chk {q:Qu} {t:Int} {here:ByteArray} {sv:List Sv.Svc} {ms:List Mem} {p:Pl} {wh:List Wh.Whe} (hk:KnOk here sv ms p wh) (ht:typB t=true) (he:(anS q t here sv ms p wh).e=0):∀ r∈(anS q t here sv ms p wh).rs,chkRec r=0:=by
 unfold anS at he ⊢
 by_cases h1:prE q=0
 ·rw [if_pos h1] at he ⊢
  have hn:=(prE_chk h1).2
  by_cases h2:q.centre.size≠0∧q.centre≠here
  ·rw [if_pos h2];simp
  ·rw [if_neg h2] at he ⊢
   by_cases h3:q.node.size≠0
   ·rw [if_pos h3] at he ⊢
    unfold ofNd
    split
    ·split
     ·intro r hr
      simp at hr
      subst hr
      exact nd_chk hn (mem_addr hk.ms)
     ·simp
    ·simp
   ·rw [if_neg h3] at he ⊢
    unfold ofSv at he ⊢
    by_cases h4:Sv.findL sv q.service ⟨#[]⟩=[]
    ·rw [if_pos h4];simp
    ·rw [if_neg h4] at he ⊢
     by_cases h5:recsE here t (nearL p wh ms (Sv.findL sv q.service q.tag))=0
     ·rw [if_pos h5]
      intro r hr
      obtain ⟨s,hs,rfl⟩:=List.mem_map.1 hr
      have h6:=(List.mem_filter.1 (near_mem hs).1).1
      exact rec1_chk hn ht (Sv.firstE_mem sv (Sv.chk_zero hk.sv).2.2 s h6) (recsE_none h5 s hs)
     ·rw [if_neg h5] at he;exact absurd he h5
 ·rw [if_neg h1] at he;exact absurd he h1
theorem anS_few (q:Qu) (t:Int) (here:ByteArray) (sv:List Sv.Svc) (ms:List Mem) (p:Pl) (wh:List Wh.Whe):(anS q t here sv ms p wh).rs.length≤20:=by
 unfold anS
 split
 ·split
  ·simp
  ·split
   ·unfold ofNd;(repeat' split)<;>simp
   ·unfold ofSv
    split
    ·simp
    ·split
     ·rw [List.length_map];exact near_len _ _ _ _
     ·simp
 ·simp
theorem anS_code (q:Qu) (t:Int) (here:ByteArray) (sv:List Sv.Svc) (ms:List Mem) (p:Pl) (wh:List Wh.Whe):0≤(anS q t here sv ms p wh).code∧(anS q t here sv ms p wh).code≤15:=by
 unfold anS
 split
 ·split
  ·simp
  ·split
   ·unfold ofNd;(repeat' split)<;>simp
   ·unfold ofSv;(repeat' split)<;>simp
 ·simp
structure RpOk (r:Rp):Prop where
 code:within r.code 0 15=true
 few:r.rs.length≤20
 name:chkN r.R=0
 typ:typB r.typ=true
 rs:∀ x∈r.rs,chkRec x=0
theorem chkRs_zero:∀ {rs:List Rc.Rec},(∀ r∈rs,chkRec r=0)→chkRs rs=0
 | [],_=>rfl
 | x :: r,h=>by rw [chkRs,if_pos (h x (by simp))];exact chkRs_zero fun y hy=>h y (by simp [hy])
theorem ansC_in (name:ByteArray) (typ:Int) (here:ByteArray) (sv:List Sv.Svc) (ms:List Mem) (p:Pl) (wh:List Wh.Whe):within (ansC name typ here sv ms p wh) 0 15=true:=by
 have h:=anS_code (prsQ name) typ here sv ms p wh
 unfold ansC
 split
 ·split
  ·unfold within;simp;omega
  ·decide
 ·split<;>decide
theorem repM_ok {s here:ByteArray} {sv:List Sv.Svc} {ms:List Mem} {p:Pl} {wh:List Wh.Whe} (hk:KnOk here sv ms p wh):RpOk (repM s here sv ms p wh):=by
 have hform:RpOk ⟨1,1,⟨#[]⟩,[]⟩:=⟨by decide,by simp,chkN_empty,by decide,by simp⟩
 unfold repM
 cases h:rdM s with
 | none=>exact hform
 | some M=>
   simp only
   by_cases h0:M.rs.length=0
   ·rw [if_pos h0]
    have hc:=rdM_some h
    have ht:=chkMsg_typ hc
    refine ⟨ansC_in _ _ _ _ _ _ _,?_,(chkMsg_facts hc).2.1,ht,?_⟩
    ·show (ansL M.R M.typ here sv ms p wh).length≤20
     unfold ansL
     split
     ·split
      ·exact anS_few _ _ _ _ _ _ _
      ·simp
     ·simp
    ·show ∀ x∈ansL M.R M.typ here sv ms p wh,chkRec x=0
     unfold ansL
     split
     ·split
      ·rename_i h1 h2
       exact anS_chk hk ht h2
      ·simp
     ·simp
   ·rw [if_neg h0];exact hform
theorem rp_chk {id:Int} {r:Rp} (h:RpOk r) (hi:0≤id∧id≤65535):chkMsg id r.code r.typ r.R r.rs=0:=by
 have h1:within id 0 65535=true:=by unfold within;simp;omega
 unfold chkMsg
 rw [h1,h.code]
 simp only [Bool.and_self,Bool.true_eq_false,if_false]
 rw [if_neg (by have:=h.few;omega),if_neg (by simpa using h.name),if_neg (by rw [h.typ];simp)]
 exact chkRs_zero h.rs
theorem head_len (id code typ:Int) (ans cut:Bool) {name:ByteArray} (h:chkN name=0) (n:Nat):(wheadL id code typ ans cut name n).length≤300:=by
 have h1:=wname_len h
 rw [wname_cells,Lib.byteCells_length] at h1
 unfold wheadL
 simp only [List.length_append,nbl_len]
 omega
theorem fitN_zero {f:Nat→List UInt8} {size:Int} (h:((f 0).length:Int)≤size):∀ n,(fitN f size n).isSome=true
 | 0=>by rw [fitN,if_pos h];rfl
 | k+1=>by
   rw [fitN]
   split
   ·rfl
   ·exact fitN_zero h k
theorem rp_fits {id:Int} {r:Rp} (h:RpOk r) (hi:0≤id∧id≤65535):fitE id r.code r.typ true false r.R r.rs 512=0:=by
 unfold fitE
 rw [if_neg (by decide),if_pos (rp_chk h hi),if_pos]
 refine fitN_zero ?_ _
 have h1:=head_len id r.code r.typ true (false || decide (0 < r.rs.length)) h.name 0
 unfold fitB wallL
 simp only [List.take_zero,List.length_nil,List.flatMap_nil,List.append_nil]
 omega
def repT (s here:ByteArray) (sv:List Sv.Svc) (ms:List Mem) (p:Pl) (wh:List Wh.Whe):ByteArray:=fitT (repId s) (repM s here sv ms p wh).code (repM s here sv ms p wh).typ true false (repM s here sv ms p wh).R (repM s here sv ms p wh).rs 512
end Go.Proofs.YtignmeaeibaejaaGreatDoor
