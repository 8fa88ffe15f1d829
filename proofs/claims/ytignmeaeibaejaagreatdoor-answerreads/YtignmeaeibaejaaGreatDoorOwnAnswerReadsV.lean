/- Proved: whatever text it is handed, and whatever is known, AnswerReads returns true, that is: what Reply of package answer answers is read by Read of package dns, in at most 512 bytes, with its number, and is marked as an answer (H3); for every input that the row can read, no condition of ours; the row lists variables of the library (unicode/utf8), and the card ties what they hold to the program's text. -/
import Derived.Test.YtignmeaeibaejaaGreatDoorRows
import Derived.Test.YtignmeaeibaejaaGreatDoorCards
import Derived.Test.YtignmeaeibaejaaGreatDoorTie
import Derived.Test.YtignmeaeibaejaaGreatDoorV53
import Derived.Test.YtignmeaeibaejaaGreatDoorV10
import Derived.Test.YtignmeaeibaejaaGreatDoorV8
import Derived.ProofKit
import Derived.OpenShut
import Derived.ShutString
import Derived.ChangeOld
import Derived.Below
import Derived.LaidMore
import Derived.Lay
import Derived.SevenTiedAt
import Derived.Stop.Joined
namespace Go.Proofs.YtignmeaeibaejaaGreatDoor
open Go.ChangeMaps (open_string shut_string)
open Go.ChangeShapes Go.WideShapes Go.ChangeAt Go.RowKit
theorem AnswerReads.own:ownKnob Tryz.prog.godebug=none:=by kernel_rfl
theorem AnswerReads.laidOut:laidOutB Tryz.prog=true:=by kernel_rfl
set_option maxRecDepth 100000 in
theorem AnswerReads.lifted (os:Os) (started:os.Started) (H:Type) (enc:TypeId × Value→H) :
 ReturnsInHanded {} Tryz.checked os 5 .any (fun w args=>(Rows.answerReadsSpec.pre enc Tryz.prog Tryz.f5 Rows.answerReadsRow.domain false w args∧laidMetH Tryz.prog Rows.answerReadsRow.laid w)∧sizedMet enc Tryz.prog Tryz.f5 (OpenSpec.ofChange Rows.answerReadsSpec) false w args)
  (Rows.answerReadsSpec.post enc Tryz.prog Tryz.f5 false true false false):=by
 refine returns_of_shaped (C:=Tryz.checked) (X:=fun w _=>laidMetH Tryz.prog Rows.answerReadsRow.laid w) AnswerReads.own started (by kernel_rfl) Tryz.func5
  (ChangeSpec.witness_shaped (enc:=enc) (C:=Tryz.checked) (os:=os) (X:=fun w _=>laidMetH Tryz.prog Rows.answerReadsRow.laid w) false (World.laidAll Tryz.prog os Rows.answerReadsRow.laid) #[.string ⟨#[]⟩,.agg #[.string ⟨#[]⟩,.slice none 0 0,.slice none 0 0,.int .i64 0,.int .i64 0,.int .i64 0,.int .i64 0,.int .i64 0,.slice none 0 0]] 8 (World.laidAll_os _ _ _)
    (World.shaped_of_ZipB (by kernel_rfl) (by kernel_rfl)) (by kernel_rfl) (by kernel_rfl) (by kernel_rfl)
    (by rw [MakeChecks.laidMetH_plain _ _ _ (by kernel_rfl)];exact laidMet_laidAll _ (by kernel_rfl) (by kernel_rfl))) ?_
 intro W base args ds gs before hsh hval0 hW
 have hval:∀ (j:Nat) t v,Tryz.f5.params[j]?=some t→args[j]?=some v→Value.okWide Tryz.prog W .any base t v:=hval0
 have hW':=hW
 obtain ⟨p,q,hA0,hV,rfl,_,_⟩:=hW
 have hA:DataW.TrodAll enc Tryz.prog W 0 (fun _=>true) true Tryz.f5.params.toList args.toList ds p:=hA0
 rw [Tryz.params5] at hA hval
 obtain ⟨v0,vs0,d0,ds0,p0,q0,hargs,rfl,rfl,h0,r0⟩:=trodAll_cons hA
 obtain ⟨v1,vs1,d1,ds1,p1,q1,rfl,rfl,rfl,h1,r1⟩:=trodAll_cons r0
 obtain ⟨rfl,rfl,rfl⟩:=trodAll_nil r1
 obtain rfl:args=#[v0,v1]:=by cases args;simp_all
 obtain ⟨rfl,rfl⟩:=trodVars_none hV
 have k0:=h0
 have lt0:∀ x∈p0,x.block < W.heap.size:=by obtain ⟨m,hm⟩:=k0;exact DataW.trod_lt m _ _ _ hm
 obtain ⟨l0,rfl,rfl,rfl,u0⟩:=open_string Tryz.underlying9 (hval 0 9 v0 rfl rfl) h0
 have k1:=h1
 have lt1:∀ x∈p1,x.block < W.heap.size:=by obtain ⟨m,hm⟩:=k1;exact DataW.trod_lt m _ _ _ hm
 obtain ⟨here1,ps1,pm1,pw1,ns1,cn1,nm1,cm1,nw1,cw1,px1,py1,pz1,ph1,pq1,sv1,ms1,wh1,rfl,hh1,hs1,hm1,hw1⟩:=open_known (hval 1 28 v1 rfl rfl) h1
 clear hA0 hval0
 refine (answerReads_walk here1 ps1 pm1 pw1 ns1 cn1 nm1 cm1 nw1 cw1 px1 py1 pz1 ph1 pq1 l0 sv1 ms1 wh1 W (ml_of hsh) hh1 hs1 hm1 hw1).mono fun e W' ⟨he,bel⟩=>?_
 subst he
 exact ⟨_,rfl,_,_,_,[],_,[],hW',trodAll_mk1 (shut_bool Tryz.underlying4 _),(trodAll_cons_mk (Below.trod AnswerReads.laidOut (by kernel_rfl) (of_decide_eq_true (by kernel_rfl)) k0 bel lt0) (trodAll_cons_mk (Below.trod AnswerReads.laidOut (by kernel_rfl) (of_decide_eq_true (by kernel_rfl)) k1 bel lt1) trodAll_mk0)),rfl,bel.frame _,fun h=>by cases h⟩
theorem answerReads_holds:Rows.AnswerReadsSaid:=
 OpenClaim.holds_of_wide 5 Tryz.f5 rfl rfl rfl rfl rfl rfl rfl ⟨rfl,rfl,rfl,rfl,rfl⟩ rfl rfl rfl rfl rfl (by kernel_rfl) Tryz.func5 (by kernel_rfl)
  (of_decide_eq_true (by kernel_rfl)) (by unfold Func.isWrapper;first | (rw [if_pos (by decide +kernel)];kernel_rfl) | (rw [if_neg (by decide +kernel)];exact ⟨rfl,rfl⟩))
  (fun os started H enc _=>AnswerReads.lifted os started H enc)
theorem answerReads_card:Rows.AnswerReadsCardSaid:=
 Claim7.holds_tied_plain_at .later [] [.data, .pinned] true (true, "93a382b1d8719e9b7c96f7c1ffea2334a6835c3bdaf1e2ab4bb8f40796330217") true answerReads_holds (fun _ h => by cases h) (by kernel_rfl) (fun _ h => by cases h) answerReads_row_tie rfl ⟨rfl, rfl⟩ (by kernel_rfl) rfl
  (fun f fn hf hfn=>by
    obtain rfl : f = 5 := Option.some.inj ((show Tryz.prog.funcNamed "hearsay/hearsaylaw.AnswerReads" = some 5 by kernel_rfl).symm.trans hf) |>.symm
    obtain rfl:fn=Tryz.f5:=(Option.some.inj (Tryz.func5.symm.trans hfn)).symm
    exact ⟨by kernel_rfl,fun j t ht=>by
     rw [Tryz.params5] at ht
     have hm:t∈[9,28]:=by simpa using Array.mem_of_getElem? ht
     have hall:([9,28].all fun u => !Tryz.prog.wantsStandIn u)=true:=by kernel_rfl
     exact (show Tryz.prog.wantsStandIn t=false by simpa using List.all_eq_true.1 hall t hm)⟩)
  (by kernel_rfl)
end Go.Proofs.YtignmeaeibaejaaGreatDoor
