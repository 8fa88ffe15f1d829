/- Proved: whatever net it is handed, of a bulk of at most about a million, NetChecks returns true, that is: Check and Agree of package net answer just what the document says, errors too (K1, K3); the second form, narrowed by the bound on the input's bulk; the row lists variables of the library (strconv, math/bits), and the card ties what they hold to the program's text. -/
import Derived.Test.YtffdoiokmiklgaaGreatDoorRows
import Derived.Test.YtffdoiokmiklgaaGreatDoorCards
import Derived.Test.YtffdoiokmiklgaaGreatDoorTie
import Derived.Test.YtffdoiokmiklgaaGreatDoorX50
import Derived.Test.YtffdoiokmiklgaaGreatDoorX37
import Derived.Test.YtffdoiokmiklgaaGreatDoorX20
import Derived.Test.YtffdoiokmiklgaaGreatDoorX40
import Derived.Test.YtffdoiokmiklgaaGreatDoorX45
import Derived.ProofKit
import Derived.OpenShut
import Derived.ShutString
import Derived.ChangeOld
import Derived.Below
import Derived.LaidMore
import Derived.Lay
import Derived.SevenTiedAt
import Derived.Stop.Joined
import Derived.SizedLaws
import Derived.Handed
import Derived.Deep.DeepHandedRow
namespace Go.Proofs.YtffdoiokmiklgaaGreatDoor
open Go.ChangeMaps (open_string shut_string)
open Go.ChangeShapes Go.WideShapes Go.ChangeAt Go.RowKit
theorem NetChecks.own:ownKnob Tryz.prog.godebug=none:=by kernel_rfl
theorem NetChecks.laidOut:laidOutB Tryz.prog=true:=by kernel_rfl
theorem NetChecks.met (os:Os):laidMet Tryz.prog Rows.netChecksUptoRow.laid ((World.laidAll Tryz.prog os Rows.netChecksUptoRow.laid).forCall (fun _ _=>0) ⟨#[],#[.agg #[.slice none 0 0,.slice none 0 0]],[]⟩).memory:=
 laidMet_laidAll _ (by kernel_rfl) (by kernel_rfl)
theorem NetChecks.reads (os:Os) {H:Type} (enc:TypeId × Value→H):∃ places,DataW.whole enc Tryz.prog ((World.laidAll Tryz.prog os Rows.netChecksUptoRow.laid).forCall (fun _ _=>0) ⟨#[],#[.agg #[.slice none 0 0,.slice none 0 0]],[]⟩).memory Tryz.f4.params.toList Rows.netChecksSpec.vars false (#[.agg #[.slice none 0 0,.slice none 0 0]]:Array Value).toList 8=some ([.agg [.nil,.nil]],[],places):=
 ⟨[],by kernel_rfl⟩
set_option maxRecDepth 100000 in
theorem NetChecks.lifted (os:Os) (started:os.Started) (H:Type) (enc:TypeId × Value→H) (F:Stop.Interp) :
 ReturnsInHanded {} Tryz.checked os 4 .any ((Rows.OpenSpec.upto Rows.netChecksSpec).preRow enc Tryz.prog Tryz.f4 Rows.netChecksUptoRow.domain false Rows.netChecksUptoRow.laid) (((Rows.OpenSpec.upto Rows.netChecksSpec).at F).post enc Tryz.prog Tryz.f4 false true false false):=by
 obtain ⟨places,hx⟩:=NetChecks.reads os enc
 refine returnsInHanded_of_row (C:=Tryz.checked) (s:=Rows.OpenSpec.upto Rows.netChecksSpec) NetChecks.own started (by kernel_rfl) Tryz.func4
  (witness_row_at (enc:=enc) (C:=Tryz.checked) false (World.laidAll Tryz.prog os Rows.netChecksUptoRow.laid) #[.agg #[.slice none 0 0,.slice none 0 0]] (World.laidAll_os _ _ _) (by kernel_rfl) (by kernel_rfl) (by kernel_rfl)
    (OpenSpec.preRow_of_cond 8 hx (by kernel_rfl) (fun k hk=>by cases hk;kernel_rfl) (by kernel_rfl) (NetChecks.met os))) ?_
 intro W base args ds gs before hval0 hW _ hcond hsz hL _ _
 have hval:∀ (j:Nat) t v,Tryz.f4.params[j]?=some t→args[j]?=some v→Value.okWide Tryz.prog W .any base t v:=hval0
 have hW':=hW
 have hbulk:=hcond _ rfl
 obtain ⟨p,q,hA0,hV,rfl,_,_⟩:=hW
 have hA:DataW.TrodAll enc Tryz.prog W 0 (fun _=>true) true Tryz.f4.params.toList args.toList ds p:=hA0
 rw [Tryz.params4] at hA hval
 obtain ⟨v0,vs0,d0,ds0,p0,q0,hargs,rfl,rfl,h0,r0⟩:=trodAll_cons hA
 obtain ⟨rfl,rfl,rfl⟩:=trodAll_nil r0
 obtain rfl:args=#[v0]:=by cases args;simp_all
 obtain ⟨rfl,rfl⟩:=trodVars_none hV
 have hb:=of_decide_eq_true hbulk
 have k0:=h0
 have lt0:∀ x∈p0,x.block < W.heap.size:=by obtain ⟨m,hm⟩:=k0;exact DataW.trod_lt m _ _ _ hm
 obtain ⟨l0,vn0,vl0,e0,u0,b0⟩:=open_net (hval 0 25 v0 rfl rfl) h0
 subst e0
 clear hA0 hval0
 refine (netChecks_walk l0 _ _ W (rv_of hL) u0 (fun _ l hl=>by have:=b0 l hl;simp only [List.cons_append,List.nil_append,Rows.uptoBulkAll] at hb;omega)).mono fun e W' ⟨he,bel⟩=>?_
 subst he
 exact ⟨_,rfl,_,_,_,[],_,[],hW',trodAll_mk1 (shut_bool Tryz.underlying4 _),(trodAll_cons_mk (Below.trod NetChecks.laidOut (by kernel_rfl) (of_decide_eq_true (by kernel_rfl)) k0 bel lt0) trodAll_mk0),rfl,bel.frame _,fun h=>by cases h⟩
theorem netChecksUpto_holds:Rows.NetChecksUptoSaid:=
 OpenClaim.holds_of_cond 4 Tryz.f4 rfl rfl rfl rfl rfl rfl rfl ⟨rfl,rfl,rfl,rfl,rfl⟩ rfl rfl rfl rfl rfl (by kernel_rfl) Tryz.func4 NetChecks.closed
  (of_decide_eq_true (by kernel_rfl)) (by unfold Func.isWrapper;first | (rw [if_pos (by decide +kernel)];kernel_rfl) | (rw [if_neg (by decide +kernel)];exact ⟨rfl,rfl⟩))
  (fun os started H enc _ F=>by rw [OpenClaim.pre_eq_preRow];exact NetChecks.lifted os started H enc F)
theorem netChecksUpto_card:Rows.NetChecksUptoCardSaid:=
 Claim7.holds_tied_plain_at .later [] _ _ _ _ netChecksUpto_holds (fun _ h=>by cases h) (by kernel_rfl) (fun _ h=>by cases h) netChecksUpto_row_tie rfl ⟨rfl,rfl⟩ (by kernel_rfl) rfl
  (fun f fn hf hfn=>by
    obtain rfl : f = 4 := Option.some.inj ((show Tryz.prog.funcNamed "hearsay/hearsaylaw.NetChecks" = some 4 by kernel_rfl).symm.trans hf) |>.symm
    obtain rfl:fn=Tryz.f4:=(Option.some.inj (Tryz.func4.symm.trans hfn)).symm
    exact ⟨by kernel_rfl,fun j t ht=>by
     rw [Tryz.params4] at ht
     have hm:t∈[25]:=by simpa using Array.mem_of_getElem? ht
     have hall:([25].all fun u => !Tryz.prog.wantsStandIn u)=true:=by kernel_rfl
     exact (show Tryz.prog.wantsStandIn t=false by simpa using List.all_eq_true.1 hall t hm)⟩)
  NetChecks.c14
end Go.Proofs.YtffdoiokmiklgaaGreatDoor
