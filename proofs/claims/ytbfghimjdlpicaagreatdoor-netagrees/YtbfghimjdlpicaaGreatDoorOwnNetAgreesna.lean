/- Proved: whatever two numbers and whatever list of events it is handed, NetAgrees returns true, that is: behind the first forty events, as soon as nothing else happens and each node tells all it knows to each, thrice, all nodes agree, all services are known to all if there is room for them, and nobody who did not leave is taken for dead (K4); for every input that the row can read, no condition of ours; the row lists variables of the library (strconv, math/bits), and the card ties what they hold to the program's text. -/
import Derived.Test.YtbfghimjdlpicaaGreatDoorCards
import Derived.Test.YtbfghimjdlpicaaGreatDoorTie
import Derived.Test.YtbfghimjdlpicaaGreatDoorna44
import Derived.Test.YtbfghimjdlpicaaGreatDoorna45
import Derived.Test.YtbfghimjdlpicaaGreatDoorna50
import Derived.Lay
open Go.Proofs.Tryz renaming prog→AS,underlying3→IH
namespace Go.Proofs.YtbfghimjdlpicaaGreatDoor
open Go.ChangeMaps (open_string shut_string)
open Go.ChangeShapes Go.WideShapes Go.ChangeAt Go.RowKit
theorem NetAgrees.own:ownKnob Tryz.prog.godebug=none:=by kernel_rfl
theorem NetAgrees.laidOut:laidOutB AS=true:=by kernel_rfl
set_option maxRecDepth 100000 in
theorem NetAgrees.lifted(os:Os)(started:os.Started)(H:Type)(enc:TypeId×Value->H) :
 ReturnsInHanded {} Tryz.checked os 3 .any (λw args=>(Rows.netAgreesSpec.pre enc AS Tryz.f3 Rows.netAgreesRow.domain false w args/\laidMetH AS Rows.netAgreesRow.laid w)/\sizedMet enc AS Tryz.f3 (OpenSpec.ofChange Rows.netAgreesSpec) false w args)
  (Rows.netAgreesSpec.post enc AS Tryz.f3 false true false false):=by
 refine returnsInHanded_of_change_and (C:=Tryz.checked) (X:=λw _=>laidMetH AS Rows.netAgreesRow.laid w) (λ_ _ _ hh h=>h.of_heap hh) NetAgrees.own started (by kernel_rfl) Tryz.func3
  (ChangeSpec.witness_shaped (enc:=enc) (C:=Tryz.checked) (os:=os) (X:=λw _=>laidMetH AS Rows.netAgreesRow.laid w) false (World.laidAll AS os Rows.netAgreesRow.laid) #[.int .i64 0,.int .i64 0,.slice none 0 0] 8 (World.laidAll_os _ _ _)
    (World.shaped_of_ZipB (by kernel_rfl) (by kernel_rfl)) (by kernel_rfl) (by kernel_rfl) (by kernel_rfl)
    (by rw[MakeChecks.laidMetH_plain _ _ _ (by kernel_rfl)];exact laidMet_laidAll _ (by kernel_rfl) (by kernel_rfl))) ?_
 intro W base args ds gs before TW hW _ cB hL _;have Ru:∀(j:Nat) t v,Tryz.f3.params[j]?=some t->args[j]?=some v->Value.okWide AS W .any base t v:=TW;have hW':=hW;obtain⟨p,q,hA0,hV,rfl,_,_⟩:=hW;have hA:DataW.TrodAll enc AS W 0 (λ_=>true) true Tryz.f3.params.toList args.toList ds p:=hA0;rw[Tryz.params3] at hA Ru;obtain⟨v0,vs0,d0,ds0,p0,q0,akj,rfl,rfl,h0,r0⟩:=trodAll_cons hA;obtain⟨v1,vs1,d1,ds1,p1,q1,rfl,rfl,rfl,h1,r1⟩:=trodAll_cons r0;obtain⟨v2,vs2,d2,ds2,p2,q2,rfl,rfl,rfl,h2,r2⟩:=trodAll_cons r1;obtain⟨rfl,rfl,rfl⟩:=trodAll_nil r2;obtain rfl:args=#[v0,v1,v2]:=by cases args;simp_all
 obtain⟨rfl,rfl⟩:=trodVars_none hV;have k0:=h0;have lt0:∀x∈p0,x.block<W.heap.size:=by obtain⟨m,hm⟩:=k0;exact DataW.trod_lt m _ _ _ hm
 obtain⟨l0,rfl,rfl,rfl,u0⟩:=open_int IH (Ru 0 3 v0 rfl rfl) h0;have k1:=h1;have lt1:∀x∈p1,x.block<W.heap.size:=by obtain⟨m,hm⟩:=k1;exact DataW.trod_lt m _ _ _ hm
 obtain⟨l1,rfl,rfl,rfl,u1⟩:=open_int IH (Ru 1 3 v1 rfl rfl) h1;have k2:=h2;have lt2:∀x∈p2,x.block<W.heap.size:=by obtain⟨m,hm⟩:=k2;exact DataW.trod_lt m _ _ _ hm
 obtain⟨l2,q2,g2,e2,w2,u2⟩:=AF (Ru 2 22 v2 rfl rfl) h2;subst e2;clear hA0 TW;refine(uA l0 l1 l2 q2 g2 W (aa6 hL) (bounds_i64 u0) (bounds_i64 u1) w2 u2).mono λe W' ⟨he,lv⟩=>?_;subst he;exact⟨_,rfl,_,_,_,[],_,[],hW',trodAll_mk1 (shut_bool Tryz.underlying4 _),(trodAll_cons_mk (Below.trod NetAgrees.laidOut (by kernel_rfl) (of_decide_eq_true (by kernel_rfl)) k0 lv lt0) (trodAll_cons_mk (Below.trod NetAgrees.laidOut (by kernel_rfl) (of_decide_eq_true (by kernel_rfl)) k1 lv lt1) (trodAll_cons_mk (Below.trod NetAgrees.laidOut (by kernel_rfl) (of_decide_eq_true (by kernel_rfl)) k2 lv lt2) trodAll_mk0))),rfl,lv.frame _,λh=>by cases h⟩
theorem tJ:Rows.NetAgreesSaid:=
 OpenClaim.holds_of_wide 3 Tryz.f3 rfl rfl rfl rfl rfl rfl rfl ⟨rfl,rfl,rfl,rfl,rfl⟩ rfl rfl rfl rfl rfl (by kernel_rfl) Tryz.func3 NetAgrees.closed
  (of_decide_eq_true (by kernel_rfl)) (by unfold Func.isWrapper;first|(rw[if_pos (by decide +kernel)];kernel_rfl)|(rw[if_neg (by decide +kernel)];exact⟨rfl,rfl⟩))
  (λos started H enc _=>NetAgrees.lifted os started H enc)
theorem netAgrees_card:Rows.NetAgreesCardSaid:=
 Claim7.holds_tied_plain_at .later [] _ _ _ _ tJ (λ_ h=>by cases h) (by kernel_rfl) (λ_ h=>by cases h) netAgrees_row_tie rfl ⟨rfl,rfl⟩ (by kernel_rfl) rfl
  (λf fn hf hfn=>by
   obtain rfl : f = 3 := Option.some.inj ((show Tryz.prog.funcNamed "hearsay/hearsaylaw.NetAgrees" = some 3 by kernel_rfl).symm.trans hf) |>.symm;obtain rfl:fn=Tryz.f3:=(Option.some.inj (Tryz.func3.symm.trans hfn)).symm;exact⟨by kernel_rfl,λj t ht=>by
    rw[Tryz.params3] at ht;have hm:t∈[3,3,22]:=by simpa using Array.mem_of_getElem? ht
    have ki:([3,3,22].all λu => !Tryz.prog.wantsStandIn u)=true:=by kernel_rfl
    exact(show Tryz.prog.wantsStandIn t=false by simpa using List.all_eq_true.1 ki t hm)⟩)
  NetAgrees.c14
end Go.Proofs.YtbfghimjdlpicaaGreatDoor
