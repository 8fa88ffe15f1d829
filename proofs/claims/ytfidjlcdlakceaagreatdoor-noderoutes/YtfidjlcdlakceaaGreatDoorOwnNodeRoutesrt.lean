/- Proved: whatever node, query and number it is handed, NodeRoutes returns true, that is: a question for another centre, of which there is a gateway, goes on as it is, to where Next says, and one for this centre never does (J7); for every input that the row can read, no condition of ours; the row lists variables of the library (unicode/utf8), and the card ties what they hold to the program's text. -/
import Derived.Test.YtfidjlcdlakceaaGreatDoorCards
import Derived.Test.YtfidjlcdlakceaaGreatDoorTie
import Derived.Test.YtfidjlcdlakceaaGreatDoorrt50
import Derived.Test.YtfidjlcdlakceaaGreatDoorrt37
import Derived.Test.YtfidjlcdlakceaaGreatDoorrt42
import Derived.LaidMore
import Derived.Lay
open Go.Proofs.Tryz renaming prog→be
open Go.Value renaming string→I,slice→U,int→O
namespace Go.Proofs.YtfidjlcdlakceaaGreatDoor
open Go.ChangeMaps (open_string shut_string)
open Go.ChangeShapes Go.WideShapes Go.ChangeAt Go.RowKit
theorem NodeRoutes.own:ownKnob Tryz.prog.godebug=none:=by kernel_rfl
theorem NodeRoutes.laidOut:laidOutB be=true:=by kernel_rfl
set_option maxRecDepth 100000 in
theorem NodeRoutes.lifted(os:Os)(started:os.Started)(H:Type)(enc:TypeId×Value->H) :
 ReturnsInHanded {} Tryz.checked os 3 .any (λw args=>(Rows.nodeRoutesSpec.pre enc be Tryz.f3 Rows.nodeRoutesRow.domain false w args/\laidMetH be Rows.nodeRoutesRow.laid w)/\sizedMet enc be Tryz.f3 (OpenSpec.ofChange Rows.nodeRoutesSpec) false w args)
  (Rows.nodeRoutesSpec.post enc be Tryz.f3 false true false false):=by
 refine nJ (C:=Tryz.checked) (X:=λw _=>laidMetH be Rows.nodeRoutesRow.laid w) NodeRoutes.own started (by kernel_rfl) Tryz.func3
  (ChangeSpec.witness_shaped (enc:=enc) (C:=Tryz.checked) (os:=os) (X:=λw _=>laidMetH be Rows.nodeRoutesRow.laid w) false (World.laidAll be os Rows.nodeRoutesRow.laid) #[.agg #[I ⟨#[]⟩,I ⟨#[]⟩,U none 0 0,U none 0 0,U none 0 0,U none 0 0,O .i64 0,O .i64 0,O .i64 0,O .i64 0,O .i64 0,U none 0 0],.agg #[I ⟨#[]⟩,I ⟨#[]⟩,I ⟨#[]⟩,I ⟨#[]⟩],O .i64 0] 8 (World.laidAll_os _ _ _)
    (World.shaped_of_ZipB (by kernel_rfl) (by kernel_rfl)) (by kernel_rfl) (by kernel_rfl) (by kernel_rfl)
    (by rw[MakeChecks.laidMetH_plain _ _ _ (by kernel_rfl)];exact laidMet_laidAll _ (by kernel_rfl) (by kernel_rfl))) ?_
 intro W base args ds gs before rV RJ hW;have DQ:∀(j:Nat) t v,Tryz.f3.params[j]?=some t->args[j]?=some v->Value.okWide be W .any base t v:=RJ;have hW':=hW;obtain⟨p,q,hA0,hV,rfl,_,_⟩:=hW;have hA:DataW.TrodAll enc be W 0 (λ_=>true) true Tryz.f3.params.toList args.toList ds p:=hA0;rw[Tryz.params3] at hA DQ;obtain⟨v0,vs0,d0,ds0,p0,q0,ahF,rfl,rfl,h0,r0⟩:=trodAll_cons hA;obtain⟨v1,vs1,d1,ds1,p1,q1,rfl,rfl,rfl,h1,r1⟩:=trodAll_cons r0;obtain⟨v2,vs2,d2,ds2,p2,q2,rfl,rfl,rfl,h2,r2⟩:=trodAll_cons r1;obtain⟨rfl,rfl,rfl⟩:=trodAll_nil r2;obtain rfl:args=#[v0,v1,v2]:=by cases args;simp_all
 obtain⟨rfl,rfl⟩:=trodVars_none hV;have k0:=h0;have lt0:∀x∈p0,x.block<W.heap.size:=by obtain⟨m,hm⟩:=k0;exact DataW.trod_lt m _ _ _ hm
 obtain⟨l0,vm0,vr0,akd,vg0,vw0,e0,w0⟩:=DR (DQ 0 30 v0 rfl rfl) h0;subst e0;have k1:=h1;have lt1:∀x∈p1,x.block<W.heap.size:=by obtain⟨m,hm⟩:=k1;exact DataW.trod_lt m _ _ _ hm
 obtain⟨l1,w1,u1⟩:=xy (DQ 1 32 v1 rfl rfl) h1;subst w1;have k2:=h2;have lt2:∀x∈p2,x.block<W.heap.size:=by obtain⟨m,hm⟩:=k2;exact DataW.trod_lt m _ _ _ hm
 obtain⟨l2,rfl,rfl,rfl,u2⟩:=open_int Tryz.underlying3 (DQ 2 3 v2 rfl rfl) h2;clear hA0 RJ;refine(qI l0 _ _ _ _ _ l1 l2 W (XI rV) w0 u1 (bounds_i64 u2)).mono λe W' ⟨he,uM⟩=>?_;subst he;exact⟨_,rfl,_,_,_,[],_,[],hW',trodAll_mk1 (shut_bool Tryz.underlying4 _),(trodAll_cons_mk (Below.trod NodeRoutes.laidOut (by kernel_rfl) (of_decide_eq_true (by kernel_rfl)) k0 uM lt0) (trodAll_cons_mk (Below.trod NodeRoutes.laidOut (by kernel_rfl) (of_decide_eq_true (by kernel_rfl)) k1 uM lt1) (trodAll_cons_mk (Below.trod NodeRoutes.laidOut (by kernel_rfl) (of_decide_eq_true (by kernel_rfl)) k2 uM lt2) trodAll_mk0))),rfl,uM.frame _,λh=>by cases h⟩
theorem oT:Rows.NodeRoutesSaid:=
 OpenClaim.holds_of_wide 3 Tryz.f3 rfl rfl rfl rfl rfl rfl rfl ⟨rfl,rfl,rfl,rfl,rfl⟩ rfl rfl rfl rfl rfl (by kernel_rfl) Tryz.func3 NodeRoutes.closed
  (of_decide_eq_true (by kernel_rfl)) (by unfold Func.isWrapper;first|(rw[if_pos (by decide +kernel)];kernel_rfl)|(rw[if_neg (by decide +kernel)];exact⟨rfl,rfl⟩))
  (λos started H enc _=>NodeRoutes.lifted os started H enc)
theorem nodeRoutes_card:Rows.NodeRoutesCardSaid:=
 Claim7.holds_tied_plain_at .later [] _ _ _ _ oT (λ_ h=>by cases h) (by kernel_rfl) (λ_ h=>by cases h) nodeRoutes_row_tie rfl ⟨rfl,rfl⟩ (by kernel_rfl) rfl
  (λf fn hf hfn=>by
   obtain rfl : f = 3 := Option.some.inj ((show Tryz.prog.funcNamed "hearsay/hearsaylaw.NodeRoutes" = some 3 by kernel_rfl).symm.trans hf) |>.symm;obtain rfl:fn=Tryz.f3:=(Option.some.inj (Tryz.func3.symm.trans hfn)).symm;exact⟨by kernel_rfl,λj t ht=>by
    rw[Tryz.params3] at ht;have hm:t∈[30,32,3]:=by simpa using Array.mem_of_getElem? ht
    have cX:([30,32,3].all λu => !Tryz.prog.wantsStandIn u)=true:=by kernel_rfl
    exact(show Tryz.prog.wantsStandIn t=false by simpa using List.all_eq_true.1 cX t hm)⟩)
  NodeRoutes.c14
end Go.Proofs.YtfidjlcdlakceaaGreatDoor
