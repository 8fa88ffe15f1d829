/- Proved: whatever service and number it is handed, TopFound returns true, that is: what one node registered is answered by another one that heard of it, in the same centre: by its name, the address that was registered (the whole); for every input that the row can read, no condition of ours; the row lists variables of the library (unicode/utf8), and the card ties what they hold to the program's text. -/
import Derived.Test.YtfidjlcdlakceaaGreatDoorCards
import Derived.Test.YtfidjlcdlakceaaGreatDoorTie
import Derived.Test.YtfidjlcdlakceaaGreatDoortf44
import Derived.Test.YtfidjlcdlakceaaGreatDoortf45
import Derived.Test.YtfidjlcdlakceaaGreatDoortf50
import Derived.LaidMore
import Derived.Lay
open Go.Proofs.Tryz renaming prog→be
namespace Go.Proofs.YtfidjlcdlakceaaGreatDoor
open Go.ChangeMaps (open_string shut_string)
open Go.ChangeShapes Go.WideShapes Go.ChangeAt Go.RowKit
theorem TopFound.own:ownKnob Tryz.prog.godebug=none:=by kernel_rfl
theorem TopFound.laidOut:laidOutB be=true:=by kernel_rfl
set_option maxRecDepth 100000 in
theorem TopFound.lifted(os:Os)(started:os.Started)(H:Type)(enc:TypeId×Value->H) :
 ReturnsInHanded {} Tryz.checked os 4 .any (λw args=>(Rows.topFoundSpec.pre enc be Tryz.f4 Rows.topFoundRow.domain false w args/\laidMetH be Rows.topFoundRow.laid w)/\sizedMet enc be Tryz.f4 (OpenSpec.ofChange Rows.topFoundSpec) false w args)
  (Rows.topFoundSpec.post enc be Tryz.f4 false true false false):=by
 refine oP (C:=Tryz.checked) (X:=λw _=>laidMetH be Rows.topFoundRow.laid w) TopFound.own started (by kernel_rfl) Tryz.func4
  (ChangeSpec.witness_shaped (enc:=enc) (C:=Tryz.checked) (os:=os) (X:=λw _=>laidMetH be Rows.topFoundRow.laid w) false (World.laidAll be os Rows.topFoundRow.laid) #[.agg #[.string ⟨#[]⟩,.string ⟨#[]⟩,.string ⟨#[]⟩,.string ⟨#[]⟩,.int .i64 0,.int .i64 0,.bool false,.int .i64 0,.bool false],.int .i64 0] 8 (World.laidAll_os _ _ _)
    (World.shaped_of_ZipB (by kernel_rfl) (by kernel_rfl)) (by kernel_rfl) (by kernel_rfl) (by kernel_rfl)
    (by rw[MakeChecks.laidMetH_plain _ _ _ (by kernel_rfl)];exact laidMet_laidAll _ (by kernel_rfl) (by kernel_rfl))) ?_
 intro W base args ds gs before tm Wd hW;have Mm:∀(j:Nat) t v,Tryz.f4.params[j]?=some t->args[j]?=some v->Value.okWide be W .any base t v:=Wd;have hW':=hW;obtain⟨p,q,hA0,hV,rfl,_,_⟩:=hW;have hA:DataW.TrodAll enc be W 0 (λ_=>true) true Tryz.f4.params.toList args.toList ds p:=hA0;rw[Tryz.params4] at hA Mm;obtain⟨v0,vs0,d0,ds0,p0,q0,ajI,rfl,rfl,h0,r0⟩:=trodAll_cons hA;obtain⟨v1,vs1,d1,ds1,p1,q1,rfl,rfl,rfl,h1,r1⟩:=trodAll_cons r0;obtain⟨rfl,rfl,rfl⟩:=trodAll_nil r1;obtain rfl:args=#[v0,v1]:=by cases args;simp_all
 obtain⟨rfl,rfl⟩:=trodVars_none hV;have k0:=h0;have lt0:∀x∈p0,x.block<W.heap.size:=by obtain⟨m,hm⟩:=k0;exact DataW.trod_lt m _ _ _ hm
 obtain⟨l0,e0,u0⟩:=Mn (Mm 0 52 v0 rfl rfl) h0;subst e0;have k1:=h1;have lt1:∀x∈p1,x.block<W.heap.size:=by obtain⟨m,hm⟩:=k1;exact DataW.trod_lt m _ _ _ hm
 obtain⟨l1,rfl,rfl,rfl,u1⟩:=open_int Tryz.underlying3 (Mm 1 3 v1 rfl rfl) h1;clear hA0 Wd;refine(wi l0 l1 W (aco tm) u0 (bounds_i64 u1)).mono λe W' ⟨he,yd⟩=>?_;subst he;exact⟨_,rfl,_,_,_,[],_,[],hW',trodAll_mk1 (shut_bool Tryz.underlying4 _),(trodAll_cons_mk (Below.trod TopFound.laidOut (by kernel_rfl) (of_decide_eq_true (by kernel_rfl)) k0 yd lt0) (trodAll_cons_mk (Below.trod TopFound.laidOut (by kernel_rfl) (of_decide_eq_true (by kernel_rfl)) k1 yd lt1) trodAll_mk0)),rfl,yd.frame _,λh=>by cases h⟩
theorem tn:Rows.TopFoundSaid:=
 OpenClaim.holds_of_wide 4 Tryz.f4 rfl rfl rfl rfl rfl rfl rfl ⟨rfl,rfl,rfl,rfl,rfl⟩ rfl rfl rfl rfl rfl (by kernel_rfl) Tryz.func4 TopFound.closed
  (of_decide_eq_true (by kernel_rfl)) (by unfold Func.isWrapper;first|(rw[if_pos (by decide +kernel)];kernel_rfl)|(rw[if_neg (by decide +kernel)];exact⟨rfl,rfl⟩))
  (λos started H enc _=>TopFound.lifted os started H enc)
theorem topFound_card:Rows.TopFoundCardSaid:=
 Claim7.holds_tied_plain_at .later [] _ _ _ _ tn (λ_ h=>by cases h) (by kernel_rfl) (λ_ h=>by cases h) topFound_row_tie rfl ⟨rfl,rfl⟩ (by kernel_rfl) rfl
  (λf fn hf hfn=>by
   obtain rfl : f = 4 := Option.some.inj ((show Tryz.prog.funcNamed "hearsay/hearsaylaw.TopFound" = some 4 by kernel_rfl).symm.trans hf) |>.symm;obtain rfl:fn=Tryz.f4:=(Option.some.inj (Tryz.func4.symm.trans hfn)).symm;exact⟨by kernel_rfl,λj t ht=>by
    rw[Tryz.params4] at ht;have hm:t∈[52,3]:=by simpa using Array.mem_of_getElem? ht
    have iC:([52,3].all λu => !Tryz.prog.wantsStandIn u)=true:=by kernel_rfl
    exact(show Tryz.prog.wantsStandIn t=false by simpa using List.all_eq_true.1 iC t hm)⟩)
  TopFound.c14
end Go.Proofs.YtfidjlcdlakceaaGreatDoor
