/- Proved: whatever node and whatever text it is handed, NodeAsks returns true, that is: Ask of package node answers just what the document says, errors too (J7); for every input that the row can read, no condition of ours; the row lists variables of the library (unicode/utf8), and the card ties what they hold to the program's text. -/
import Derived.Test.YtipbebleapjcjaaGreatDoorCards
import Derived.Test.YtipbebleapjcjaaGreatDoorTie
import Derived.Test.YtipbebleapjcjaaGreatDoornc22
import Derived.Test.YtipbebleapjcjaaGreatDoornc5
import Derived.Test.YtipbebleapjcjaaGreatDoornc10
import Derived.LaidMore
import Derived.Lay
open Go.Proofs.Tryz renaming prog->AT
namespace Go.Proofs.YtipbebleapjcjaaGreatDoor
open Go.ChangeMaps (open_string shut_string)
open Go.ChangeShapes Go.WideShapes Go.ChangeAt Go.RowKit
theorem NodeAsks.own:ownKnob Tryz.prog.godebug=none:=by kernel_rfl
theorem NodeAsks.laidOut:laidOutB AT=true:=by kernel_rfl
set_option maxRecDepth 100000 in
theorem NodeAsks.lifted(os:Os)(started:os.Started)(H:Type)(enc:TypeId×Value->H) :
 ReturnsInHanded {} Tryz.checked os 3 .any (λw args=>(Rows.nodeAsksSpec.pre enc AT Tryz.f3 Rows.nodeAsksRow.domain false w args/\laidMetH AT Rows.nodeAsksRow.laid w)/\sizedMet enc AT Tryz.f3 (OpenSpec.ofChange Rows.nodeAsksSpec) false w args)
  (Rows.nodeAsksSpec.post enc AT Tryz.f3 false true false false):=by
 refine Bm (C:=Tryz.checked) (X:=λw _=>laidMetH AT Rows.nodeAsksRow.laid w) NodeAsks.own started (by kernel_rfl) Tryz.func3
  (ChangeSpec.witness_shaped (enc:=enc) (C:=Tryz.checked) (os:=os) (X:=λw _=>laidMetH AT Rows.nodeAsksRow.laid w) false (World.laidAll AT os Rows.nodeAsksRow.laid) #[.agg #[.string ⟨#[]⟩,.string ⟨#[]⟩,.slice none 0 0,.slice none 0 0,.slice none 0 0,.slice none 0 0,.int .i64 0,.int .i64 0,.int .i64 0,.int .i64 0,.int .i64 0,.slice none 0 0],.string ⟨#[]⟩] 8 (World.laidAll_os _ _ _)
    (World.shaped_of_ZipB (by kernel_rfl) (by kernel_rfl)) (by kernel_rfl) (by kernel_rfl) (by kernel_rfl)
    (by rw[MakeChecks.laidMetH_plain _ _ _ (by kernel_rfl)];exact laidMet_laidAll _ (by kernel_rfl) (by kernel_rfl))) ?_
 intro W base args ds gs before EJ aiF hW;have ab8:∀(j:Nat) t v,Tryz.f3.params[j]?=some t->args[j]?=some v->Value.okWide AT W .any base t v:=aiF;have hW':=hW;obtain⟨p,q,hA0,hV,rfl,_,_⟩:=hW;have hA:DataW.TrodAll enc AT W 0 (λ_=>true) true Tryz.f3.params.toList args.toList ds p:=hA0;rw[Tryz.params3] at hA ab8;obtain⟨v0,vs0,d0,ds0,p0,q0,axO,rfl,rfl,h0,r0⟩:=trodAll_cons hA;obtain⟨v1,vs1,d1,ds1,p1,q1,rfl,rfl,rfl,h1,r1⟩:=trodAll_cons r0;obtain⟨rfl,rfl,rfl⟩:=trodAll_nil r1;obtain rfl:args=#[v0,v1]:=by cases args;simp_all
 obtain⟨rfl,rfl⟩:=trodVars_none hV;have k0:=h0;have lt0:∀x∈p0,x.block<W.heap.size:=by obtain⟨m,hm⟩:=k0;exact DataW.trod_lt m _ _ _ hm
 obtain⟨l0,vm0,vr0,aBw,vg0,vw0,e0,w0⟩:=WY (ab8 0 30 v0 rfl rfl) h0;subst e0;have k1:=h1;have lt1:∀x∈p1,x.block<W.heap.size:=by obtain⟨m,hm⟩:=k1;exact DataW.trod_lt m _ _ _ hm
 obtain⟨l1,rfl,rfl,rfl,u1⟩:=open_string Tryz.underlying9 (ab8 1 9 v1 rfl rfl) h1;clear hA0 aiF;refine(GI l0 _ _ _ _ _ l1 W (anT EJ) w0).mono λe W' ⟨he,Mo⟩=>?_;subst he;exact⟨_,rfl,_,_,_,[],_,[],hW',trodAll_mk1 (shut_bool Tryz.underlying4 _),(trodAll_cons_mk (Below.trod NodeAsks.laidOut (by kernel_rfl) (of_decide_eq_true (by kernel_rfl)) k0 Mo lt0) (trodAll_cons_mk (Below.trod NodeAsks.laidOut (by kernel_rfl) (of_decide_eq_true (by kernel_rfl)) k1 Mo lt1) trodAll_mk0)),rfl,Mo.frame _,λh=>by cases h⟩
theorem EK:Rows.NodeAsksSaid:=
 OpenClaim.holds_of_wide 3 Tryz.f3 rfl rfl rfl rfl rfl rfl rfl ⟨rfl,rfl,rfl,rfl,rfl⟩ rfl rfl rfl rfl rfl (by kernel_rfl) Tryz.func3 NodeAsks.closed
  (of_decide_eq_true (by kernel_rfl)) (by unfold Func.isWrapper;first|(rw[if_pos (by decide +kernel)];kernel_rfl)|(rw[if_neg (by decide +kernel)];exact⟨rfl,rfl⟩))
  (λos started H enc _=>NodeAsks.lifted os started H enc)
theorem nodeAsks_card:Rows.NodeAsksCardSaid:=
 Claim7.holds_tied_plain_at .later [] _ _ _ _ EK (λ_ h=>by cases h) (by kernel_rfl) (λ_ h=>by cases h) nodeAsks_row_tie rfl ⟨rfl,rfl⟩ (by kernel_rfl) rfl
  (λf fn hf hfn=>by
   obtain rfl : f = 3 := Option.some.inj ((show Tryz.prog.funcNamed "hearsay/hearsaylaw.NodeAsks" = some 3 by kernel_rfl).symm.trans hf) |>.symm;obtain rfl:fn=Tryz.f3:=(Option.some.inj (Tryz.func3.symm.trans hfn)).symm;exact⟨by kernel_rfl,λj t ht=>by
    rw[Tryz.params3] at ht;have hm:t∈[30,9]:=by simpa using Array.mem_of_getElem? ht
    have qe:([30,9].all λu => !Tryz.prog.wantsStandIn u)=true:=by kernel_rfl
    exact(show Tryz.prog.wantsStandIn t=false by simpa using List.all_eq_true.1 qe t hm)⟩)
  NodeAsks.c14
end Go.Proofs.YtipbebleapjcjaaGreatDoor
