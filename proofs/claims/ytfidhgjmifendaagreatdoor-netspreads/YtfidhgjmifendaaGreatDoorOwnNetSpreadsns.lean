/- Proved: whatever four numbers and whatever list of events it is handed, NetSpreads returns true, that is: behind the first forty events what one node tells by rumors is known to the node that hears them, and no older there (K4); for every input that the row can read, no condition of ours; the row lists variables of the library (strconv, math/bits), and the card ties what they hold to the program's text. -/
import Derived.Test.YtfidhgjmifendaaGreatDoorCards
import Derived.Test.YtfidhgjmifendaaGreatDoorTie
import Derived.Test.YtfidhgjmifendaaGreatDoorns50
import Derived.Test.YtfidhgjmifendaaGreatDoorns31
import Derived.Test.YtfidhgjmifendaaGreatDoorns36
import Derived.Lay
open Go.Proofs.Tryz renaming prog→AS,underlying3→ID
open Go renaming trodAll_cons_mk→Q5
namespace Go.Proofs.YtfidhgjmifendaaGreatDoor
open Go.ChangeMaps (open_string shut_string)
open Go.ChangeShapes Go.WideShapes Go.ChangeAt Go.RowKit
theorem NetSpreads.own:ownKnob Tryz.prog.godebug=none:=by kernel_rfl
theorem NetSpreads.laidOut:laidOutB AS=true:=by kernel_rfl
set_option maxRecDepth 100000 in
theorem NetSpreads.lifted(os:Os)(started:os.Started)(H:Type)(enc:TypeId×Value->H) :
 ReturnsInHanded {} Tryz.checked os 5 .any (λw args=>(Rows.netSpreadsSpec.pre enc AS Tryz.f5 Rows.netSpreadsRow.domain false w args/\laidMetH AS Rows.netSpreadsRow.laid w)/\sizedMet enc AS Tryz.f5 (OpenSpec.ofChange Rows.netSpreadsSpec) false w args)
  (Rows.netSpreadsSpec.post enc AS Tryz.f5 false true false false):=by
 refine returnsInHanded_of_change_and (C:=Tryz.checked) (X:=λw _=>laidMetH AS Rows.netSpreadsRow.laid w) (λ_ _ _ hh h=>h.of_heap hh) NetSpreads.own started (by kernel_rfl) Tryz.func5
  (ChangeSpec.witness_shaped (enc:=enc) (C:=Tryz.checked) (os:=os) (X:=λw _=>laidMetH AS Rows.netSpreadsRow.laid w) false (World.laidAll AS os Rows.netSpreadsRow.laid) #[.int .i64 0,.int .i64 0,.slice none 0 0,.int .i64 0,.int .i64 0] 8 (World.laidAll_os _ _ _)
    (World.shaped_of_ZipB (by kernel_rfl) (by kernel_rfl)) (by kernel_rfl) (by kernel_rfl) (by kernel_rfl)
    (by rw[MakeChecks.laidMetH_plain _ _ _ (by kernel_rfl)];exact laidMet_laidAll _ (by kernel_rfl) (by kernel_rfl))) ?_
 intro W base args ds gs before PE hW _ cI hL _;have D3:∀(j:Nat) t v,Tryz.f5.params[j]?=some t->args[j]?=some v->Value.okWide AS W .any base t v:=PE;have hW':=hW;obtain⟨p,q,hA0,hV,rfl,_,_⟩:=hW;have hA:DataW.TrodAll enc AS W 0 (λ_=>true) true Tryz.f5.params.toList args.toList ds p:=hA0;rw[Tryz.params5] at hA D3;obtain⟨v0,vs0,d0,ds0,p0,q0,agX,rfl,rfl,h0,r0⟩:=trodAll_cons hA;obtain⟨v1,vs1,d1,ds1,p1,q1,rfl,rfl,rfl,h1,r1⟩:=trodAll_cons r0;obtain⟨v2,vs2,d2,ds2,p2,q2,rfl,rfl,rfl,h2,r2⟩:=trodAll_cons r1;obtain⟨v3,vs3,d3,ds3,p3,q3,rfl,rfl,rfl,h3,r3⟩:=trodAll_cons r2;obtain⟨v4,vs4,d4,ds4,p4,q4,rfl,rfl,rfl,h4,r4⟩:=trodAll_cons r3;obtain⟨rfl,rfl,rfl⟩:=trodAll_nil r4;obtain rfl:args=#[v0,v1,v2,v3,v4]:=by cases args;simp_all
 obtain⟨rfl,rfl⟩:=trodVars_none hV;have k0:=h0;have lt0:∀x∈p0,x.block<W.heap.size:=by obtain⟨m,hm⟩:=k0;exact DataW.trod_lt m _ _ _ hm
 obtain⟨l0,rfl,rfl,rfl,u0⟩:=open_int ID (D3 0 3 v0 rfl rfl) h0;have k1:=h1;have lt1:∀x∈p1,x.block<W.heap.size:=by obtain⟨m,hm⟩:=k1;exact DataW.trod_lt m _ _ _ hm
 obtain⟨l1,rfl,rfl,rfl,u1⟩:=open_int ID (D3 1 3 v1 rfl rfl) h1;have k2:=h2;have lt2:∀x∈p2,x.block<W.heap.size:=by obtain⟨m,hm⟩:=k2;exact DataW.trod_lt m _ _ _ hm
 obtain⟨l2,q2,g2,e2,w2,u2⟩:=yT (D3 2 22 v2 rfl rfl) h2;subst e2;have k3:=h3;have lt3:∀x∈p3,x.block<W.heap.size:=by obtain⟨m,hm⟩:=k3;exact DataW.trod_lt m _ _ _ hm
 obtain⟨l3,rfl,rfl,rfl,u3⟩:=open_int ID (D3 3 3 v3 rfl rfl) h3;have k4:=h4;have lt4:∀x∈p4,x.block<W.heap.size:=by obtain⟨m,hm⟩:=k4;exact DataW.trod_lt m _ _ _ hm
 obtain⟨l4,rfl,rfl,rfl,u4⟩:=open_int ID (D3 4 3 v4 rfl rfl) h4;clear hA0 PE;refine(sf l0 l1 l2 q2 g2 l3 l4 W (VI hL) (bounds_i64 u0) (bounds_i64 u1) w2 u2 (bounds_i64 u3) (bounds_i64 u4)).mono λe W' ⟨he,jH⟩=>?_;subst he;exact⟨_,rfl,_,_,_,[],_,[],hW',trodAll_mk1 (shut_bool Tryz.underlying4 _),(Q5 (Below.trod NetSpreads.laidOut (by kernel_rfl) (of_decide_eq_true (by kernel_rfl)) k0 jH lt0) (Q5 (Below.trod NetSpreads.laidOut (by kernel_rfl) (of_decide_eq_true (by kernel_rfl)) k1 jH lt1) (Q5 (Below.trod NetSpreads.laidOut (by kernel_rfl) (of_decide_eq_true (by kernel_rfl)) k2 jH lt2) (Q5 (Below.trod NetSpreads.laidOut (by kernel_rfl) (of_decide_eq_true (by kernel_rfl)) k3 jH lt3) (Q5 (Below.trod NetSpreads.laidOut (by kernel_rfl) (of_decide_eq_true (by kernel_rfl)) k4 jH lt4) trodAll_mk0))))),rfl,jH.frame _,λh=>by cases h⟩
theorem qP:Rows.NetSpreadsSaid:=
 OpenClaim.holds_of_wide 5 Tryz.f5 rfl rfl rfl rfl rfl rfl rfl ⟨rfl,rfl,rfl,rfl,rfl⟩ rfl rfl rfl rfl rfl (by kernel_rfl) Tryz.func5 NetSpreads.closed
  (of_decide_eq_true (by kernel_rfl)) (by unfold Func.isWrapper;first|(rw[if_pos (by decide +kernel)];kernel_rfl)|(rw[if_neg (by decide +kernel)];exact⟨rfl,rfl⟩))
  (λos started H enc _=>NetSpreads.lifted os started H enc)
theorem netSpreads_card:Rows.NetSpreadsCardSaid:=
 Claim7.holds_tied_plain_at .later [] _ _ _ _ qP (λ_ h=>by cases h) (by kernel_rfl) (λ_ h=>by cases h) netSpreads_row_tie rfl ⟨rfl,rfl⟩ (by kernel_rfl) rfl
  (λf fn hf hfn=>by
   obtain rfl : f = 5 := Option.some.inj ((show Tryz.prog.funcNamed "hearsay/hearsaylaw.NetSpreads" = some 5 by kernel_rfl).symm.trans hf) |>.symm;obtain rfl:fn=Tryz.f5:=(Option.some.inj (Tryz.func5.symm.trans hfn)).symm;exact⟨by kernel_rfl,λj t ht=>by
    rw[Tryz.params5] at ht;have hm:t∈[3,3,22,3,3]:=by simpa using Array.mem_of_getElem? ht
    have kK:([3,3,22,3,3].all λu => !Tryz.prog.wantsStandIn u)=true:=by kernel_rfl
    exact(show Tryz.prog.wantsStandIn t=false by simpa using List.all_eq_true.1 kK t hm)⟩)
  NetSpreads.c14
end Go.Proofs.YtfidhgjmifendaaGreatDoor
