import Derived.Test.YtfidhgjmifendaaGreatDoorng9
set_option maxHeartbeats 1600000
open Option renaming none→be,some→AI
open Go.Value renaming slice→J,tuple→Im,int→U,string→Y,bool→Ia
open Go.IntKind renaming i64→O
open Nat renaming le_refl→Ic
namespace Go.Proofs.YtfidhgjmifendaaGreatDoor
namespace Sv
open Go.RowKit
theorem jP(a b:List aW)(va vb:Value)(pb cap:Nat)(w:World)(ha:Sl w va a)(hb:Sl w vb b)(hpb:pb<w.heap.size)(hc0:w.cell? ⟨pb,0,be⟩=AI va)(hc1:w.cell? ⟨pb,1,be⟩=AI vb) :
 Calls Tryz.prog 109 #[J (AI ⟨pb,0,be⟩) 2 cap] w λe w'=>∃v',e=.returned (Im #[v',U O (aE a b)])/\Below w.heap.size w w' /\
  (aE a b≠0->v'=J be 0 0)/\(aE a b=0->Own w.heap.size w' v' (av a b)):=by
 by_cases h0:aO a b=0
 .refine(kN a b va vb pb cap w ha hb hpb hc0 hc1 h0).mono ?_
  rintro e w' ⟨v',rfl,h1,h2,h3⟩;have hE:aE a b=if 40<(av a b).length then 2 else 0:=if_pos h0;refine⟨v',rfl,h1,λaT=>h2 ?_,λhz=>h3 ?_⟩
  .rw[hE] at aT;split at aT
   .assumption
   .exact absurd rfl aT
  .rw[hE] at hz;split at hz
   .cases hz
   .omega
 .refine(mI a b va vb pb cap w ha hb hpb hc0 hc1 h0).mono ?_
  rintro e w' ⟨rfl,h1⟩;have hE:aE a b=aO a b:=if_neg h0;exact⟨_,rfl,h1,λ_=>rfl,λhz=>absurd (hE▸hz) h0⟩
theorem qt(a b:List aW)(va vb:Value)(w:World)(ha:Sl w va a)(hb:Sl w vb b) :
 Calls Tryz.prog 64 #[va,vb] w λe w'=>∃v',e=.returned (Im #[v',U O (aE a b)])/\Below w.heap.size w w' /\
  (aE a b≠0->v'=J be 0 0)/\(aE a b=0->Own w.heap.size w' v' (av a b)):=by
 have HA:=ha;have HB:=hb;obtain⟨pa,ca,rfl,_,_⟩:=ha;obtain⟨pv,cb,rfl,_,_⟩:=hb;have bM:Below w.heap.size w (w.alloc (.cells #[J pa a.length ca,J pv b.length cb] 36)):=(Below.refl _ _).alloc (Ic _) _;have Gn:Hid (Sl _ _ _):=HA.below bM;have Gp:Hid (Sl _ _ _):=HB.below bM;clear HA HB;generalize a.length=na at *;generalize b.length=nb at *;go_enter Tryz.func64,Tryz.ntmps64;go_wp2_with fail;refine(jP a b (J pa na ca) (J pv nb cb) w.heap.size 2 _ Gn.out Gp.out (by simp) (ae (heap_alloc_new w _) 0) (ae (heap_alloc_new w _) 1)).mono ?_;rintro e w2 ⟨v',rfl,h1,h2,h3⟩;have H2:Hid _:=h2;have H3:Hid _:=h3;clear h2 h3;go_wp2_with fail;go_ret2;exact⟨v',rfl,bM.trans (h1.mono (by simp)),H2.out,λh=>(H3.out h).mono (by simp)⟩
theorem oj{a b:List aW}(h:bj a≠0):aE a b=bj a:=by
 have:aO a b=bj a:=if_neg h
 rw[aE,this,if_neg h]
theorem lJ{a b:List aW}(h:bj a=0)(h2:bj b≠0):aE a b=bj b:=by
 have:aO a b=bj b:=if_pos h
 rw[aE,this,if_neg h2]
theorem il{a b:List aW}(h:bj a=0)(h2:bj b=0):aE a b=if 40<(av a b).length then 2 else 0:=by
 have:aO a b=0:=(if_pos h).trans h2
 rw[aE,if_pos this]
section
open Go.ChangeShapes Go.WideShapes Go.ChangeAt
variable {H:Type} {enc:TypeId × Value→H} {w:World} {base:Nat} {spare:Nat→Bool} {held:Bool}
end
end Sv
namespace Sv
open Go.RowKit
def ev(ms:List aW)(p:Nat)(f:Bool):aW:=if f=true then ms.getD p dm else dm
theorem nq(ms:List aW)(v:Value)(node bq:ByteArray)(w:World)(h:Sl w v ms)(hn:ms.length<=40)(hr:bl ms) :
 aF 239 #[v,Y node,Y bq] w λe w'=>∃(p:Nat) (f:Bool),e=.returned (Im #[.agg #[Y (ev ms p f).node,Y (ev ms p f).bq,Y (ev ms p f).name,Y (ev ms p f).tag,U O (ev ms p f).addr,U O (ev ms p f).port,Ia (ev ms p f).aj,U O (ev ms p f).version,Ia (ev ms p f).gone],Ia f])/\Below w.heap.size w w'/\At ms ⟨node,bq,⟨#[]⟩,⟨#[]⟩,0,0,false,0,false⟩ p f:=by
 obtain⟨W0,bA,bM,eE,dF⟩:=bV w #[Y ⟨#[]⟩,Y ⟨#[]⟩,Y ⟨#[]⟩,Y ⟨#[]⟩,U O 0,U O 0,Ia false,U O 0,Ia false] 46;have HV:Hid (Sl W0 v ms):=h.below bM;have HF:Hid (aF 213 #[v,.agg #[Y node,Y bq,Y ⟨#[]⟩,Y ⟨#[]⟩,U O 0,U O 0,Ia false,U O 0,Ia false],.func (.func 157) #[] #[]] W0 λe w'=>∃(p:Nat) (f:Bool),e=.returned (Im #[U O p,Ia f])/\Below W0.heap.size W0 w'/\At ms ⟨node,bq,⟨#[]⟩,⟨#[]⟩,0,0,false,0,false⟩ p f):=
  fm ms v ⟨node,bq,⟨#[]⟩,⟨#[]⟩,0,0,false,0,false⟩ W0 HV.out (by omega) hr
 have sI:Hid _:=bA;clear bA h hr;go_enter Tryz.func239,Tryz.ntmps239;go_wp2_with fail;rw[<- sI.out];refine HF.out.mono ?_;rintro e w1 ⟨p,f,rfl,aB,cH⟩;have fb:Hid _:=cH;have VG:Hid (Sl w1 v ms):=HV.out.below aB;have fh:=aB.size;have aY:Hid _:=bM.trans (aB.mono (by omega));have cI:=(aB.block w.heap.size (by omega)).trans dF;have t0:w1.cell? ⟨w.heap.size,0,be⟩=AI (Y ⟨#[]⟩):=ae cI 0;have t1:w1.cell? ⟨w.heap.size,1,be⟩=AI (Y ⟨#[]⟩):=ae cI 1;have t2:w1.cell? ⟨w.heap.size,2,be⟩=AI (Y ⟨#[]⟩):=ae cI 2;have t3:w1.cell? ⟨w.heap.size,3,be⟩=AI (Y ⟨#[]⟩):=ae cI 3;have t4:w1.cell? ⟨w.heap.size,4,be⟩=AI (U O 0):=ae cI 4;have t5:w1.cell? ⟨w.heap.size,5,be⟩=AI (U O 0):=ae cI 5;have t6:w1.cell? ⟨w.heap.size,6,be⟩=AI (Ia false):=ae cI 6;have t7:w1.cell? ⟨w.heap.size,7,be⟩=AI (U O 0):=ae cI 7;have t8:w1.cell? ⟨w.heap.size,8,be⟩=AI (Ia false):=ae cI 8;have qT:∀o,w1.frozen? ⟨w.heap.size,o,be⟩=false:=λo=>by simp[World.frozen?,cI]
 have aR:w.heap.size<w1.heap.size:=by omega
 clear cH HF HV dF cI bM aB sI eE fh;cases f
 .go_wp2_with fail
  exact bodyPost_ret (v:=Im #[.agg #[Y ⟨#[]⟩,Y ⟨#[]⟩,Y ⟨#[]⟩,Y ⟨#[]⟩,U O 0,U O 0,Ia false,U O 0,Ia false],Ia false]) (by simp[results,Tryz.results239,go_sem,t0,t1,t2,t3,t4,t5,t6,t7,t8]) rfl ⟨p,false,rfl,(((((((((aY.out.setCell (p:=⟨w.heap.size,0,be⟩) (Ic _) _).setCell (p:=⟨w.heap.size,1,be⟩) (Ic _) _).setCell (p:=⟨w.heap.size,2,be⟩) (Ic _) _).setCell (p:=⟨w.heap.size,3,be⟩) (Ic _) _).setCell (p:=⟨w.heap.size,4,be⟩) (Ic _) _).setCell (p:=⟨w.heap.size,5,be⟩) (Ic _) _).setCell (p:=⟨w.heap.size,6,be⟩) (Ic _) _).setCell (p:=⟨w.heap.size,7,be⟩) (Ic _) _).setCell (p:=⟨w.heap.size,8,be⟩) (Ic _) _),fb.out⟩
 .have hp:=(fb.out.is.1 rfl).1
  obtain⟨a,cap,rfl,_,VH⟩:=VG.out;obtain⟨b,off,D0,nz,cO⟩:∃b off,a=AI ⟨b,off,be⟩/\b<w1.heap.size/\Row w1 b off ms:=by
   rcases VH with h|h
   .rw[h] at hp;simp at hp
   .exact h
  subst D0;obtain⟨c0,c1,c2,c3,c4,c5,c6,c7,c8⟩:=cO p hp;clear cO VH VG;generalize hm:ms.getD p dm=m at *;have HM:Hid (ev ms p true=m):=by show ev ms p true=m;rw[ev,if_pos rfl,hm]
  clear hm;go_wp2_with fail;exact bodyPost_ret (v:=Im #[.agg #[Y m.node,Y m.bq,Y m.name,Y m.tag,U O m.addr,U O m.port,Ia m.aj,U O m.version,Ia m.gone],Ia true]) (by simp[results,Tryz.results239,go_sem,t0,t1,t2,t3,t4,t5,t6,t7,t8]) rfl ⟨p,true,by rw[HM.out],(((((((((aY.out.setCell (p:=⟨w.heap.size,0,be⟩) (Ic _) _).setCell (p:=⟨w.heap.size,1,be⟩) (Ic _) _).setCell (p:=⟨w.heap.size,2,be⟩) (Ic _) _).setCell (p:=⟨w.heap.size,3,be⟩) (Ic _) _).setCell (p:=⟨w.heap.size,4,be⟩) (Ic _) _).setCell (p:=⟨w.heap.size,5,be⟩) (Ic _) _).setCell (p:=⟨w.heap.size,6,be⟩) (Ic _) _).setCell (p:=⟨w.heap.size,7,be⟩) (Ic _) _).setCell (p:=⟨w.heap.size,8,be⟩) (Ic _) _),fb.out⟩
end Sv
namespace Sv
open Go.RowKit
theorem jQ{a b:List aW}(h:aE a b=0):bj a=0/\bj b=0/\(av a b).length<=40:=by
 by_cases ha:bj a=0
 .by_cases hb:bj b=0
  .rw[il ha hb] at h
   refine⟨ha,hb,?_⟩;split at h
   .cases h
   .omega
  .rw[lJ ha hb] at h;exact absurd h hb
 .rw[oj ha] at h;exact absurd h ha
theorem mJ{a b:List aW}(h:aE a b=0):bj (av a b)=0:=by
 obtain⟨ha,hb,hl⟩:=jQ h;have za:=af ha;have zb:=af hb;exact jR hl (dD b a za.2.1) λm hm=>by
  rcases eB b a m hm with h|h
  .exact bb a za.2.2 m h
  .exact bb b zb.2.2 m h
theorem VI{w:World}{v:Value}{ms:List aW}(h:Sl w v ms):∀m∈ms,(m).ok:=by obtain⟨_,_,_,h,_⟩:=h;exact dt h
end Sv
namespace Sv
open Go.RowKit
end Sv
end Go.Proofs.YtfidhgjmifendaaGreatDoor
