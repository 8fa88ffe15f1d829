import Derived.Test.YtfidjlcdlakceaaGreatDoortf13
import Derived.Lib.SmallJoins
set_option maxHeartbeats 6400000
set_option maxRecDepth 100000
open Option renaming none→Y,some→Z
open Go.Value renaming slice→U,tuple→Il,int→O,string→I,agg→Im,bool→AI
open Go.Ending renaming returned→sh
open Go.IntKind renaming i64→J
open Go.Proofs.Tryz renaming prog→be
open Go.Obj renaming cells→AT
open Nat renaming le_refl→By
open List renaming take_succ_eq_append_getElem→Iw,filter_append→JP
namespace Go.Proofs.YtfidjlcdlakceaaGreatDoor
namespace Sv
open Go.RowKit
theorem ko(a b:List aI)(va vb:Value)(pb cap:Nat)(w:World)(ha:Sl w va a)(hb:Sl w vb b)(hpb:pb<w.heap.size)(hc0:w.cell? ⟨pb,0,Y⟩=Z va)(hc1:w.cell? ⟨pb,1,Y⟩=Z vb) :
 Calls be 147 #[U (Z ⟨pb,0,Y⟩) 2 cap] w λe w'=>∃v',e=sh (Il #[v',O J (aA a b)])/\Below w.heap.size w w' /\
  (aA a b≠0->v'=U Y 0 0)/\(aA a b=0->Own w.heap.size w' v' (ay a b)):=by
 by_cases h0:aJ a b=0
 .refine(kj a b va vb pb cap w ha hb hpb hc0 hc1 h0).mono ?_
  rintro e w' ⟨v',rfl,h1,h2,h3⟩;have hE:aA a b=if 40<(ay a b).length then 2 else 0:=if_pos h0;refine⟨v',rfl,h1,λbu=>h2 ?_,λhz=>h3 ?_⟩
  .rw[hE] at bu;split at bu
   .assumption
   .exact absurd rfl bu
  .rw[hE] at hz;split at hz
   .cases hz
   .omega
 .refine(mh a b va vb pb cap w ha hb hpb hc0 hc1 h0).mono ?_
  rintro e w' ⟨rfl,h1⟩;have hE:aA a b=aJ a b:=if_neg h0;exact⟨_,rfl,h1,λ_=>rfl,λhz=>absurd (hE▸hz) h0⟩
theorem ql(a b:List aI)(va vb:Value)(w:World)(ha:Sl w va a)(hb:Sl w vb b) :
 Calls be 96 #[va,vb] w λe w'=>∃v',e=sh (Il #[v',O J (aA a b)])/\Below w.heap.size w w' /\
  (aA a b≠0->v'=U Y 0 0)/\(aA a b=0->Own w.heap.size w' v' (ay a b)):=by
 have HA:=ha;have HB:=hb;obtain⟨pa,ca,rfl,_,_⟩:=ha;obtain⟨pv,cb,rfl,_,_⟩:=hb;have df:Below w.heap.size w (w.alloc (AT #[U pa a.length ca,U pv b.length cb] 24)):=(Below.refl _ _).alloc (By _) _;have L7:Hid (Sl _ _ _):=HA.below df;have L8:Hid (Sl _ _ _):=HB.below df;clear HA HB;generalize a.length=na at *;generalize b.length=nb at *;go_enter Tryz.func96,Tryz.ntmps96;go_wp2_with fail;refine(ko a b (U pa na ca) (U pv nb cb) w.heap.size 2 _ L7.out L8.out (by simp) (af (heap_alloc_new w _) 0) (af (heap_alloc_new w _) 1)).mono ?_;rintro e w2 ⟨v',rfl,h1,h2,h3⟩;have H2:Hid _:=h2;have H3:Hid _:=h3;clear h2 h3;go_wp2_with fail;go_ret2;exact⟨v',rfl,df.trans (h1.mono (by simp)),H2.out,λh=>(H3.out h).mono (by simp)⟩
theorem CS{a b:List aI}(h:ba a≠0):aA a b=ba a:=by
 have:aJ a b=ba a:=if_neg h
 rw[aA,this,if_neg h]
theorem CT{a b:List aI}(h:ba a=0)(h2:ba b≠0):aA a b=ba b:=by
 have:aJ a b=ba b:=if_pos h
 rw[aA,this,if_neg h2]
theorem CU{a b:List aI}(h:ba a=0)(h2:ba b=0):aA a b=if 40<(ay a b).length then 2 else 0:=by
 have:aJ a b=0:=(if_pos h).trans h2
 rw[aA,if_pos this]
section
open Go.ChangeShapes Go.WideShapes Go.ChangeAt
variable {H:Type} {enc:TypeId × Value→H} {w:World} {base:Nat} {spare:Nat→Bool} {held:Bool}
end
end Sv
namespace Sv
open Go.RowKit
def mm(ms:List aI)(p:Nat)(f:Bool):aI:=if f=true then ms.getD p dm else dm
theorem qm(ms:List aI)(v:Value)(node bF:ByteArray)(w:World)(h:Sl w v ms)(hn:ms.length<=40)(hr:bO ms) :
 aP 140 #[v,I node,I bF] w λe w'=>∃(p:Nat) (f:Bool),e=sh (Il #[Im #[I (mm ms p f).node,I (mm ms p f).bF,I (mm ms p f).name,I (mm ms p f).tag,O J (mm ms p f).addr,O J (mm ms p f).port,AI (mm ms p f).au,O J (mm ms p f).version,AI (mm ms p f).gone],AI f])/\Below w.heap.size w w'/\At ms ⟨node,bF,⟨#[]⟩,⟨#[]⟩,0,0,false,0,false⟩ p f:=by
 obtain⟨W0,dK,df,nP,dt⟩:=cR w #[I ⟨#[]⟩,I ⟨#[]⟩,I ⟨#[]⟩,I ⟨#[]⟩,O J 0,O J 0,AI false,O J 0,AI false] 52;have HV:Hid (Sl W0 v ms):=h.below df;have HF:Hid (aP 196 #[v,Im #[I node,I bF,I ⟨#[]⟩,I ⟨#[]⟩,O J 0,O J 0,AI false,O J 0,AI false],.func (.func 182) #[] #[]] W0 λe w'=>∃(p:Nat) (f:Bool),e=sh (Il #[O J p,AI f])/\Below W0.heap.size W0 w'/\At ms ⟨node,bF,⟨#[]⟩,⟨#[]⟩,0,0,false,0,false⟩ p f):=
  fH ms v ⟨node,bF,⟨#[]⟩,⟨#[]⟩,0,0,false,0,false⟩ W0 HV.out (by omega) hr
 have Gj:Hid _:=dK;clear dK h hr;go_enter Tryz.func140,Tryz.ntmps140;go_wp2_with fail;rw[<- Gj.out];refine HF.out.mono ?_;rintro e w1 ⟨p,f,rfl,al,cA⟩;have fw:Hid _:=cA;have HV1:Hid (Sl w1 v ms):=HV.out.below al;have gI:=al.size;have aR:Hid _:=df.trans (al.mono (by omega));have bb:=(al.block w.heap.size (by omega)).trans dt;have t0:w1.cell? ⟨w.heap.size,0,Y⟩=Z (I ⟨#[]⟩):=af bb 0;have t1:w1.cell? ⟨w.heap.size,1,Y⟩=Z (I ⟨#[]⟩):=af bb 1;have t2:w1.cell? ⟨w.heap.size,2,Y⟩=Z (I ⟨#[]⟩):=af bb 2;have t3:w1.cell? ⟨w.heap.size,3,Y⟩=Z (I ⟨#[]⟩):=af bb 3;have t4:w1.cell? ⟨w.heap.size,4,Y⟩=Z (O J 0):=af bb 4;have t5:w1.cell? ⟨w.heap.size,5,Y⟩=Z (O J 0):=af bb 5;have t6:w1.cell? ⟨w.heap.size,6,Y⟩=Z (AI false):=af bb 6;have t7:w1.cell? ⟨w.heap.size,7,Y⟩=Z (O J 0):=af bb 7;have t8:w1.cell? ⟨w.heap.size,8,Y⟩=Z (AI false):=af bb 8;have gF:∀o,w1.frozen? ⟨w.heap.size,o,Y⟩=false:=λo=>by simp[World.frozen?,bb]
 have aL:w.heap.size<w1.heap.size:=by omega
 clear cA HF HV dt bb df al Gj nP gI;cases f
 .go_wp2_with fail
  exact bodyPost_ret (v:=Il #[Im #[I ⟨#[]⟩,I ⟨#[]⟩,I ⟨#[]⟩,I ⟨#[]⟩,O J 0,O J 0,AI false,O J 0,AI false],AI false]) (by simp[results,Tryz.results140,go_sem,t0,t1,t2,t3,t4,t5,t6,t7,t8]) rfl ⟨p,false,rfl,(((((((((aR.out.setCell (p:=⟨w.heap.size,0,Y⟩) (By _) _).setCell (p:=⟨w.heap.size,1,Y⟩) (By _) _).setCell (p:=⟨w.heap.size,2,Y⟩) (By _) _).setCell (p:=⟨w.heap.size,3,Y⟩) (By _) _).setCell (p:=⟨w.heap.size,4,Y⟩) (By _) _).setCell (p:=⟨w.heap.size,5,Y⟩) (By _) _).setCell (p:=⟨w.heap.size,6,Y⟩) (By _) _).setCell (p:=⟨w.heap.size,7,Y⟩) (By _) _).setCell (p:=⟨w.heap.size,8,Y⟩) (By _) _),fw.out⟩
 .have hp:=(fw.out.is.1 rfl).1
  obtain⟨a,cap,rfl,_,L9⟩:=HV1.out;obtain⟨b,off,Ww,zI,dL⟩:∃b off,a=Z ⟨b,off,Y⟩/\b<w1.heap.size/\Row w1 b off ms:=by
   rcases L9 with h|h
   .rw[h] at hp;simp at hp
   .exact h
  subst Ww;obtain⟨c0,c1,c2,c3,c4,c5,c6,c7,c8⟩:=dL p hp;clear dL L9 HV1;generalize hm:ms.getD p dm=m at *;have HM:Hid (mm ms p true=m):=by show mm ms p true=m;rw[mm,if_pos rfl,hm]
  clear hm;go_wp2_with fail;exact bodyPost_ret (v:=Il #[Im #[I m.node,I m.bF,I m.name,I m.tag,O J m.addr,O J m.port,AI m.au,O J m.version,AI m.gone],AI true]) (by simp[results,Tryz.results140,go_sem,t0,t1,t2,t3,t4,t5,t6,t7,t8]) rfl ⟨p,true,by rw[HM.out],(((((((((aR.out.setCell (p:=⟨w.heap.size,0,Y⟩) (By _) _).setCell (p:=⟨w.heap.size,1,Y⟩) (By _) _).setCell (p:=⟨w.heap.size,2,Y⟩) (By _) _).setCell (p:=⟨w.heap.size,3,Y⟩) (By _) _).setCell (p:=⟨w.heap.size,4,Y⟩) (By _) _).setCell (p:=⟨w.heap.size,5,Y⟩) (By _) _).setCell (p:=⟨w.heap.size,6,Y⟩) (By _) _).setCell (p:=⟨w.heap.size,7,Y⟩) (By _) _).setCell (p:=⟨w.heap.size,8,Y⟩) (By _) _),fw.out⟩
end Sv
namespace Sv
open Go.RowKit
theorem gx{m:aI}(h:m.e=0):aN m.node=true/\aN m.bF=true/\aN m.name=true/\tJ m.tag=true/\1<=m.version/\m.version<=1000000:=by
 unfold aI.e at h;split at h
 .rename_i h1
  split at h
  .rename_i h2
   simp[within] at h1 h2;exact⟨h1.1,h1.2.1,h1.2.2.1,h1.2.2.2,h2.2.2.1,h2.2.2.2⟩
  .omega
 .omega
theorem agF{ms:List aI}(h:aV ms=0)(p:Nat)(hp:p<ms.length):(ms.getD p dm).e=0:=by
 have:=dh ms h ms[p] (List.getElem_mem hp);simpa[List.getD,List.getElem?_eq_getElem hp] using this
theorem To{ms:List aI}{t:aI}(h:aV ms=0){p:Nat}{f:Bool}(cA:At ms t p f):0<=(mm ms p f).version/\(mm ms p f).version<=1000000:=by
 cases f
 .exact⟨by show(0:Int)<=0;omega,by show(0:Int)<=1000000;omega⟩
 .have:=(gx (agF h p (cA.is.1 rfl).1)).2.2.2.2
  rw[mm,if_pos rfl];omega
theorem CV(m:aI)(w:World) :
 Calls be 197 #[Im #[I m.node,I m.bF,I m.name,I m.tag,O J m.addr,O J m.port,AI m.au,O J m.version,AI m.gone]] w λe w'=>e=sh (U (Z ⟨w.heap.size+1,0,Y⟩) 1 1)/\w'=(w.alloc (AT #[I m.node,I m.bF,I m.name,I m.tag,O J m.addr,O J m.port,AI m.au,O J m.version,AI m.gone] 52)).alloc (AT #[I m.node,I m.bF,I m.name,I m.tag,O J m.addr,O J m.port,AI m.au,O J m.version,AI m.gone] 52):=by
 go_enter Tryz.func197,Tryz.ntmps197;go_wp2;go_ret;exact⟨rfl,rfl⟩
theorem Ah(ms:List aI)(v:Value)(m:aI)(w:World)(hv:Sl w v ms)(hm:m.ok) :
 Calls be 141 #[v,Im #[I m.node,I m.bF,I m.name,I m.tag,O J m.addr,O J m.port,AI m.au,O J m.version,AI m.gone]] w λe w'=>∃v',e=sh (Il #[v',O J (aA ms [m])])/\Below w.heap.size w w' /\
  (aA ms [m]≠0->v'=U Y 0 0)/\(aA ms [m]=0->Own w.heap.size w' v' (ay ms [m])):=by
 have HV:Hid (Sl w v ms):=hv;have HM:Hid m.ok:=hm;obtain⟨pa,ca,rfl,_,_⟩:=hv;obtain⟨W,hW⟩:∃W,W=((w.alloc (AT #[I m.node,I m.bF,I m.name,I m.tag,O J m.addr,O J m.port,AI m.au,O J m.version,AI m.gone] 52)).alloc (AT #[I m.node,I m.bF,I m.name,I m.tag,O J m.addr,O J m.port,AI m.au,O J m.version,AI m.gone] 52)).alloc (AT #[I m.node,I m.bF,I m.name,I m.tag,O J m.addr,O J m.port,AI m.au,O J m.version,AI m.gone] 52):=⟨_,rfl⟩;have ez:Below w.heap.size w W:=by rw[hW];exact(((Below.refl _ _).alloc (By _) _).alloc (by simp) _).alloc (by simp;omega) _
 have oX:W.heap.size=w.heap.size+1+1+1:=by rw[hW];simp
 have hgW:W.heap[w.heap.size+1+1]?=Z (AT #[I m.node,I m.bF,I m.name,I m.tag,O J m.addr,O J m.port,AI m.au,O J m.version,AI m.gone] 52 (0,0)):=by
  have h:=heap_alloc_new ((w.alloc (AT #[I m.node,I m.bF,I m.name,I m.tag,O J m.addr,O J m.port,AI m.au,O J m.version,AI m.gone] 52)).alloc (AT #[I m.node,I m.bF,I m.name,I m.tag,O J m.addr,O J m.port,AI m.au,O J m.version,AI m.gone] 52)) (AT #[I m.node,I m.bF,I m.name,I m.tag,O J m.addr,O J m.port,AI m.au,O J m.version,AI m.gone] 52);rw[hW];simpa using h
 have HW:Hid _:=hW;clear hW hm;go_enter Tryz.func141,Tryz.ntmps141;go_wp2_with (go_at_call 197;refine(CV m _).mono ?_;rintro e w' ⟨rfl,rfl⟩);rw[<- HW.out];refine(ko ms [m] (U pa ms.length ca) (U (Z ⟨w.heap.size+1+1,0,Y⟩) 1 1) _ _ _ ?ha ?hb ?hpb ?hc0 ?hc1).mono ?_
 case ha=>exact HV.out.below (ez.alloc ez.size _)
 case hb=>exact qe _ _ _ m HM.out ((Below.heap_alloc _ _ _ (by omega)).trans hgW)
 case hpb=>simp;omega
 case hc0=>exact(bJ (by omega)).trans rfl
 case hc1=>exact(bJ (by omega)).trans rfl
 rintro e w3 ⟨v',rfl,bf,MU,Ai⟩;have XN:Hid _:=MU;have da:Hid _:=(ez.alloc ez.size _).trans (bf.mono (by simp;omega));have MV:Hid (aA ms [m]=0->Own w.heap.size w3 v' (ay ms [m])):=λh=>(Ai h).mono (by simp;omega);clear MU Ai bf hgW oX ez;go_wp2_with fail;go_ret2;exact⟨v',rfl,da.out,XN.out,MV.out⟩
def Tp(ms:List aI)(p:Nat)(f:Bool)(s:aI):aI:={ s with version:=(mm ms p f).version+1,gone:=false }
theorem XO{ms:List aI}{p:Nat}{f:Bool}{s:aI}(h:s.ok):(Tp ms p f s).ok:=h
def keyOf(s:aI):aI:=⟨s.node,s.bF,⟨#[]⟩,⟨#[]⟩,0,0,false,0,false⟩
theorem wy(ms:List aI)(v:Value)(s:aI)(w:World)(hv:Sl w v ms)(h0:ba ms=0)(hs:s.ok)(p:Nat)(f:Bool)(cA:At ms (keyOf s) p f) :
 Calls be 88 #[v,Im #[I s.node,I s.bF,I s.name,I s.tag,O J s.addr,O J s.port,AI s.au,O J s.version,AI s.gone]] w λe w'=>∃v',e=sh (Il #[v',O J (aA ms [Tp ms p f s])])/\Below w.heap.size w w' /\
  (aA ms [Tp ms p f s]≠0->v'=U Y 0 0)/\(aA ms [Tp ms p f s]=0->Own w.heap.size w' v' (ay ms [Tp ms p f s])):=by
 have he:(ba ms !=0)=false:=by simpa using h0
 have hz:=aF h0;have df:Below w.heap.size w (w.alloc (AT #[I s.node,I s.bF,I s.name,I s.tag,O J s.addr,O J s.port,AI s.au,O J s.version,AI s.gone] 52)):=(Below.refl _ _).alloc (By _) _;have HV:Hid (Sl _ _ _):=hv.below df;have HV0:Hid (Sl w v ms):=hv;have HR:Hid (bO ms):=hz.2.1;have hlen:=hz.1;have HF:Hid _:=hz.2.2;have fw:Hid _:=cA;have HS:Hid ((Tp ms p f s).ok):=hs;have HG:Hid (Tp ms p f s={ s with version:=(mm ms p f).version+1,gone:=false }):=rfl;generalize Tp ms p f s=g at *;clear hv h0 hz cA hs;go_enter Tryz.func88,Tryz.ntmps88;go_wp2_with fail;refine(aW ms _ _ HV.out).mono ?_;rintro e w1 ⟨rfl,al⟩;have gI:w.heap.size+1<=w1.heap.size:=by have:=al.size;simpa using this
 have t0:w1.cell? ⟨w.heap.size,0,Y⟩=Z (I s.node):=(al.cell (p:=⟨w.heap.size,0,Y⟩) (by simp)).trans ((bJ rfl).trans rfl);have t1:w1.cell? ⟨w.heap.size,1,Y⟩=Z (I s.bF):=(al.cell (p:=⟨w.heap.size,1,Y⟩) (by simp)).trans ((bJ rfl).trans rfl);have t2:w1.cell? ⟨w.heap.size,2,Y⟩=Z (I s.name):=(al.cell (p:=⟨w.heap.size,2,Y⟩) (by simp)).trans ((bJ rfl).trans rfl);have t3:w1.cell? ⟨w.heap.size,3,Y⟩=Z (I s.tag):=(al.cell (p:=⟨w.heap.size,3,Y⟩) (by simp)).trans ((bJ rfl).trans rfl);have t4:w1.cell? ⟨w.heap.size,4,Y⟩=Z (O J s.addr):=(al.cell (p:=⟨w.heap.size,4,Y⟩) (by simp)).trans ((bJ rfl).trans rfl);have t5:w1.cell? ⟨w.heap.size,5,Y⟩=Z (O J s.port):=(al.cell (p:=⟨w.heap.size,5,Y⟩) (by simp)).trans ((bJ rfl).trans rfl);have t6:w1.cell? ⟨w.heap.size,6,Y⟩=Z (AI s.au):=(al.cell (p:=⟨w.heap.size,6,Y⟩) (by simp)).trans ((bJ rfl).trans rfl);have t7:w1.cell? ⟨w.heap.size,7,Y⟩=Z (O J s.version):=(al.cell (p:=⟨w.heap.size,7,Y⟩) (by simp)).trans ((bJ rfl).trans rfl);have t8:w1.cell? ⟨w.heap.size,8,Y⟩=Z (AI s.gone):=(al.cell (p:=⟨w.heap.size,8,Y⟩) (by simp)).trans ((bJ rfl).trans rfl);have acA:∀o,w1.frozen? ⟨w.heap.size,o,Y⟩=false:=λo=>(al.frozen (p:=⟨w.heap.size,o,Y⟩) (by simp)).trans (by simp);go_wp2_with fail;refine(qm ms _ s.node s.bF _ (HV.out.below al) hlen HR.out).mono ?_;rintro e w2 ⟨p',f',rfl,aC,yq⟩;obtain⟨rfl,rfl⟩:=eV fw.out yq;have acB:=To HF.out yq;have iZ:w1.heap.size<=w2.heap.size:=aC.size;have rH:w.heap.size<w2.heap.size:=by omega
 have r0:w2.cell? ⟨w.heap.size,0,Y⟩=Z (I s.node):=(aC.cell (p:=⟨w.heap.size,0,Y⟩) (by show w.heap.size<w1.heap.size;omega)).trans t0;have r1:w2.cell? ⟨w.heap.size,1,Y⟩=Z (I s.bF):=(aC.cell (p:=⟨w.heap.size,1,Y⟩) (by show w.heap.size<w1.heap.size;omega)).trans t1;have r2:w2.cell? ⟨w.heap.size,2,Y⟩=Z (I s.name):=(aC.cell (p:=⟨w.heap.size,2,Y⟩) (by show w.heap.size<w1.heap.size;omega)).trans t2;have r3:w2.cell? ⟨w.heap.size,3,Y⟩=Z (I s.tag):=(aC.cell (p:=⟨w.heap.size,3,Y⟩) (by show w.heap.size<w1.heap.size;omega)).trans t3;have r4:w2.cell? ⟨w.heap.size,4,Y⟩=Z (O J s.addr):=(aC.cell (p:=⟨w.heap.size,4,Y⟩) (by show w.heap.size<w1.heap.size;omega)).trans t4;have r5:w2.cell? ⟨w.heap.size,5,Y⟩=Z (O J s.port):=(aC.cell (p:=⟨w.heap.size,5,Y⟩) (by show w.heap.size<w1.heap.size;omega)).trans t5;have r6:w2.cell? ⟨w.heap.size,6,Y⟩=Z (AI s.au):=(aC.cell (p:=⟨w.heap.size,6,Y⟩) (by show w.heap.size<w1.heap.size;omega)).trans t6;have r7:w2.cell? ⟨w.heap.size,7,Y⟩=Z (O J s.version):=(aC.cell (p:=⟨w.heap.size,7,Y⟩) (by show w.heap.size<w1.heap.size;omega)).trans t7;have r8:w2.cell? ⟨w.heap.size,8,Y⟩=Z (AI s.gone):=(aC.cell (p:=⟨w.heap.size,8,Y⟩) (by show w.heap.size<w1.heap.size;omega)).trans t8;have gF:∀o,w2.frozen? ⟨w.heap.size,o,Y⟩=false:=λo=>(aC.frozen (p:=⟨w.heap.size,o,Y⟩) (by show w.heap.size<w1.heap.size;omega)).trans (acA o);have bw:Hid (Below w.heap.size w w2):=df.trans ((al.trans (aC.mono al.size)).mono (by simp));have HV2:Hid (Sl w2 v ms):=(HV.out.below al).below aC;clear yq al aC HV t0 t1 t2 t3 t4 t5 t6 t7 t8 acA df;generalize mm ms p f=kn at *;obtain⟨k_node,k_idn,k_name,k_tag,k_addr,k_port,k_passing,k_version,k_gone⟩:=kn;simp only at acB;obtain⟨hv0,Wj⟩:=acB;go_wp2_with fail;have hg:=HG.out;refine(show Calls be 141 #[v,Im #[I g.node,I g.bF,I g.name,I g.tag,O J g.addr,O J g.port,AI g.au,O J g.version,AI g.gone]] _ _->_ from λh=>by rw[hg] at h;exact h) ?_;have hBx:=((bw.out.setCell (p:=⟨w.heap.size,7,Y⟩) (By _) (O J (k_version+1))).setCell (p:=⟨w.heap.size,8,Y⟩) (By _) (AI false)).alloc (by simp;omega) (AT #[I k_node,I k_idn,I k_name,I k_tag,O J k_addr,O J k_port,AI k_passing,O J k_version,AI k_gone] 52);refine(Ah ms v g _ (HV0.out.below hBx) HS.out).mono ?_;rintro e w3 ⟨v',rfl,bf,MU,Ai⟩;have XN:Hid _:=MU;have da:Hid _:=hBx.trans (bf.mono (by simp;omega));have MV:Hid (aA ms [g]=0->Own w.heap.size w3 v' (ay ms [g])):=λh=>(Ai h).mono (by simp;omega);clear MU Ai bf hBx hg;go_wp2_with fail;go_ret2;exact⟨v',rfl,da.out,XN.out,MV.out⟩
def keep(name tag:ByteArray)(m:aI):Bool:=(m.name.toList==name.toList)&&((tag.toList==[])||(m.tag.toList==tag.toList))&&m.au&&!m.gone
def bV(ms:List aI)(name tag:ByteArray):List aI:=ms.filter (keep name tag)
def EX(name tag:ByteArray):Int:=if(aN name&&tJ tag)=true then 0 else 1
theorem Gu{ms:List aI}{name tag:ByteArray}{k:Nat}(hk:k<ms.length)(h:keep name tag (ms.getD k dm)=true):bV (ms.take (k+1)) name tag=bV (ms.take k) name tag++[ms.getD k dm]:=by
 rw[RL.o0 dm hk] at h ⊢;rw[bV,bV,Iw hk,JP,List.filter_cons_of_pos h];rfl
theorem MW{ms:List aI}{name tag:ByteArray}{k:Nat}(hk:k<ms.length)(h:keep name tag (ms.getD k dm)=false):bV (ms.take (k+1)) name tag=bV (ms.take k) name tag:=by
 rw[RL.o0 dm hk] at h;rw[bV,bV,Iw hk,JP,List.filter_cons_of_neg (by rw[h];exact Bool.false_ne_true)];simp
theorem xh(ms:List aI)(name tag:ByteArray):(bV ms name tag).length<=ms.length:=List.length_filter_le _ _
theorem MX{ms:List aI}{name tag:ByteArray}(h:∀m∈ms,m.ok):∀m∈bV ms name tag,m.ok:=λm hm=>h m (List.mem_filter.1 hm).1
theorem MY(name tag:ByteArray)(m:aI) : (keep name tag m=false/\((m.name.toList==name.toList)=false\/((m.name.toList==name.toList)=true/\(tag.toList==[])=false/\(m.tag.toList==tag.toList)=false)
   \/ ((m.name.toList==name.toList)=true/\(tag.toList==[])=true/\m.au=false)\/((m.name.toList==name.toList)=true/\(tag.toList==[])=false/\(m.tag.toList==tag.toList)=true/\m.au=false)
   \/ ((m.name.toList==name.toList)=true/\(tag.toList==[])=true/\m.au=true/\m.gone=true)\/((m.name.toList==name.toList)=true/\(tag.toList==[])=false/\(m.tag.toList==tag.toList)=true/\m.au=true/\m.gone=true)))
 \/ (keep name tag m=true/\(((m.name.toList==name.toList)=true/\(tag.toList==[])=true/\m.au=true/\m.gone=false)\/((m.name.toList==name.toList)=true/\(tag.toList==[])=false/\(m.tag.toList==tag.toList)=true/\m.au=true/\m.gone=false))):=by
 unfold keep;generalize(m.name.toList==name.toList)=b1;generalize(tag.toList==[])=b2;generalize(m.tag.toList==tag.toList)=b3;generalize m.au=b4;generalize m.gone=b5;cases b1<;>cases b2<;>cases b3<;>cases b4<;>cases b5<;>simp
theorem tK(ms:List aI)(v:Value)(name tag:ByteArray)(w:World)(hv:Sl w v ms)(h0:ba ms=0)(hn:name.size<=maxLen)(ht:tag.size<=maxLen)(hl:EX name tag=0) :
 Calls be 193 #[v,I name,I tag] w λe w'=>∃v',e=sh (Il #[v',O J 0])/\Own w.heap.size w' v' (bV ms name tag)/\Below w.heap.size w w':=by
 obtain⟨i0,ei,bW,fs,eU⟩:=info_parts Tryz.qo;have he:(ba ms !=0)=false:=by simpa using h0
 have hlen:=(aF h0).1;have HV:Hid (Sl w v ms):=hv;have XP:aN name=true/\tJ tag=true:=by
  unfold EX at hl;split at hl
  .rename_i h;simpa using h
  .cases hl
 obtain⟨h1,h2⟩:=XP;obtain⟨pa,ca,rfl,_,ha⟩:=hv;have HA:Hid _:=ha;clear ha h0 hl;generalize yo:ms.length=n at *;have HN:Hid (ms.length=n):=yo;clear yo;go_enter Tryz.func193,Tryz.ntmps193;go_wp2_with (first|(go_at_call 129;refine(aW ms _ _ HV.out).mono ?_;rintro e w1 ⟨rfl,al⟩)|(go_at_call 65;refine(bc _ _ hn).mono ?_;rintro e w' ⟨rfl,rfl⟩;rw[h1])|(go_at_call 59;refine(EW tag _ _ ht (Gc _ _)).mono ?_;rintro e w3 ⟨rfl,rfl⟩;rw[h2]));have aR:Hid (Below w.heap.size w _):=al.alloc al.size (AT #[I tag] 9);have gI:=aR.out.size;clear al HV;go_loopw [9,28] (λkn i w'=>∃k:Nat,k<=n/\i=O J k/\Below w.heap.size w w'/\Hid (Own w.heap.size w' kn (bV (ms.take k) name tag))) (λ_ i _=>n-(intOf i).toNat)
 case atStart=>exact⟨0,Nat.zero_le _,rfl,aR.out,bj _ _⟩
 case round=>
  obtain⟨k,hk,rfl,aU,HO⟩:=hrel;obtain⟨eA,nO⟩:=cH aU;have bA:=aU.size;have al8:(bV (ms.take k) name tag).length<=40:=by have h1:=xh (ms.take k) name tag;have h2:(ms.take k).length<=k:=List.length_take_le _ _;omega
  by_cases aL:k<n
  .obtain⟨b1,o1,lP,eY,yp⟩:∃b off,pa=Z ⟨b,off,Y⟩/\b<w.heap.size/\Row w b off ms:=by
    rcases HA.out with h|h
    .have:=HN.out;rw[h] at this;simp at this;omega
    .exact h
   subst lP;obtain⟨c0,c1,c2,c3,c4,c5,c6,c7,c8⟩:=yp k (by rw[HN.out];exact aL);clear yp;have sO:k<ms.length:=by rw[HN.out];exact aL
   have HY:Hid (keep name tag (ms.getD k dm)=true->bV (ms.take (k+1)) name tag=bV (ms.take k) name tag++[ms.getD k dm]):=λh=>Gu sO h;have MZ:Hid (keep name tag (ms.getD k dm)=false->bV (ms.take (k+1)) name tag=bV (ms.take k) name tag):=λh=>MW sO h;generalize ms.getD k dm=m at *;rcases MY name tag m with⟨kN,hw⟩|⟨kN,hw⟩
   .have lG:Hid (bV (ms.take (k+1)) name tag=bV (ms.take k) name tag):=MZ.out kN
    clear HY MZ kN;rcases hw with h|⟨h,g1,g2⟩|⟨h,g1,g2⟩|⟨h,g1,g2,g3⟩|⟨h,g1,g2,g3⟩|⟨h,g1,g2,g3,g4⟩;all_goals
     go_wp2_with fail;go_roundw
     case rel=>exact⟨k+1,by omega,by go_num,aU.alloc bA _,by rw[lG.out];exact HO.out.below ((Below.refl _ _).alloc (By _) _)⟩
     case measure=>simp[intOf];omega
   .have lG:Hid (bV (ms.take (k+1)) name tag=bV (ms.take k) name tag++[m]):=HY.out kN
    clear HY MZ kN;generalize bV (ms.take k) name tag=L at *;rcases hw with⟨h,g1,gp,gg⟩|⟨h,g1,g2,gp,gg⟩;all_goals
     go_wp2_with (at_builtin;refine wpList_append_own _ rfl _ _ 24 rfl w.heap.size 52 i0 _ 9 104 Tryz.underlying24 ei bW fs eU rfl (by omega) _ L.length (fl L) rfl ?hown ⟨wr.heap.size+1,0,Y⟩ 1 1 m.cs rfl rfl ?hnews (cC _) ?h63 ?hbytes ?hbase ?_)
     case hown=>exact HO.out.below (((Below.refl _ _).alloc (By _) _).alloc (by simp) _)
     case hnews=>(intro j u hj;rw[Addr.add_lit];exact(bJ (by simp)).trans (by simpa[aI.cs,gp,gg] using hj))
     case h63=>(unfold maxLen;omega)
     case hbytes=>omega
     case hbase=>(simp;omega)
     all_goals
      intro v' w2 r1 r2 r3;have CO:Hid (Below w.heap.size w w2):=((aU.alloc bA _).alloc (by simp;omega) _).grown r2 (by simp;omega) (λj hj=>(HO.out.lt j hj).1);have Wz:Hid (Own w.heap.size w2 v' (L++[m])):=eM r1;clear r1 r2 r3;go_wp2_with fail;go_roundw
      case rel=>exact⟨k+1,by omega,by go_num,CO.out,by rw[lG.out];exact Wz.out⟩
      case measure=>simp[intOf];omega
  .have fM:k=n:=by omega
   subst fM;have HFO:Hid (Own w.heap.size wr u9 (bV ms name tag)):=by
    have h:=HO.out;rw[List.take_of_length_le (by rw[HN.out];exact By _)] at h;exact h
   go_wp2_with fail;go_ret2;exact⟨u9,rfl,HFO.out,aU⟩
end Sv
namespace Sv
open Go.RowKit
theorem CW{a b:List aI}(h:aA a b=0):ba a=0/\ba b=0/\(ay a b).length<=40:=by
 by_cases ha:ba a=0
 .by_cases hb:ba b=0
  .rw[CU ha hb] at h
   refine⟨ha,hb,?_⟩;split at h
   .cases h
   .omega
  .rw[CT ha hb] at h;exact absurd h hb
 .rw[CS ha] at h;exact absurd h ha
end Sv
end Go.Proofs.YtfidjlcdlakceaaGreatDoor
