import Derived.Test.YtfidhgjmifendaaGreatDoornt19
set_option maxHeartbeats 3200000
set_option maxRecDepth 100000
open Go.Value renaming string→Y,int→U,bool→Ia,slice→J
open Go.IntKind renaming i64→O
open Go.Obj renaming cells→AT
open Option renaming some→AI,none→be
open Nat renaming le_refl→Ic
namespace Go.Proofs.YtfidhgjmifendaaGreatDoor
namespace Sv
open Go.RowKit
theorem aU{m:aT}(h:m.e=0):bb m.node=true/\bb m.bu=true/\bb m.name=true/\lO m.tag=true/\1<=m.version/\m.version<=1000000:=by
 unfold aT.e at h;split at h
 .rename_i h1
  split at h
  .rename_i h2
   simp[within] at h1 h2;exact⟨h1.1,h1.2.1,h1.2.2.1,h1.2.2.2,h2.2.2.1,h2.2.2.2⟩
  .omega
 .omega
theorem Mo{ms:List aT}(h:aR ms=0)(p:Nat)(hp:p<ms.length):(ms.getD p dm).e=0:=by
 have:=bc ms h ms[p] (List.getElem_mem hp);simpa[List.getD,List.getElem?_eq_getElem hp] using this
theorem pB{ms:List aT}{t:aT}(h:aR ms=0){p:Nat}{f:Bool}(cv:At ms t p f):0<=(et ms p f).version/\(et ms p f).version<=1000000:=by
 cases f
 .exact⟨by show(0:Int)<=0;omega,by show(0:Int)<=1000000;omega⟩
 .have:=(aU (Mo h p (cv.is.1 rfl).1)).2.2.2.2
  rw[et,if_pos rfl];omega
theorem Bl(m:aT)(w:World) :
 Calls Tryz.prog 271 #[.agg #[Y m.node,Y m.bu,Y m.name,Y m.tag,U O m.addr,U O m.port,Ia m.aj,U O m.version,Ia m.gone]] w λe w'=>e=.returned (J (AI ⟨w.heap.size+1,0,be⟩) 1 1)/\w'=(w.alloc (AT #[Y m.node,Y m.bu,Y m.name,Y m.tag,U O m.addr,U O m.port,Ia m.aj,U O m.version,Ia m.gone] 46)).alloc (AT #[Y m.node,Y m.bu,Y m.name,Y m.tag,U O m.addr,U O m.port,Ia m.aj,U O m.version,Ia m.gone] 46):=by
 go_enter Tryz.func271,Tryz.ntmps271;go_wp2;go_ret;exact⟨rfl,rfl⟩
theorem rn(ms:List aT)(v:Value)(m:aT)(w:World)(hv:Sl w v ms)(hm:m.ok) :
 Calls Tryz.prog 240 #[v,.agg #[Y m.node,Y m.bu,Y m.name,Y m.tag,U O m.addr,U O m.port,Ia m.aj,U O m.version,Ia m.gone]] w λe w'=>∃v',e=.returned (.tuple #[v',U O (aE ms [m])])/\Below w.heap.size w w' /\
  (aE ms [m]≠0->v'=J be 0 0)/\(aE ms [m]=0->Own w.heap.size w' v' (av ms [m])):=by
 have HV:Hid (Sl w v ms):=hv;have HM:Hid m.ok:=hm;obtain⟨pa,ca,rfl,_,_⟩:=hv;obtain⟨W,hW⟩:∃W,W=((w.alloc (AT #[Y m.node,Y m.bu,Y m.name,Y m.tag,U O m.addr,U O m.port,Ia m.aj,U O m.version,Ia m.gone] 46)).alloc (AT #[Y m.node,Y m.bu,Y m.name,Y m.tag,U O m.addr,U O m.port,Ia m.aj,U O m.version,Ia m.gone] 46)).alloc (AT #[Y m.node,Y m.bu,Y m.name,Y m.tag,U O m.addr,U O m.port,Ia m.aj,U O m.version,Ia m.gone] 46):=⟨_,rfl⟩;have rj:Below w.heap.size w W:=by rw[hW];exact(((Below.refl _ _).alloc (Ic _) _).alloc (by simp) _).alloc (by simp;omega) _
 have Mn:W.heap.size=w.heap.size+1+1+1:=by rw[hW];simp
 have hgW:W.heap[w.heap.size+1+1]?=AI (AT #[Y m.node,Y m.bu,Y m.name,Y m.tag,U O m.addr,U O m.port,Ia m.aj,U O m.version,Ia m.gone] 46 (0,0)):=by
  have h:=heap_alloc_new ((w.alloc (AT #[Y m.node,Y m.bu,Y m.name,Y m.tag,U O m.addr,U O m.port,Ia m.aj,U O m.version,Ia m.gone] 46)).alloc (AT #[Y m.node,Y m.bu,Y m.name,Y m.tag,U O m.addr,U O m.port,Ia m.aj,U O m.version,Ia m.gone] 46)) (AT #[Y m.node,Y m.bu,Y m.name,Y m.tag,U O m.addr,U O m.port,Ia m.aj,U O m.version,Ia m.gone] 46);rw[hW];simpa using h
 have HW:Hid _:=hW;clear hW hm;go_enter Tryz.func240,Tryz.ntmps240;go_wp2_with (go_at_call 271;refine(Bl m _).mono ?_;rintro e w' ⟨rfl,rfl⟩);rw[<- HW.out];refine(jR ms [m] (J pa ms.length ca) (J (AI ⟨w.heap.size+1+1,0,be⟩) 1 1) _ _ _ ?ha ?hb ?hpb ?hc0 ?hc1).mono ?_
 case ha=>exact HV.out.below (rj.alloc rj.size _)
 case hb=>exact oj _ _ _ m HM.out ((Below.heap_alloc _ _ _ (by omega)).trans hgW)
 case hpb=>simp;omega
 case hc0=>exact(dA (by omega)).trans rfl
 case hc1=>exact(dA (by omega)).trans rfl
 rintro e w3 ⟨v',rfl,bV,pD,mN⟩;have Bf:Hid _:=pD;have cj:Hid _:=(rj.alloc rj.size _).trans (bV.mono (by simp;omega));have sZ:Hid (aE ms [m]=0->Own w.heap.size w3 v' (av ms [m])):=λh=>(mN h).mono (by simp;omega);clear pD mN bV hgW Mn rj;go_wp2_with fail;go_ret2;exact⟨v',rfl,cj.out,Bf.out,sZ.out⟩
def Az(ms:List aT)(p:Nat)(f:Bool)(s:aT):aT:={ s with version:=(et ms p f).version+1,gone:=false }
theorem RV{ms:List aT}{p:Nat}{f:Bool}{s:aT}(h:s.ok):(Az ms p f s).ok:=h
def keyOf(s:aT):aT:=⟨s.node,s.bu,⟨#[]⟩,⟨#[]⟩,0,0,false,0,false⟩
theorem uV(ms:List aT)(v:Value)(s:aT)(w:World)(hv:Sl w v ms)(h0:bj ms=0)(hs:s.ok)(p:Nat)(f:Bool)(cv:At ms (keyOf s) p f) :
 Calls Tryz.prog 202 #[v,.agg #[Y s.node,Y s.bu,Y s.name,Y s.tag,U O s.addr,U O s.port,Ia s.aj,U O s.version,Ia s.gone]] w λe w'=>∃v',e=.returned (.tuple #[v',U O (aE ms [Az ms p f s])])/\Below w.heap.size w w' /\
  (aE ms [Az ms p f s]≠0->v'=J be 0 0)/\(aE ms [Az ms p f s]=0->Own w.heap.size w' v' (av ms [Az ms p f s])):=by
 have he:(bj ms !=0)=false:=by simpa using h0
 have hz:=af h0;have bM:Below w.heap.size w (w.alloc (AT #[Y s.node,Y s.bu,Y s.name,Y s.tag,U O s.addr,U O s.port,Ia s.aj,U O s.version,Ia s.gone] 46)):=(Below.refl _ _).alloc (Ic _) _;have HV:Hid (Sl _ _ _):=hv.below bM;have HV0:Hid (Sl w v ms):=hv;have HR:Hid (bn ms):=hz.2.1;have hlen:=hz.1;have HF:Hid _:=hz.2.2;have fS:Hid _:=cv;have HS:Hid ((Az ms p f s).ok):=hs;have HG:Hid (Az ms p f s={ s with version:=(et ms p f).version+1,gone:=false }):=rfl;generalize Az ms p f s=g at *;clear hv h0 hz cv hs;go_enter Tryz.func202,Tryz.ntmps202;go_wp2_with fail;refine(bo ms _ _ HV.out).mono ?_;rintro e w1 ⟨rfl,aB⟩;have fg:w.heap.size+1<=w1.heap.size:=by have:=aB.size;simpa using this
 have t0:w1.cell? ⟨w.heap.size,0,be⟩=AI (Y s.node):=(aB.cell (p:=⟨w.heap.size,0,be⟩) (by simp)).trans ((dA rfl).trans rfl);have t1:w1.cell? ⟨w.heap.size,1,be⟩=AI (Y s.bu):=(aB.cell (p:=⟨w.heap.size,1,be⟩) (by simp)).trans ((dA rfl).trans rfl);have t2:w1.cell? ⟨w.heap.size,2,be⟩=AI (Y s.name):=(aB.cell (p:=⟨w.heap.size,2,be⟩) (by simp)).trans ((dA rfl).trans rfl);have t3:w1.cell? ⟨w.heap.size,3,be⟩=AI (Y s.tag):=(aB.cell (p:=⟨w.heap.size,3,be⟩) (by simp)).trans ((dA rfl).trans rfl);have t4:w1.cell? ⟨w.heap.size,4,be⟩=AI (U O s.addr):=(aB.cell (p:=⟨w.heap.size,4,be⟩) (by simp)).trans ((dA rfl).trans rfl);have t5:w1.cell? ⟨w.heap.size,5,be⟩=AI (U O s.port):=(aB.cell (p:=⟨w.heap.size,5,be⟩) (by simp)).trans ((dA rfl).trans rfl);have t6:w1.cell? ⟨w.heap.size,6,be⟩=AI (Ia s.aj):=(aB.cell (p:=⟨w.heap.size,6,be⟩) (by simp)).trans ((dA rfl).trans rfl);have t7:w1.cell? ⟨w.heap.size,7,be⟩=AI (U O s.version):=(aB.cell (p:=⟨w.heap.size,7,be⟩) (by simp)).trans ((dA rfl).trans rfl);have t8:w1.cell? ⟨w.heap.size,8,be⟩=AI (Ia s.gone):=(aB.cell (p:=⟨w.heap.size,8,be⟩) (by simp)).trans ((dA rfl).trans rfl);have VQ:∀o,w1.frozen? ⟨w.heap.size,o,be⟩=false:=λo=>(aB.frozen (p:=⟨w.heap.size,o,be⟩) (by simp)).trans (by simp);go_wp2_with fail;refine(nx ms _ s.node s.bu _ (HV.out.below aB) hlen HR.out).mono ?_;rintro e w2 ⟨p',f',rfl,aJ,qD⟩;obtain⟨rfl,rfl⟩:=ey fS.out qD;have pC:=pB HF.out qD;have gY:w1.heap.size<=w2.heap.size:=aJ.size;have tn:w.heap.size<w2.heap.size:=by omega
 have r0:w2.cell? ⟨w.heap.size,0,be⟩=AI (Y s.node):=(aJ.cell (p:=⟨w.heap.size,0,be⟩) (by show w.heap.size<w1.heap.size;omega)).trans t0;have r1:w2.cell? ⟨w.heap.size,1,be⟩=AI (Y s.bu):=(aJ.cell (p:=⟨w.heap.size,1,be⟩) (by show w.heap.size<w1.heap.size;omega)).trans t1;have r2:w2.cell? ⟨w.heap.size,2,be⟩=AI (Y s.name):=(aJ.cell (p:=⟨w.heap.size,2,be⟩) (by show w.heap.size<w1.heap.size;omega)).trans t2;have r3:w2.cell? ⟨w.heap.size,3,be⟩=AI (Y s.tag):=(aJ.cell (p:=⟨w.heap.size,3,be⟩) (by show w.heap.size<w1.heap.size;omega)).trans t3;have r4:w2.cell? ⟨w.heap.size,4,be⟩=AI (U O s.addr):=(aJ.cell (p:=⟨w.heap.size,4,be⟩) (by show w.heap.size<w1.heap.size;omega)).trans t4;have r5:w2.cell? ⟨w.heap.size,5,be⟩=AI (U O s.port):=(aJ.cell (p:=⟨w.heap.size,5,be⟩) (by show w.heap.size<w1.heap.size;omega)).trans t5;have r6:w2.cell? ⟨w.heap.size,6,be⟩=AI (Ia s.aj):=(aJ.cell (p:=⟨w.heap.size,6,be⟩) (by show w.heap.size<w1.heap.size;omega)).trans t6;have r7:w2.cell? ⟨w.heap.size,7,be⟩=AI (U O s.version):=(aJ.cell (p:=⟨w.heap.size,7,be⟩) (by show w.heap.size<w1.heap.size;omega)).trans t7;have r8:w2.cell? ⟨w.heap.size,8,be⟩=AI (Ia s.gone):=(aJ.cell (p:=⟨w.heap.size,8,be⟩) (by show w.heap.size<w1.heap.size;omega)).trans t8;have rf:∀o,w2.frozen? ⟨w.heap.size,o,be⟩=false:=λo=>(aJ.frozen (p:=⟨w.heap.size,o,be⟩) (by show w.heap.size<w1.heap.size;omega)).trans (VQ o);have bp:Hid (Below w.heap.size w w2):=bM.trans ((aB.trans (aJ.mono aB.size)).mono (by simp));have HV2:Hid (Sl w2 v ms):=(HV.out.below aB).below aJ;clear qD aB aJ HV t0 t1 t2 t3 t4 t5 t6 t7 t8 VQ bM;generalize et ms p f=kn at *;obtain⟨k_node,k_idn,k_name,k_tag,k_addr,k_port,k_passing,k_version,k_gone⟩:=kn;simp only at pC;obtain⟨Aw,Av⟩:=pC;go_wp2_with fail;have hg:=HG.out;refine(show Calls Tryz.prog 240 #[v,.agg #[Y g.node,Y g.bu,Y g.name,Y g.tag,U O g.addr,U O g.port,Ia g.aj,U O g.version,Ia g.gone]] _ _->_ from λh=>by rw[hg] at h;exact h) ?_;have hBx:=((bp.out.setCell (p:=⟨w.heap.size,7,be⟩) (Ic _) (U O (k_version+1))).setCell (p:=⟨w.heap.size,8,be⟩) (Ic _) (Ia false)).alloc (by simp;omega) (AT #[Y k_node,Y k_idn,Y k_name,Y k_tag,U O k_addr,U O k_port,Ia k_passing,U O k_version,Ia k_gone] 46);refine(rn ms v g _ (HV0.out.below hBx) HS.out).mono ?_;rintro e w3 ⟨v',rfl,bV,pD,mN⟩;have Bf:Hid _:=pD;have cj:Hid _:=hBx.trans (bV.mono (by simp;omega));have sZ:Hid (aE ms [g]=0->Own w.heap.size w3 v' (av ms [g])):=λh=>(mN h).mono (by simp;omega);clear pD mN bV hBx hg;go_wp2_with fail;go_ret2;exact⟨v',rfl,cj.out,Bf.out,sZ.out⟩
end Sv
namespace Sv
open Go.RowKit
theorem jU{a b:List aT}(h:aE a b=0):bj a=0/\bj b=0/\(av a b).length<=40:=by
 by_cases ha:bj a=0
 .by_cases hb:bj b=0
  .rw[ik ha hb] at h
   refine⟨ha,hb,?_⟩;split at h
   .cases h
   .omega
  .rw[lH ha hb] at h;exact absurd h hb
 .rw[oq ha] at h;exact absurd h ha
theorem mP{a b:List aT}(h:aE a b=0):bj (av a b)=0:=by
 obtain⟨ha,hb,hl⟩:=jU h;have za:=af ha;have zb:=af hb;exact jV hl (dE b a za.2.1) λm hm=>by
  rcases dS b a m hm with h|h
  .exact bc a za.2.2 m h
  .exact bc b zb.2.2 m h
theorem VR{w:World}{v:Value}{ms:List aT}(h:Sl w v ms):∀m∈ms,(m).ok:=by obtain⟨_,_,_,h,_⟩:=h;exact dw h
end Sv
namespace Sv
open Go.RowKit
def s0:aT:=⟨⟨#[110]⟩,⟨#[105]⟩,⟨#[115]⟩,⟨#[]⟩,0,0,true,0,false⟩
def s1:aT:=⟨⟨#[110]⟩,⟨#[105]⟩,⟨#[115]⟩,⟨#[]⟩,0,0,true,1,false⟩
end Sv
namespace Sv
open Go.RowKit
end Sv
end Go.Proofs.YtfidhgjmifendaaGreatDoor
