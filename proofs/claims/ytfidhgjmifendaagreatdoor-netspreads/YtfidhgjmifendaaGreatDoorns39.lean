import Derived.Test.YtfidhgjmifendaaGreatDoorns17
set_option maxHeartbeats 3200000
set_option maxRecDepth 100000
open Go.Value renaming string→Y,int→U,bool→Ia,slice→J
open Go.IntKind renaming i64→O
open Go.Obj renaming cells→By
open Option renaming some→AI,none→be
open Nat renaming le_refl→Ic
namespace Go.Proofs.YtfidhgjmifendaaGreatDoor
namespace Sv
open Go.RowKit
theorem aN{m:aY}(h:m.e=0):bc m.node=true/\bc m.bP=true/\bc m.name=true/\lU m.tag=true/\1<=m.version/\m.version<=1000000:=by
 unfold aY.e at h;split at h
 .rename_i h1
  split at h
  .rename_i h2
   simp[within] at h1 h2;exact⟨h1.1,h1.2.1,h1.2.2.1,h1.2.2.2,h2.2.2.1,h2.2.2.2⟩
  .omega
 .omega
theorem MO{ms:List aY}(h:aU ms=0)(p:Nat)(hp:p<ms.length):(ms.getD p dm).e=0:=by
 have:=bf ms h ms[p] (List.getElem_mem hp);simpa[List.getD,List.getElem?_eq_getElem hp] using this
theorem pU{ms:List aY}{t:aY}(h:aU ms=0){p:Nat}{f:Bool}(cH:At ms t p f):0<=(eC ms p f).version/\(eC ms p f).version<=1000000:=by
 cases f
 .exact⟨by show(0:Int)<=0;omega,by show(0:Int)<=1000000;omega⟩
 .have:=(aN (MO h p (cH.is.1 rfl).1)).2.2.2.2
  rw[eC,if_pos rfl];omega
theorem Cn(m:aY)(w:World) :
 Calls Tryz.prog 271 #[.agg #[Y m.node,Y m.bP,Y m.name,Y m.tag,U O m.addr,U O m.port,Ia m.an,U O m.version,Ia m.gone]] w λe w'=>e=.returned (J (AI ⟨w.heap.size+1,0,be⟩) 1 1)/\w'=(w.alloc (By #[Y m.node,Y m.bP,Y m.name,Y m.tag,U O m.addr,U O m.port,Ia m.an,U O m.version,Ia m.gone] 46)).alloc (By #[Y m.node,Y m.bP,Y m.name,Y m.tag,U O m.addr,U O m.port,Ia m.an,U O m.version,Ia m.gone] 46):=by
 go_enter Tryz.func271,Tryz.ntmps271;go_wp2;go_ret;exact⟨rfl,rfl⟩
theorem rS(ms:List aY)(v:Value)(m:aY)(w:World)(hv:Sl w v ms)(hm:m.ok) :
 Calls Tryz.prog 240 #[v,.agg #[Y m.node,Y m.bP,Y m.name,Y m.tag,U O m.addr,U O m.port,Ia m.an,U O m.version,Ia m.gone]] w λe w'=>∃v',e=.returned (.tuple #[v',U O (aE ms [m])])/\Below w.heap.size w w' /\
  (aE ms [m]≠0->v'=J be 0 0)/\(aE ms [m]=0->Own w.heap.size w' v' (av ms [m])):=by
 have HV:Hid (Sl w v ms):=hv;have HM:Hid m.ok:=hm;obtain⟨pa,ca,rfl,_,_⟩:=hv;obtain⟨W,hW⟩:∃W,W=((w.alloc (By #[Y m.node,Y m.bP,Y m.name,Y m.tag,U O m.addr,U O m.port,Ia m.an,U O m.version,Ia m.gone] 46)).alloc (By #[Y m.node,Y m.bP,Y m.name,Y m.tag,U O m.addr,U O m.port,Ia m.an,U O m.version,Ia m.gone] 46)).alloc (By #[Y m.node,Y m.bP,Y m.name,Y m.tag,U O m.addr,U O m.port,Ia m.an,U O m.version,Ia m.gone] 46):=⟨_,rfl⟩;have rL:Below w.heap.size w W:=by rw[hW];exact(((Below.refl _ _).alloc (Ic _) _).alloc (by simp) _).alloc (by simp;omega) _
 have MN:W.heap.size=w.heap.size+1+1+1:=by rw[hW];simp
 have hgW:W.heap[w.heap.size+1+1]?=AI (By #[Y m.node,Y m.bP,Y m.name,Y m.tag,U O m.addr,U O m.port,Ia m.an,U O m.version,Ia m.gone] 46 (0,0)):=by
  have h:=heap_alloc_new ((w.alloc (By #[Y m.node,Y m.bP,Y m.name,Y m.tag,U O m.addr,U O m.port,Ia m.an,U O m.version,Ia m.gone] 46)).alloc (By #[Y m.node,Y m.bP,Y m.name,Y m.tag,U O m.addr,U O m.port,Ia m.an,U O m.version,Ia m.gone] 46)) (By #[Y m.node,Y m.bP,Y m.name,Y m.tag,U O m.addr,U O m.port,Ia m.an,U O m.version,Ia m.gone] 46);rw[hW];simpa using h
 have HW:Hid _:=hW;clear hW hm;go_enter Tryz.func240,Tryz.ntmps240;go_wp2_with (go_at_call 271;refine(Cn m _).mono ?_;rintro e w' ⟨rfl,rfl⟩);rw[<- HW.out];refine(kb ms [m] (J pa ms.length ca) (J (AI ⟨w.heap.size+1+1,0,be⟩) 1 1) _ _ _ ?ha ?hb ?hpb ?hc0 ?hc1).mono ?_
 case ha=>exact HV.out.below (rL.alloc rL.size _)
 case hb=>exact oJ _ _ _ m HM.out ((Below.heap_alloc _ _ _ (by omega)).trans hgW)
 case hpb=>simp;omega
 case hc0=>exact(dC (by omega)).trans rfl
 case hc1=>exact(dC (by omega)).trans rfl
 rintro e w3 ⟨v',rfl,bX,pV,mU⟩;have BA:Hid _:=pV;have cJ:Hid _:=(rL.alloc rL.size _).trans (bX.mono (by simp;omega));have tv:Hid (aE ms [m]=0->Own w.heap.size w3 v' (av ms [m])):=λh=>(mU h).mono (by simp;omega);clear pV mU bX hgW MN rL;go_wp2_with fail;go_ret2;exact⟨v',rfl,cJ.out,BA.out,tv.out⟩
def A6(ms:List aY)(p:Nat)(f:Bool)(s:aY):aY:={ s with version:=(eC ms p f).version+1,gone:=false }
theorem Td{ms:List aY}{p:Nat}{f:Bool}{s:aY}(h:s.ok):(A6 ms p f s).ok:=h
def keyOf(s:aY):aY:=⟨s.node,s.bP,⟨#[]⟩,⟨#[]⟩,0,0,false,0,false⟩
theorem vG(ms:List aY)(v:Value)(s:aY)(w:World)(hv:Sl w v ms)(h0:bl ms=0)(hs:s.ok)(p:Nat)(f:Bool)(cH:At ms (keyOf s) p f) :
 Calls Tryz.prog 202 #[v,.agg #[Y s.node,Y s.bP,Y s.name,Y s.tag,U O s.addr,U O s.port,Ia s.an,U O s.version,Ia s.gone]] w λe w'=>∃v',e=.returned (.tuple #[v',U O (aE ms [A6 ms p f s])])/\Below w.heap.size w w' /\
  (aE ms [A6 ms p f s]≠0->v'=J be 0 0)/\(aE ms [A6 ms p f s]=0->Own w.heap.size w' v' (av ms [A6 ms p f s])):=by
 have he:(bl ms !=0)=false:=by simpa using h0
 have hz:=af h0;have bO:Below w.heap.size w (w.alloc (By #[Y s.node,Y s.bP,Y s.name,Y s.tag,U O s.addr,U O s.port,Ia s.an,U O s.version,Ia s.gone] 46)):=(Below.refl _ _).alloc (Ic _) _;have HV:Hid (Sl _ _ _):=hv.below bO;have HV0:Hid (Sl w v ms):=hv;have HR:Hid (bp ms):=hz.2.1;have hlen:=hz.1;have HF:Hid _:=hz.2.2;have gj:Hid _:=cH;have HS:Hid ((A6 ms p f s).ok):=hs;have HG:Hid (A6 ms p f s={ s with version:=(eC ms p f).version+1,gone:=false }):=rfl;generalize A6 ms p f s=g at *;clear hv h0 hz cH hs;go_enter Tryz.func202,Tryz.ntmps202;go_wp2_with fail;refine(bq ms _ _ HV.out).mono ?_;rintro e w1 ⟨rfl,aB⟩;have ft:w.heap.size+1<=w1.heap.size:=by have:=aB.size;simpa using this
 have t0:w1.cell? ⟨w.heap.size,0,be⟩=AI (Y s.node):=(aB.cell (p:=⟨w.heap.size,0,be⟩) (by simp)).trans ((dC rfl).trans rfl);have t1:w1.cell? ⟨w.heap.size,1,be⟩=AI (Y s.bP):=(aB.cell (p:=⟨w.heap.size,1,be⟩) (by simp)).trans ((dC rfl).trans rfl);have t2:w1.cell? ⟨w.heap.size,2,be⟩=AI (Y s.name):=(aB.cell (p:=⟨w.heap.size,2,be⟩) (by simp)).trans ((dC rfl).trans rfl);have t3:w1.cell? ⟨w.heap.size,3,be⟩=AI (Y s.tag):=(aB.cell (p:=⟨w.heap.size,3,be⟩) (by simp)).trans ((dC rfl).trans rfl);have t4:w1.cell? ⟨w.heap.size,4,be⟩=AI (U O s.addr):=(aB.cell (p:=⟨w.heap.size,4,be⟩) (by simp)).trans ((dC rfl).trans rfl);have t5:w1.cell? ⟨w.heap.size,5,be⟩=AI (U O s.port):=(aB.cell (p:=⟨w.heap.size,5,be⟩) (by simp)).trans ((dC rfl).trans rfl);have t6:w1.cell? ⟨w.heap.size,6,be⟩=AI (Ia s.an):=(aB.cell (p:=⟨w.heap.size,6,be⟩) (by simp)).trans ((dC rfl).trans rfl);have t7:w1.cell? ⟨w.heap.size,7,be⟩=AI (U O s.version):=(aB.cell (p:=⟨w.heap.size,7,be⟩) (by simp)).trans ((dC rfl).trans rfl);have t8:w1.cell? ⟨w.heap.size,8,be⟩=AI (Ia s.gone):=(aB.cell (p:=⟨w.heap.size,8,be⟩) (by simp)).trans ((dC rfl).trans rfl);have WU:∀o,w1.frozen? ⟨w.heap.size,o,be⟩=false:=λo=>(aB.frozen (p:=⟨w.heap.size,o,be⟩) (by simp)).trans (by simp);go_wp2_with fail;refine(nM ms _ s.node s.bP _ (HV.out.below aB) hlen HR.out).mono ?_;rintro e w2 ⟨p',f',rfl,aK,qY⟩;obtain⟨rfl,rfl⟩:=eN gj.out qY;have zC:=pU HF.out qY;have iv:w1.heap.size<=w2.heap.size:=aK.size;have tl:w.heap.size<w2.heap.size:=by omega
 have r0:w2.cell? ⟨w.heap.size,0,be⟩=AI (Y s.node):=(aK.cell (p:=⟨w.heap.size,0,be⟩) (by show w.heap.size<w1.heap.size;omega)).trans t0;have r1:w2.cell? ⟨w.heap.size,1,be⟩=AI (Y s.bP):=(aK.cell (p:=⟨w.heap.size,1,be⟩) (by show w.heap.size<w1.heap.size;omega)).trans t1;have r2:w2.cell? ⟨w.heap.size,2,be⟩=AI (Y s.name):=(aK.cell (p:=⟨w.heap.size,2,be⟩) (by show w.heap.size<w1.heap.size;omega)).trans t2;have r3:w2.cell? ⟨w.heap.size,3,be⟩=AI (Y s.tag):=(aK.cell (p:=⟨w.heap.size,3,be⟩) (by show w.heap.size<w1.heap.size;omega)).trans t3;have r4:w2.cell? ⟨w.heap.size,4,be⟩=AI (U O s.addr):=(aK.cell (p:=⟨w.heap.size,4,be⟩) (by show w.heap.size<w1.heap.size;omega)).trans t4;have r5:w2.cell? ⟨w.heap.size,5,be⟩=AI (U O s.port):=(aK.cell (p:=⟨w.heap.size,5,be⟩) (by show w.heap.size<w1.heap.size;omega)).trans t5;have r6:w2.cell? ⟨w.heap.size,6,be⟩=AI (Ia s.an):=(aK.cell (p:=⟨w.heap.size,6,be⟩) (by show w.heap.size<w1.heap.size;omega)).trans t6;have r7:w2.cell? ⟨w.heap.size,7,be⟩=AI (U O s.version):=(aK.cell (p:=⟨w.heap.size,7,be⟩) (by show w.heap.size<w1.heap.size;omega)).trans t7;have r8:w2.cell? ⟨w.heap.size,8,be⟩=AI (Ia s.gone):=(aK.cell (p:=⟨w.heap.size,8,be⟩) (by show w.heap.size<w1.heap.size;omega)).trans t8;have rI:∀o,w2.frozen? ⟨w.heap.size,o,be⟩=false:=λo=>(aK.frozen (p:=⟨w.heap.size,o,be⟩) (by show w.heap.size<w1.heap.size;omega)).trans (WU o);have bu:Hid (Below w.heap.size w w2):=bO.trans ((aB.trans (aK.mono aB.size)).mono (by simp));have HV2:Hid (Sl w2 v ms):=(HV.out.below aB).below aK;clear qY aB aK HV t0 t1 t2 t3 t4 t5 t6 t7 t8 WU bO;generalize eC ms p f=kn at *;obtain⟨k_node,k_idn,k_name,k_tag,k_addr,k_port,k_passing,k_version,k_gone⟩:=kn;simp only at zC;obtain⟨AX,AW⟩:=zC;go_wp2_with fail;have hg:=HG.out;refine(show Calls Tryz.prog 240 #[v,.agg #[Y g.node,Y g.bP,Y g.name,Y g.tag,U O g.addr,U O g.port,Ia g.an,U O g.version,Ia g.gone]] _ _->_ from λh=>by rw[hg] at h;exact h) ?_;have hBx:=((bu.out.setCell (p:=⟨w.heap.size,7,be⟩) (Ic _) (U O (k_version+1))).setCell (p:=⟨w.heap.size,8,be⟩) (Ic _) (Ia false)).alloc (by simp;omega) (By #[Y k_node,Y k_idn,Y k_name,Y k_tag,U O k_addr,U O k_port,Ia k_passing,U O k_version,Ia k_gone] 46);refine(rS ms v g _ (HV0.out.below hBx) HS.out).mono ?_;rintro e w3 ⟨v',rfl,bX,pV,mU⟩;have BA:Hid _:=pV;have cJ:Hid _:=hBx.trans (bX.mono (by simp;omega));have tv:Hid (aE ms [g]=0->Own w.heap.size w3 v' (av ms [g])):=λh=>(mU h).mono (by simp;omega);clear pV mU bX hBx hg;go_wp2_with fail;go_ret2;exact⟨v',rfl,cJ.out,BA.out,tv.out⟩
end Sv
namespace Sv
open Go.RowKit
theorem kt{a b:List aY}(h:aE a b=0):bl a=0/\bl b=0/\(av a b).length<=40:=by
 by_cases ha:bl a=0
 .by_cases hb:bl b=0
  .rw[iF ha hb] at h
   refine⟨ha,hb,?_⟩;split at h
   .cases h
   .omega
  .rw[lV ha hb] at h;exact absurd h hb
 .rw[oN ha] at h;exact absurd h ha
theorem nr{a b:List aY}(h:aE a b=0):bl (av a b)=0:=by
 obtain⟨ha,hb,hl⟩:=kt h;have za:=af ha;have zb:=af hb;exact ki hl (dF b a za.2.1) λm hm=>by
  rcases dW b a m hm with h|h
  .exact bf a za.2.2 m h
  .exact bf b zb.2.2 m h
theorem WV{w:World}{v:Value}{ms:List aY}(h:Sl w v ms):∀m∈ms,(m).ok:=by obtain⟨_,_,_,h,_⟩:=h;exact dy h
end Sv
namespace Sv
open Go.RowKit
def s0:aY:=⟨⟨#[110]⟩,⟨#[105]⟩,⟨#[115]⟩,⟨#[]⟩,0,0,true,0,false⟩
def s1:aY:=⟨⟨#[110]⟩,⟨#[105]⟩,⟨#[115]⟩,⟨#[]⟩,0,0,true,1,false⟩
end Sv
namespace Sv
open Go.RowKit
end Sv
end Go.Proofs.YtfidhgjmifendaaGreatDoor
