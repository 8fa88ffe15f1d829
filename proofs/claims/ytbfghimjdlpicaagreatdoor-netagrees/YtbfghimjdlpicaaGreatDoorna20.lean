import Derived.Test.YtbfghimjdlpicaaGreatDoorna18
set_option maxHeartbeats 12800000
set_option maxRecDepth 100000
open Go.Value renaming string→Y,tuple→Ip,agg→Ik,int→U,bool→Ia,slice→J
open Go.Ending renaming returned→AT
open Go.IntKind renaming i64→O
open Option renaming none→be,some→AI
open Go renaming bodyPost_ret→IL,heap_alloc_new→Ij,redrawn→Im,Regrown→JP,cell_regrown→Ih,wp_region_quiet_below→IA,wpList_append_own→IZ,maxLen→Io
open Nat renaming le_refl→Ie
open Go.Obj renaming cells→By
open Go.Proofs.Tryz renaming prog→AS,underlying41→JA
open Go.RowKit.Below renaming refl→Ib,alloc→O3,drew→O8
open Go.Sort renaming grow→Ig
open Go.Calls renaming regrown_of→IV
open Go.Addr renaming add_lit→I5
open List renaming length_append→Ii
namespace Go.Proofs.YtbfghimjdlpicaaGreatDoor
namespace Sv
open Go.RowKit
def eW(ms:List aV)(p:Nat)(f:Bool):aV:=if f=true then ms.getD p dm else dm
theorem o6(ms:List aV)(v:Value)(node bf:ByteArray)(w:World)(h:Sl w v ms)(hn:ms.length<=40)(hr:aT ms) :
 aK 231 #[v,Y node,Y bf] w λe w'=>∃(p:Nat) (f:Bool),e=AT (Ip #[Ik #[Y (eW ms p f).node,Y (eW ms p f).bf,Y (eW ms p f).name,Y (eW ms p f).tag,U O (eW ms p f).addr,U O (eW ms p f).port,Ia (eW ms p f).af,U O (eW ms p f).version,Ia (eW ms p f).gone],Ia f])/\Below w.heap.size w w'/\At ms ⟨node,bf,⟨#[]⟩,⟨#[]⟩,0,0,false,0,false⟩ p f:=by
 obtain⟨W0,bP,bK,fj,dX⟩:=bV w #[Y ⟨#[]⟩,Y ⟨#[]⟩,Y ⟨#[]⟩,Y ⟨#[]⟩,U O 0,U O 0,Ia false,U O 0,Ia false] 38;have HV:Hid (Sl W0 v ms):=h.below bK;have HF:Hid (aK 198 #[v,Ik #[Y node,Y bf,Y ⟨#[]⟩,Y ⟨#[]⟩,U O 0,U O 0,Ia false,U O 0,Ia false],.func (.func 143) #[] #[]] W0 λe w'=>∃(p:Nat) (f:Bool),e=AT (Ip #[U O p,Ia f])/\Below W0.heap.size W0 w'/\At ms ⟨node,bf,⟨#[]⟩,⟨#[]⟩,0,0,false,0,false⟩ p f):=
  gf ms v ⟨node,bf,⟨#[]⟩,⟨#[]⟩,0,0,false,0,false⟩ W0 HV.out (by omega) hr
 have vp:Hid _:=bP;clear bP h hr;go_enter Tryz.func231,Tryz.ntmps231;go_wp2_with fail;rw[<- vp.out];refine HF.out.mono ?_;rintro e w1 ⟨p,f,rfl,aC,cA⟩;have fm:Hid _:=cA;have HV1:Hid (Sl w1 v ms):=HV.out.below aC;have fO:=aC.size;have aZ:Hid _:=bK.trans (aC.mono (by omega));have cI:=(aC.block w.heap.size (by omega)).trans dX;have t0:w1.cell? ⟨w.heap.size,0,be⟩=AI (Y ⟨#[]⟩):=ae cI 0;have t1:w1.cell? ⟨w.heap.size,1,be⟩=AI (Y ⟨#[]⟩):=ae cI 1;have t2:w1.cell? ⟨w.heap.size,2,be⟩=AI (Y ⟨#[]⟩):=ae cI 2;have t3:w1.cell? ⟨w.heap.size,3,be⟩=AI (Y ⟨#[]⟩):=ae cI 3;have t4:w1.cell? ⟨w.heap.size,4,be⟩=AI (U O 0):=ae cI 4;have t5:w1.cell? ⟨w.heap.size,5,be⟩=AI (U O 0):=ae cI 5;have t6:w1.cell? ⟨w.heap.size,6,be⟩=AI (Ia false):=ae cI 6;have t7:w1.cell? ⟨w.heap.size,7,be⟩=AI (U O 0):=ae cI 7;have t8:w1.cell? ⟨w.heap.size,8,be⟩=AI (Ia false):=ae cI 8;have tm:∀o,w1.frozen? ⟨w.heap.size,o,be⟩=false:=λo=>by simp[World.frozen?,cI]
 have aX:w.heap.size<w1.heap.size:=by omega
 clear cA HF HV dX cI bK aC vp fj fO;cases f
 .go_wp2_with fail
  exact IL (v:=Ip #[Ik #[Y ⟨#[]⟩,Y ⟨#[]⟩,Y ⟨#[]⟩,Y ⟨#[]⟩,U O 0,U O 0,Ia false,U O 0,Ia false],Ia false]) (by simp[results,Tryz.results231,go_sem,t0,t1,t2,t3,t4,t5,t6,t7,t8]) rfl ⟨p,false,rfl,(((((((((aZ.out.setCell (p:=⟨w.heap.size,0,be⟩) (Ie _) _).setCell (p:=⟨w.heap.size,1,be⟩) (Ie _) _).setCell (p:=⟨w.heap.size,2,be⟩) (Ie _) _).setCell (p:=⟨w.heap.size,3,be⟩) (Ie _) _).setCell (p:=⟨w.heap.size,4,be⟩) (Ie _) _).setCell (p:=⟨w.heap.size,5,be⟩) (Ie _) _).setCell (p:=⟨w.heap.size,6,be⟩) (Ie _) _).setCell (p:=⟨w.heap.size,7,be⟩) (Ie _) _).setCell (p:=⟨w.heap.size,8,be⟩) (Ie _) _),fm.out⟩
 .have hp:=(fm.out.is.1 rfl).1
  obtain⟨a,cap,rfl,_,hsl⟩:=HV1.out;obtain⟨b,off,xl,CF,cL⟩:∃b off,a=AI ⟨b,off,be⟩/\b<w1.heap.size/\Row w1 b off ms:=by
   rcases hsl with h|h
   .rw[h] at hp;simp at hp
   .exact h
  subst xl;obtain⟨c0,c1,c2,c3,c4,c5,c6,c7,c8⟩:=cL p hp;clear cL hsl HV1;generalize hm:ms.getD p dm=m at *;have HM:Hid (eW ms p true=m):=by show eW ms p true=m;rw[eW,if_pos rfl,hm]
  clear hm;go_wp2_with fail;exact IL (v:=Ip #[Ik #[Y m.node,Y m.bf,Y m.name,Y m.tag,U O m.addr,U O m.port,Ia m.af,U O m.version,Ia m.gone],Ia true]) (by simp[results,Tryz.results231,go_sem,t0,t1,t2,t3,t4,t5,t6,t7,t8]) rfl ⟨p,true,by rw[HM.out],(((((((((aZ.out.setCell (p:=⟨w.heap.size,0,be⟩) (Ie _) _).setCell (p:=⟨w.heap.size,1,be⟩) (Ie _) _).setCell (p:=⟨w.heap.size,2,be⟩) (Ie _) _).setCell (p:=⟨w.heap.size,3,be⟩) (Ie _) _).setCell (p:=⟨w.heap.size,4,be⟩) (Ie _) _).setCell (p:=⟨w.heap.size,5,be⟩) (Ie _) _).setCell (p:=⟨w.heap.size,6,be⟩) (Ie _) _).setCell (p:=⟨w.heap.size,7,be⟩) (Ie _) _).setCell (p:=⟨w.heap.size,8,be⟩) (Ie _) _),fm.out⟩
end Sv
namespace Sv
open Go.RowKit
theorem aD{m:aV}(h:m.e=0):bl m.node=true/\bl m.bf=true/\bl m.name=true/\nu m.tag=true/\1<=m.version/\m.version<=1000000:=by
 unfold aV.e at h;split at h
 .rename_i h1
  split at h
  .rename_i h2
   simp[within] at h1 h2;exact⟨h1.1,h1.2.1,h1.2.2.1,h1.2.2.2,h2.2.2.1,h2.2.2.2⟩
  .omega
 .omega
theorem Sk{ms:List aV}(h:ba ms=0)(p:Nat)(hp:p<ms.length):(ms.getD p dm).e=0:=by
 have:=bn ms h ms[p] (List.getElem_mem hp);simpa[List.getD,List.getElem?_eq_getElem hp] using this
theorem rN{ms:List aV}{t:aV}(h:ba ms=0){p:Nat}{f:Bool}(cA:At ms t p f):0<=(eW ms p f).version/\(eW ms p f).version<=1000000:=by
 cases f
 .exact⟨by show(0:Int)<=0;omega,by show(0:Int)<=1000000;omega⟩
 .have:=(aD (Sk h p (cA.is.1 rfl).1)).2.2.2.2
  rw[eW,if_pos rfl];omega
theorem Dn(m:aV)(w:World) :
 Calls AS 268 #[Ik #[Y m.node,Y m.bf,Y m.name,Y m.tag,U O m.addr,U O m.port,Ia m.af,U O m.version,Ia m.gone]] w λe w'=>e=AT (J (AI ⟨w.heap.size+1,0,be⟩) 1 1)/\w'=(w.alloc (By #[Y m.node,Y m.bf,Y m.name,Y m.tag,U O m.addr,U O m.port,Ia m.af,U O m.version,Ia m.gone] 38)).alloc (By #[Y m.node,Y m.bf,Y m.name,Y m.tag,U O m.addr,U O m.port,Ia m.af,U O m.version,Ia m.gone] 38):=by
 go_enter Tryz.func268,Tryz.ntmps268;go_wp2;go_ret;exact⟨rfl,rfl⟩
theorem tz(ms:List aV)(v:Value)(m:aV)(w:World)(hv:Sl w v ms)(hm:m.ok) :
 Calls AS 232 #[v,Ik #[Y m.node,Y m.bf,Y m.name,Y m.tag,U O m.addr,U O m.port,Ia m.af,U O m.version,Ia m.gone]] w λe w'=>∃v',e=AT (Ip #[v',U O (aJ ms [m])])/\Below w.heap.size w w' /\
  (aJ ms [m]≠0->v'=J be 0 0)/\(aJ ms [m]=0->Own w.heap.size w' v' (aB ms [m])):=by
 have HV:Hid (Sl w v ms):=hv;have HM:Hid m.ok:=hm;obtain⟨pa,ca,rfl,_,_⟩:=hv;obtain⟨W,hW⟩:∃W,W=((w.alloc (By #[Y m.node,Y m.bf,Y m.name,Y m.tag,U O m.addr,U O m.port,Ia m.af,U O m.version,Ia m.gone] 38)).alloc (By #[Y m.node,Y m.bf,Y m.name,Y m.tag,U O m.addr,U O m.port,Ia m.af,U O m.version,Ia m.gone] 38)).alloc (By #[Y m.node,Y m.bf,Y m.name,Y m.tag,U O m.addr,U O m.port,Ia m.af,U O m.version,Ia m.gone] 38):=⟨_,rfl⟩;have tp:Below w.heap.size w W:=by rw[hW];exact(((Ib _ _).alloc (Ie _) _).alloc (by simp) _).alloc (by simp;omega) _
 have RT:W.heap.size=w.heap.size+1+1+1:=by rw[hW];simp
 have hgW:W.heap[w.heap.size+1+1]?=AI (By #[Y m.node,Y m.bf,Y m.name,Y m.tag,U O m.addr,U O m.port,Ia m.af,U O m.version,Ia m.gone] 38 (0,0)):=by
  have h:=Ij ((w.alloc (By #[Y m.node,Y m.bf,Y m.name,Y m.tag,U O m.addr,U O m.port,Ia m.af,U O m.version,Ia m.gone] 38)).alloc (By #[Y m.node,Y m.bf,Y m.name,Y m.tag,U O m.addr,U O m.port,Ia m.af,U O m.version,Ia m.gone] 38)) (By #[Y m.node,Y m.bf,Y m.name,Y m.tag,U O m.addr,U O m.port,Ia m.af,U O m.version,Ia m.gone] 38);rw[hW];simpa using h
 have HW:Hid _:=hW;clear hW hm;go_enter Tryz.func232,Tryz.ntmps232;go_wp2_with (go_at_call 268;refine(Dn m _).mono ?_;rintro e w' ⟨rfl,rfl⟩);rw[<- HW.out];refine(kW ms [m] (J pa ms.length ca) (J (AI ⟨w.heap.size+1+1,0,be⟩) 1 1) _ _ _ ?ha ?hb ?hpb ?hc0 ?hc1).mono ?_
 case ha=>exact HV.out.below (tp.alloc tp.size _)
 case hb=>exact pY _ _ _ m HM.out ((Below.heap_alloc _ _ _ (by omega)).trans hgW)
 case hpb=>simp;omega
 case hc0=>exact(dR (by omega)).trans rfl
 case hc1=>exact(dR (by omega)).trans rfl
 rintro e w3 ⟨v',rfl,bY,rO,oz⟩;have Dp:Hid _:=rO;have cF:Hid _:=(tp.alloc tp.size _).trans (bY.mono (by simp;omega));have vq:Hid (aJ ms [m]=0->Own w.heap.size w3 v' (aB ms [m])):=λh=>(oz h).mono (by simp;omega);clear rO oz bY hgW RT tp;go_wp2_with fail;go_ret2;exact⟨v',rfl,cF.out,Dp.out,vq.out⟩
def Cq(ms:List aV)(p:Nat)(f:Bool)(s:aV):aV:={ s with version:=(eW ms p f).version+1,gone:=false }
theorem WM{ms:List aV}{p:Nat}{f:Bool}{s:aV}(h:s.ok):(Cq ms p f s).ok:=h
def keyOf(s:aV):aV:=⟨s.node,s.bf,⟨#[]⟩,⟨#[]⟩,0,0,false,0,false⟩
theorem xo(ms:List aV)(v:Value)(s:aV)(w:World)(hv:Sl w v ms)(h0:bp ms=0)(hs:s.ok)(p:Nat)(f:Bool)(cA:At ms (keyOf s) p f) :
 Calls AS 187 #[v,Ik #[Y s.node,Y s.bf,Y s.name,Y s.tag,U O s.addr,U O s.port,Ia s.af,U O s.version,Ia s.gone]] w λe w'=>∃v',e=AT (Ip #[v',U O (aJ ms [Cq ms p f s])])/\Below w.heap.size w w' /\
  (aJ ms [Cq ms p f s]≠0->v'=J be 0 0)/\(aJ ms [Cq ms p f s]=0->Own w.heap.size w' v' (aB ms [Cq ms p f s])):=by
 have he:(bp ms !=0)=false:=by simpa using h0
 have hz:=aj h0;have bK:Below w.heap.size w (w.alloc (By #[Y s.node,Y s.bf,Y s.name,Y s.tag,U O s.addr,U O s.port,Ia s.af,U O s.version,Ia s.gone] 38)):=(Ib _ _).alloc (Ie _) _;have HV:Hid (Sl _ _ _):=hv.below bK;have HV0:Hid (Sl w v ms):=hv;have HR:Hid (aT ms):=hz.2.1;have hlen:=hz.1;have HF:Hid _:=hz.2.2;have fm:Hid _:=cA;have HS:Hid ((Cq ms p f s).ok):=hs;have HG:Hid (Cq ms p f s={ s with version:=(eW ms p f).version+1,gone:=false }):=rfl;generalize Cq ms p f s=g at *;clear hv h0 hz cA hs;go_enter Tryz.func187,Tryz.ntmps187;go_wp2_with fail;refine(bD ms _ _ HV.out).mono ?_;rintro e w1 ⟨rfl,aC⟩;have fO:w.heap.size+1<=w1.heap.size:=by have:=aC.size;simpa using this
 have t0:w1.cell? ⟨w.heap.size,0,be⟩=AI (Y s.node):=(aC.cell (p:=⟨w.heap.size,0,be⟩) (by simp)).trans ((dR rfl).trans rfl);have t1:w1.cell? ⟨w.heap.size,1,be⟩=AI (Y s.bf):=(aC.cell (p:=⟨w.heap.size,1,be⟩) (by simp)).trans ((dR rfl).trans rfl);have t2:w1.cell? ⟨w.heap.size,2,be⟩=AI (Y s.name):=(aC.cell (p:=⟨w.heap.size,2,be⟩) (by simp)).trans ((dR rfl).trans rfl);have t3:w1.cell? ⟨w.heap.size,3,be⟩=AI (Y s.tag):=(aC.cell (p:=⟨w.heap.size,3,be⟩) (by simp)).trans ((dR rfl).trans rfl);have t4:w1.cell? ⟨w.heap.size,4,be⟩=AI (U O s.addr):=(aC.cell (p:=⟨w.heap.size,4,be⟩) (by simp)).trans ((dR rfl).trans rfl);have t5:w1.cell? ⟨w.heap.size,5,be⟩=AI (U O s.port):=(aC.cell (p:=⟨w.heap.size,5,be⟩) (by simp)).trans ((dR rfl).trans rfl);have t6:w1.cell? ⟨w.heap.size,6,be⟩=AI (Ia s.af):=(aC.cell (p:=⟨w.heap.size,6,be⟩) (by simp)).trans ((dR rfl).trans rfl);have t7:w1.cell? ⟨w.heap.size,7,be⟩=AI (U O s.version):=(aC.cell (p:=⟨w.heap.size,7,be⟩) (by simp)).trans ((dR rfl).trans rfl);have t8:w1.cell? ⟨w.heap.size,8,be⟩=AI (Ia s.gone):=(aC.cell (p:=⟨w.heap.size,8,be⟩) (by simp)).trans ((dR rfl).trans rfl);have abX:∀o,w1.frozen? ⟨w.heap.size,o,be⟩=false:=λo=>(aC.frozen (p:=⟨w.heap.size,o,be⟩) (by simp)).trans (by simp);go_wp2_with fail;refine(o6 ms _ s.node s.bf _ (HV.out.below aC) hlen HR.out).mono ?_;rintro e w2 ⟨p',f',rfl,aL,sN⟩;obtain⟨rfl,rfl⟩:=eZ fm.out sN;have Bq:=rN HF.out sN;have jb:w1.heap.size<=w2.heap.size:=aL.size;have uS:w.heap.size<w2.heap.size:=by omega
 have r0:w2.cell? ⟨w.heap.size,0,be⟩=AI (Y s.node):=(aL.cell (p:=⟨w.heap.size,0,be⟩) (by show w.heap.size<w1.heap.size;omega)).trans t0;have r1:w2.cell? ⟨w.heap.size,1,be⟩=AI (Y s.bf):=(aL.cell (p:=⟨w.heap.size,1,be⟩) (by show w.heap.size<w1.heap.size;omega)).trans t1;have r2:w2.cell? ⟨w.heap.size,2,be⟩=AI (Y s.name):=(aL.cell (p:=⟨w.heap.size,2,be⟩) (by show w.heap.size<w1.heap.size;omega)).trans t2;have r3:w2.cell? ⟨w.heap.size,3,be⟩=AI (Y s.tag):=(aL.cell (p:=⟨w.heap.size,3,be⟩) (by show w.heap.size<w1.heap.size;omega)).trans t3;have r4:w2.cell? ⟨w.heap.size,4,be⟩=AI (U O s.addr):=(aL.cell (p:=⟨w.heap.size,4,be⟩) (by show w.heap.size<w1.heap.size;omega)).trans t4;have r5:w2.cell? ⟨w.heap.size,5,be⟩=AI (U O s.port):=(aL.cell (p:=⟨w.heap.size,5,be⟩) (by show w.heap.size<w1.heap.size;omega)).trans t5;have r6:w2.cell? ⟨w.heap.size,6,be⟩=AI (Ia s.af):=(aL.cell (p:=⟨w.heap.size,6,be⟩) (by show w.heap.size<w1.heap.size;omega)).trans t6;have r7:w2.cell? ⟨w.heap.size,7,be⟩=AI (U O s.version):=(aL.cell (p:=⟨w.heap.size,7,be⟩) (by show w.heap.size<w1.heap.size;omega)).trans t7;have r8:w2.cell? ⟨w.heap.size,8,be⟩=AI (Ia s.gone):=(aL.cell (p:=⟨w.heap.size,8,be⟩) (by show w.heap.size<w1.heap.size;omega)).trans t8;have tm:∀o,w2.frozen? ⟨w.heap.size,o,be⟩=false:=λo=>(aL.frozen (p:=⟨w.heap.size,o,be⟩) (by show w.heap.size<w1.heap.size;omega)).trans (abX o);have bA:Hid (Below w.heap.size w w2):=bK.trans ((aC.trans (aL.mono aC.size)).mono (by simp));have HV2:Hid (Sl w2 v ms):=(HV.out.below aC).below aL;clear sN aC aL HV t0 t1 t2 t3 t4 t5 t6 t7 t8 abX bK;generalize eW ms p f=kn at *;obtain⟨k_node,k_idn,k_name,k_tag,k_addr,k_port,k_passing,k_version,k_gone⟩:=kn;simp only at Bq;obtain⟨Cr,Co⟩:=Bq;go_wp2_with fail;have hg:=HG.out;refine(show Calls AS 232 #[v,Ik #[Y g.node,Y g.bf,Y g.name,Y g.tag,U O g.addr,U O g.port,Ia g.af,U O g.version,Ia g.gone]] _ _->_ from λh=>by rw[hg] at h;exact h) ?_;have hBx:=((bA.out.setCell (p:=⟨w.heap.size,7,be⟩) (Ie _) (U O (k_version+1))).setCell (p:=⟨w.heap.size,8,be⟩) (Ie _) (Ia false)).alloc (by simp;omega) (By #[Y k_node,Y k_idn,Y k_name,Y k_tag,U O k_addr,U O k_port,Ia k_passing,U O k_version,Ia k_gone] 38);refine(tz ms v g _ (HV0.out.below hBx) HS.out).mono ?_;rintro e w3 ⟨v',rfl,bY,rO,oz⟩;have Dp:Hid _:=rO;have cF:Hid _:=hBx.trans (bY.mono (by simp;omega));have vq:Hid (aJ ms [g]=0->Own w.heap.size w3 v' (aB ms [g])):=λh=>(oz h).mono (by simp;omega);clear rO oz bY hBx hg;go_wp2_with fail;go_ret2;exact⟨v',rfl,cF.out,Dp.out,vq.out⟩
end Sv
namespace Sv
open Go.RowKit
theorem kY{a b:List aV}(h:aJ a b=0):bp a=0/\bp b=0/\(aB a b).length<=40:=by
 by_cases ha:bp a=0
 .by_cases hb:bp b=0
  .rw[gj ha hb] at h
   refine⟨ha,hb,?_⟩;split at h
   .cases h
   .omega
  .rw[ni ha hb] at h;exact absurd h hb
 .rw[qE ha] at h;exact absurd h ha
theorem oA{a b:List aV}(h:aJ a b=0):bp (aB a b)=0:=by
 obtain⟨ha,hb,hl⟩:=kY h;have za:=aj ha;have zb:=aj hb;exact kT hl (dz b a za.2.1) λm hm=>by
  rcases dJ b a m hm with h|h
  .exact bn a za.2.2 m h
  .exact bn b zb.2.2 m h
theorem Vi{w:World}{v:Value}{ms:List aV}(h:Sl w v ms):∀m∈ms,(m).ok:=by obtain⟨_,_,_,h,_⟩:=h;exact dI h
end Sv
namespace Sv
open Go.RowKit
def s0:aV:=⟨⟨#[110]⟩,⟨#[105]⟩,⟨#[115]⟩,⟨#[]⟩,0,0,true,0,false⟩
def s1:aV:=⟨⟨#[110]⟩,⟨#[105]⟩,⟨#[115]⟩,⟨#[]⟩,0,0,true,1,false⟩
end Sv
namespace Sv
open Go.RowKit
theorem WN(m:aV):m.e=if bl m.node=true then(if bl m.bf=true then(if bl m.name=true then(if nu m.tag=true then(if within m.addr 0 4294967295=true then(if within m.port 0 65535=true then(if within m.version 1 1000000=true then 0 else 3) else 3) else 3) else 1) else 1) else 1) else 1:=by
 unfold aV.e;cases bl m.node<;>cases bl m.bf<;>cases bl m.name<;>cases nu m.tag<;>cases within m.addr 0 4294967295<;>cases within m.port 0 65535<;>cases within m.version 1 1000000<;>rfl
end Sv
namespace Sv
open Go.RowKit
theorem WO(a b:aV):decide (ord a b<0)=(less a.node b.node||(a.node.toList==b.node.toList&&less a.bf b.bf)):=by
 have hd:ord a b=if bW a.node b.node=0 then bW a.bf b.bf else bW a.node b.node:=rfl;rw[hd];by_cases he:a.node=b.node
 .have h0:=(bL _ _).2 he
  rw[if_pos h0,he,ep,Bool.eq_iff_iff,decide_eq_true_eq,fq];simp
 .have h0:¬ bW a.node b.node=0:=λh=>he ((bL _ _).1 h)
  rw[if_neg h0,(fb he).1,Bool.false_and,Bool.or_false,Bool.eq_iff_iff,decide_eq_true_eq,fq]
theorem sO(a b:aV)(w:World) :
 ly 94 #[Ik #[Y a.node,Y a.bf,Y a.name,Y a.tag,U O a.addr,U O a.port,Ia a.af,U O a.version,Ia a.gone],Ik #[Y b.node,Y b.bf,Y b.name,Y b.tag,U O b.addr,U O b.port,Ia b.af,U O b.version,Ia b.gone]] w (Ia (decide (ord a b<0))):=by
 have hB:Hid (Below w.heap.size w ((w.alloc (By #[Y a.node,Y a.bf,Y a.name,Y a.tag,U O a.addr,U O a.port,Ia a.af,U O a.version,Ia a.gone] 38)).alloc (By #[Y b.node,Y b.bf,Y b.name,Y b.tag,U O b.addr,U O b.port,Ia b.af,U O b.version,Ia b.gone] 38))):=((Ib _ _).alloc (Ie _) _).alloc (by simp) _;have HD:Hid (decide (ord a b<0)=(less a.node b.node||(a.node.toList==b.node.toList&&less a.bf b.bf))):=WO a b;generalize decide (ord a b<0)=res at *;rcases h1:Op.bytesLess a.node.toList b.node.toList with _|_
 .rcases h2:(a.node.toList==b.node.toList) with _|_
  .have h3:¬ a.node.toList=b.node.toList:=by simpa using h2
   have HR:Hid (res=false):=(show res=false by rw[HD.out,h2];simp[less,h1]);go_enter Tryz.func94,Tryz.ntmps94;go_wp2;go_ret;exact⟨aW HR.out.symm,hB.out⟩
  .have h3:a.node.toList=b.node.toList:=by simpa using h2
   have HR:Hid (res=Op.bytesLess a.bf.toList b.bf.toList):=(show res=_ by rw[HD.out,h2];simp[less,h1]);rw[h3] at h1;go_enter Tryz.func94,Tryz.ntmps94;go_wp2;go_ret;exact⟨aW HR.out.symm,hB.out⟩
 .have HR:Hid (res=true):=(show res=true by rw[HD.out];simp[less,h1])
  go_enter Tryz.func94,Tryz.ntmps94;go_wp2;go_ret;exact⟨aW HR.out.symm,hB.out⟩
end Sv
namespace Sv
open Go.RowKit
theorem Dq{a b:aV}(h:ord a b≠0):((a.node.toList==b.node.toList)=false/\¬ a.node.toList=b.node.toList)\/((a.node.toList==b.node.toList)=true/\a.node.toList=b.node.toList/\(a.bf.toList==b.bf.toList)=false/\¬ a.bf.toList=b.bf.toList):=by
 by_cases h1:a.node=b.node
 .right
  have h2:a.bf≠b.bf:=λe=>h (by
   show(if bW a.node b.node=0 then bW a.bf b.bf else bW a.node b.node)=0;rw[if_pos ((bL _ _).2 h1)];exact(bL _ _).2 e)
  have h3:a.node.toList=b.node.toList:=by rw[h1]
  exact⟨by rw[h3];simp,h3,(fb h2).1,(fb h2).2⟩
 .exact .inl (fb h1)
theorem WQ{a b:aV}(h:ord a b=0):(a.node.toList==b.node.toList)=true/\a.node.toList=b.node.toList/\(a.bf.toList==b.bf.toList)=true/\a.bf.toList=b.bf.toList:=by
 obtain⟨h1,h2⟩:=RL.fF h;have e1:=(bL _ _).1 h1;have e2:=(bL _ _).1 h2;rw[e1,e2];simp
theorem Dr(ms:List aV)(v:Value)(m:aV)(w:World)(hv:Sl w v ms)(hn:ms.length<=1000)(hr:aT ms)(p:Nat)(f:Bool)(cA:At ms m p f) :
 aK 45 #[v,Ik #[Y m.node,Y m.bf,Y m.name,Y m.tag,U O m.addr,U O m.port,Ia m.af,U O m.version,Ia m.gone]] w λe w'=>∃v',e=AT v'/\Own (w.heap.size+1) w' v' (RL.put ms m p f)/\Below w.heap.size w w':=by
 obtain⟨i0,fH,dt,gJ,gB⟩:=info_parts Tryz.qH;have bK:Below w.heap.size w (w.alloc (By #[Y m.node,Y m.bf,Y m.name,Y m.tag,U O m.addr,U O m.port,Ia m.af,U O m.version,Ia m.gone] 38)):=(Ib _ _).alloc (Ie _) _;have HR:Hid (aT ms):=hr;have fm:Hid (At ms m p f):=cA;have xa:=cA.le;obtain⟨pa,ca,rfl,_,ha⟩:=hv;have LK:Hid _:=ha;clear ha cA hr;generalize tu:ms.length=n at *;have HN:Hid (ms.length=n):=tu;clear tu;obtain⟨q,hq⟩:∃q,q=if f=true then p+1 else p:=⟨_,rfl⟩;have HQ:Hid (q=if f=true then p+1 else p):=hq;have hqp:q<=p+1:=by rw[hq];split<;>omega
 clear hq;have abY:Hid (p<n->RL.fo ms m p q n=RL.put ms m p f):=λh=>by rw[HQ.out,<- HN.out];exact RL.RD (by rw[HN.out];exact h)
 have Vj:Hid (p=n->f=false/\RL.fo ms m p q n++[m]=RL.put ms m p f):=λh=>by
  have hf:f=false:=by
   cases f
   .rfl
   .have:=(fm.out.is.1 rfl).1;have:=HN.out;omega
  subst hf;exact⟨rfl,by rw[<- HN.out];exact RL.Mf (by rw[HN.out];exact h)⟩
 go_enter Tryz.func45,Tryz.ntmps45;go_wp2_with fail;obtain⟨W1,db,-,fO,cI⟩:=bV w #[Y m.node,Y m.bf,Y m.name,Y m.tag,U O m.addr,U O m.port,Ia m.af,U O m.version,Ia m.gone] 38;have d0:W1.cell? ⟨w.heap.size,0,be⟩=AI (Y m.node):=ae cI 0;have d1:W1.cell? ⟨w.heap.size,1,be⟩=AI (Y m.bf):=ae cI 1;have d2:W1.cell? ⟨w.heap.size,2,be⟩=AI (Y m.name):=ae cI 2;have d3:W1.cell? ⟨w.heap.size,3,be⟩=AI (Y m.tag):=ae cI 3;have d4:W1.cell? ⟨w.heap.size,4,be⟩=AI (U O m.addr):=ae cI 4;have d5:W1.cell? ⟨w.heap.size,5,be⟩=AI (U O m.port):=ae cI 5;have d6:W1.cell? ⟨w.heap.size,6,be⟩=AI (Ia m.af):=ae cI 6;have d7:W1.cell? ⟨w.heap.size,7,be⟩=AI (U O m.version):=ae cI 7;have d8:W1.cell? ⟨w.heap.size,8,be⟩=AI (Ia m.gone):=ae cI 8;have Ds:Hid (Below w.heap.size w W1):=by rw[db];exact bK
 have pD:Hid (W1=w.alloc (By #[Y m.node,Y m.bf,Y m.name,Y m.tag,U O m.addr,U O m.port,Ia m.af,U O m.version,Ia m.gone] 38)):=db;have HA:Hid (ms=[]\/∃b off,pa=AI ⟨b,off,be⟩/\b<w.heap.size+1/\Row W1 b off ms):=by
  rcases LK.out with h|⟨b,off,h1,h2,h3⟩
  .exact .inl h
  .exact .inr ⟨b,off,h1,by omega,h3.later Ds.out h2⟩
 clear db cI bK LK;have nR:w.heap.size<w.heap.size+1:=by omega
 go_loopw [5,6,7] (λkn b i w'=>∃(k:Nat) (bb:Bool),k<=n/\i=U O k/\b=Ia bb/\Hid (bb=true↔p<k)/\Below (w.heap.size+1) W1 w'/\Hid (Own (w.heap.size+1) w' kn (RL.fo ms m p q k))) (λ_ _ i _=>n-(intOf i).toNat)
 case atStart=>exact⟨0,false,Nat.zero_le _,rfl,rfl,⟨λh=>(by cases h),λh=>(by omega)⟩,by rw[pD.out];exact Ib _ _,cv _ _⟩
 case round=>
  obtain⟨k,bb,hk,rfl,rfl,LG,aO,HO⟩:=hrel;have cK:∀b o,b<w.heap.size+1->wr.cell? ⟨b,o,be⟩=W1.cell? ⟨b,o,be⟩:=λb o h=>aO.cell (p:=⟨b,o,be⟩) h;have cB:=aO.size;have hlen:=RL.Me (ms:=ms) (m:=m) (p:=p) (q:=q) (k:=k);have abZ:(RL.fo ms m p q k).length<=2001:=by have:=HN.out;omega
  clear hlen;by_cases aX:k<n
  .obtain⟨b1,o1,ru,kb,ku⟩:∃b off,pa=AI ⟨b,off,be⟩/\b<w.heap.size+1/\Row W1 b off ms:=by
    rcases HA.out with h|h
    .have:=HN.out;rw[h] at this;simp at this;omega
    .exact h
   subst ru;obtain⟨c0,c1,c2,c3,c4,c5,c6,c7,c8⟩:=ku k (by rw[HN.out];exact aX);clear ku;have ie:k<ms.length:=by rw[HN.out];exact aX
   have Wy:Hid (k<p->RL.fo ms m p q (k+1)=RL.fo ms m p q k++[ms.getD k dm]/\ord (ms.getD k dm) m<0):=λh=>⟨RL.Ry dm h ie,fm.out.lo k h⟩;have HHI:Hid (p<k->RL.fo ms m p q (k+1)=RL.fo ms m p q k++[ms.getD k dm]/\0<ord (ms.getD k dm) m):=λh=>⟨RL.RC dm h (by omega) ie,RL.Mc ord dm keyed fm.out HR.out k h ie⟩;have Fi:Hid (k=p->f=true->RL.fo ms m p q (k+1)=RL.fo ms m p q k++[m]/\ord (ms.getD k dm) m=0):=λh hf=>by
    have hq:q=p+1:=HQ.out.trans (if_pos hf);rw[hq,h];exact⟨RL.Rz,(fm.out.is.1 hf).2⟩
   have Vb:Hid (k=p->f=false->RL.fo ms m p q (k+1)=(RL.fo ms m p q k++[m])++[ms.getD k dm]/\0<ord (ms.getD k dm) m):=λh hf=>by
    have hq:q=p:=HQ.out.trans (if_neg (by rw[hf];exact Bool.false_ne_true));rw[hq,h];refine⟨RL.RB dm (by omega),?_⟩;have h1:=fm.out.hi p (Ie _) (by omega);have h2:¬ ord (ms.getD p dm) m=0:=λe=>by have:=fm.out.is.2 ⟨by omega,e⟩;rw[hf] at this;cases this
    omega
   generalize ms.getD k dm=mk at *;rcases Nat.lt_trichotomy k p with oo|oo|oo
   .have kj:bb=false:=by
     cases bb
     .rfl
     .have:=LG.out.1 rfl;omega
    subst kj;obtain⟨hO,AB⟩:=Wy.out oo;have WR:Hid _:=hO;have aP:=Dq (by omega:ord mk m≠0);have HDO:Hid (decide (ord mk m<0)=true):=decide_eq_true AB;clear hO AB Wy HHI Fi Vb LG;generalize RL.fo ms m p q k=L at *;rcases aP with⟨Bl,Dg⟩|⟨he1,Vk,Bl,Dg⟩;all_goals
     have hN:∀d os,aK 94 #[Ik #[Y mk.node,Y mk.bf,Y mk.name,Y mk.tag,U O mk.addr,U O mk.port,Ia mk.af,U O mk.version,Ia mk.gone],Ik #[Y m.node,Y m.bf,Y m.name,Y m.tag,U O m.addr,U O m.port,Ia m.af,U O m.version,Ia m.gone]] (Ig (Im wr d) os) λe fR=>e=AT (Ia true)/\∃p:JP,fR=Ig (Im wr p.d) p.os:=λd os=>IV ((sO mk m _).mono (by rintro e w' ⟨rfl,h⟩;exact⟨by rw[HDO.out],h⟩));have F0:∀d os,(Ig (Im wr d) os).cell? ⟨b1,o1+k*9,be⟩=AI (Y mk.node):=Ih ((cK _ _ kb).trans c0);have F1:∀d os,(Ig (Im wr d) os).cell? ⟨b1,o1+k*9+1,be⟩=AI (Y mk.bf):=Ih ((cK _ _ kb).trans c1);have F2:∀d os,(Ig (Im wr d) os).cell? ⟨b1,o1+k*9+2,be⟩=AI (Y mk.name):=Ih ((cK _ _ kb).trans c2);have F3:∀d os,(Ig (Im wr d) os).cell? ⟨b1,o1+k*9+3,be⟩=AI (Y mk.tag):=Ih ((cK _ _ kb).trans c3);have F4:∀d os,(Ig (Im wr d) os).cell? ⟨b1,o1+k*9+4,be⟩=AI (U O mk.addr):=Ih ((cK _ _ kb).trans c4);have F5:∀d os,(Ig (Im wr d) os).cell? ⟨b1,o1+k*9+5,be⟩=AI (U O mk.port):=Ih ((cK _ _ kb).trans c5);have F6:∀d os,(Ig (Im wr d) os).cell? ⟨b1,o1+k*9+6,be⟩=AI (Ia mk.af):=Ih ((cK _ _ kb).trans c6);have F7:∀d os,(Ig (Im wr d) os).cell? ⟨b1,o1+k*9+7,be⟩=AI (U O mk.version):=Ih ((cK _ _ kb).trans c7);have F8:∀d os,(Ig (Im wr d) os).cell? ⟨b1,o1+k*9+8,be⟩=AI (Ia mk.gone):=Ih ((cK _ _ kb).trans c8);have G0:∀d os,(Ig (Im wr d) os).cell? ⟨w.heap.size,0,be⟩=AI (Y m.node):=Ih ((cK _ _ nR).trans d0);have G1:∀d os,(Ig (Im wr d) os).cell? ⟨w.heap.size,1,be⟩=AI (Y m.bf):=Ih ((cK _ _ nR).trans d1);have G2:∀d os,(Ig (Im wr d) os).cell? ⟨w.heap.size,2,be⟩=AI (Y m.name):=Ih ((cK _ _ nR).trans d2);have G3:∀d os,(Ig (Im wr d) os).cell? ⟨w.heap.size,3,be⟩=AI (Y m.tag):=Ih ((cK _ _ nR).trans d3);have G4:∀d os,(Ig (Im wr d) os).cell? ⟨w.heap.size,4,be⟩=AI (U O m.addr):=Ih ((cK _ _ nR).trans d4);have G5:∀d os,(Ig (Im wr d) os).cell? ⟨w.heap.size,5,be⟩=AI (U O m.port):=Ih ((cK _ _ nR).trans d5);have G6:∀d os,(Ig (Im wr d) os).cell? ⟨w.heap.size,6,be⟩=AI (Ia m.af):=Ih ((cK _ _ nR).trans d6);have G7:∀d os,(Ig (Im wr d) os).cell? ⟨w.heap.size,7,be⟩=AI (U O m.version):=Ih ((cK _ _ nR).trans d7);have G8:∀d os,(Ig (Im wr d) os).cell? ⟨w.heap.size,8,be⟩=AI (Ia m.gone):=Ih ((cK _ _ nR).trans d8);go_wp2_with fail;refine IA (by kernel_rfl) (by kernel_rfl) ?_;repeat(quiet_step (exact hN _ _))
     refine bu λdq gW dF=>?_;clear hN F0 F1 F2 F3 F4 F5 F6 F7 F8 G0 G1 G2 G3 G4 G5 G6 G7 G8;generalize Ig (Im wr dq) gW=wq at *;have mr:Below (w.heap.size+1) W1 wq:=aO.trans (dF.out.mono (by omega));have Cs:Hid (Own (w.heap.size+1) wq u5 L):=HO.out.below dF.out;have qI:∀b o,b<w.heap.size+1->wq.cell? ⟨b,o,be⟩=W1.cell? ⟨b,o,be⟩:=λb o h=>mr.cell (p:=⟨b,o,be⟩) h;have xp:=mr.size;clear aO cK cB HO dF;go_wp2_with fail;go_quiet (fail)
     go_wp2_with (at_builtin;refine IZ _ rfl _ _ 41 rfl (w.heap.size+1) 38 i0 _ 9 104 JA fH dt gJ gB rfl (by omega) _ (L).length (fl (L)) rfl ?hown ⟨wq.heap.size,0,be⟩ 1 1 (mk).cs rfl rfl ?hnews (cX _) ?h63 ?hbytes ?hbase ?_)
     case hown=>(refine Cs.out.below ?_;repeat(first|exact Ib _ _|refine below_drewN ?_ _|refine O3 ?_ (by simp) _|refine O8 ?_))
     case hnews=>(intro j u hj;rw[I5];exact(ae (Ij wq (By #[Y mk.node,Y mk.bf,Y mk.name,Y mk.tag,U O mk.addr,U O mk.port,Ia mk.af,U O mk.version,Ia mk.gone] 38)) (0+j)).trans (by simpa[aV.cs] using hj))
     case h63=>(unfold Io;omega)
     case hbytes=>omega
     case hbase=>(simp;omega)
     intro v' w2 r1 r2 r3;have jF:Hid (Below (w.heap.size+1) W1 w2):=by
      have h0:Below (w.heap.size+1) W1 (wq.alloc (By #[Y mk.node,Y mk.bf,Y mk.name,Y mk.tag,U O mk.addr,U O mk.port,Ia mk.af,U O mk.version,Ia mk.gone] 38)):=mr.alloc (by omega) _;exact h0.trans ((Ib _ _).grown (w:=wq.alloc (By #[Y mk.node,Y mk.bf,Y mk.name,Y mk.tag,U O mk.addr,U O mk.port,Ia mk.af,U O mk.version,Ia mk.gone] 38)) ⟨r2.os,r2.tape,r2.output,r2.size,r2.block⟩ (by simp;omega) (λj hj=>(Cs.out.lt j hj).1))
     have LL:Hid (Own (w.heap.size+1) w2 v' (L++[mk])):=fe (by first|exact r1|(rw[Ii];exact r1));clear r1 r2 r3;go_wp2_with fail;exact⟨⟨k+1,false,by omega,by go_num,rfl,⟨λh=>(by cases h),λh=>(by omega)⟩,jF.out,(by rw[WR.out];exact LL.out)⟩,by simp[intOf];omega⟩
   .have kj:bb=false:=by
     cases bb
     .rfl
     .have:=LG.out.1 rfl;omega
    subst kj;have aoG:p<=k:=by omega
    have aoH:k<=p:=by omega
    have HKP:Hid (k=p):=oo;clear oo;cases f
    .obtain⟨hO,AB⟩:=Vb.out HKP.out rfl
     have WR:Hid _:=hO;have aP:=Dq (by omega:ord mk m≠0);have HDO:Hid (decide (ord mk m<0)=false):=decide_eq_false (by omega);clear hO AB Wy HHI Fi Vb LG;generalize RL.fo ms m p q k=L at *;rcases aP with⟨Bl,Dg⟩|⟨he1,Vk,Bl,Dg⟩;all_goals
      have hN:∀d os,aK 94 #[Ik #[Y mk.node,Y mk.bf,Y mk.name,Y mk.tag,U O mk.addr,U O mk.port,Ia mk.af,U O mk.version,Ia mk.gone],Ik #[Y m.node,Y m.bf,Y m.name,Y m.tag,U O m.addr,U O m.port,Ia m.af,U O m.version,Ia m.gone]] (Ig (Im wr d) os) λe fR=>e=AT (Ia false)/\∃p:JP,fR=Ig (Im wr p.d) p.os:=λd os=>IV ((sO mk m _).mono (by rintro e w' ⟨rfl,h⟩;exact⟨by rw[HDO.out],h⟩));have F0:∀d os,(Ig (Im wr d) os).cell? ⟨b1,o1+k*9,be⟩=AI (Y mk.node):=Ih ((cK _ _ kb).trans c0);have F1:∀d os,(Ig (Im wr d) os).cell? ⟨b1,o1+k*9+1,be⟩=AI (Y mk.bf):=Ih ((cK _ _ kb).trans c1);have F2:∀d os,(Ig (Im wr d) os).cell? ⟨b1,o1+k*9+2,be⟩=AI (Y mk.name):=Ih ((cK _ _ kb).trans c2);have F3:∀d os,(Ig (Im wr d) os).cell? ⟨b1,o1+k*9+3,be⟩=AI (Y mk.tag):=Ih ((cK _ _ kb).trans c3);have F4:∀d os,(Ig (Im wr d) os).cell? ⟨b1,o1+k*9+4,be⟩=AI (U O mk.addr):=Ih ((cK _ _ kb).trans c4);have F5:∀d os,(Ig (Im wr d) os).cell? ⟨b1,o1+k*9+5,be⟩=AI (U O mk.port):=Ih ((cK _ _ kb).trans c5);have F6:∀d os,(Ig (Im wr d) os).cell? ⟨b1,o1+k*9+6,be⟩=AI (Ia mk.af):=Ih ((cK _ _ kb).trans c6);have F7:∀d os,(Ig (Im wr d) os).cell? ⟨b1,o1+k*9+7,be⟩=AI (U O mk.version):=Ih ((cK _ _ kb).trans c7);have F8:∀d os,(Ig (Im wr d) os).cell? ⟨b1,o1+k*9+8,be⟩=AI (Ia mk.gone):=Ih ((cK _ _ kb).trans c8);have G0:∀d os,(Ig (Im wr d) os).cell? ⟨w.heap.size,0,be⟩=AI (Y m.node):=Ih ((cK _ _ nR).trans d0);have G1:∀d os,(Ig (Im wr d) os).cell? ⟨w.heap.size,1,be⟩=AI (Y m.bf):=Ih ((cK _ _ nR).trans d1);have G2:∀d os,(Ig (Im wr d) os).cell? ⟨w.heap.size,2,be⟩=AI (Y m.name):=Ih ((cK _ _ nR).trans d2);have G3:∀d os,(Ig (Im wr d) os).cell? ⟨w.heap.size,3,be⟩=AI (Y m.tag):=Ih ((cK _ _ nR).trans d3);have G4:∀d os,(Ig (Im wr d) os).cell? ⟨w.heap.size,4,be⟩=AI (U O m.addr):=Ih ((cK _ _ nR).trans d4);have G5:∀d os,(Ig (Im wr d) os).cell? ⟨w.heap.size,5,be⟩=AI (U O m.port):=Ih ((cK _ _ nR).trans d5);have G6:∀d os,(Ig (Im wr d) os).cell? ⟨w.heap.size,6,be⟩=AI (Ia m.af):=Ih ((cK _ _ nR).trans d6);have G7:∀d os,(Ig (Im wr d) os).cell? ⟨w.heap.size,7,be⟩=AI (U O m.version):=Ih ((cK _ _ nR).trans d7);have G8:∀d os,(Ig (Im wr d) os).cell? ⟨w.heap.size,8,be⟩=AI (Ia m.gone):=Ih ((cK _ _ nR).trans d8);go_wp2_with fail;refine IA (by kernel_rfl) (by kernel_rfl) ?_;repeat(quiet_step (exact hN _ _))
      refine bu λdq gW dF=>?_;clear hN F0 F1 F2 F3 F4 F5 F6 F7 F8 G0 G1 G2 G3 G4 G5 G6 G7 G8;generalize Ig (Im wr dq) gW=wq at *;have mr:Below (w.heap.size+1) W1 wq:=aO.trans (dF.out.mono (by omega));have Cs:Hid (Own (w.heap.size+1) wq u5 L):=HO.out.below dF.out;have qI:∀b o,b<w.heap.size+1->wq.cell? ⟨b,o,be⟩=W1.cell? ⟨b,o,be⟩:=λb o h=>mr.cell (p:=⟨b,o,be⟩) h;have xp:=mr.size;clear aO cK cB HO dF;go_wp2_with (at_builtin;refine IZ _ rfl _ _ 41 rfl (w.heap.size+1) 38 i0 _ 9 104 JA fH dt gJ gB rfl (by omega) _ (L).length (fl (L)) rfl ?hown ⟨wq.heap.size,0,be⟩ 1 1 (m).cs rfl rfl ?hnews (cX _) ?h63 ?hbytes ?hbase ?_)
      case hown=>(refine Cs.out.below ?_;repeat(first|exact Ib _ _|refine below_drewN ?_ _|refine O3 ?_ (by simp) _|refine O8 ?_))
      case hnews=>(intro j u hj;rw[I5];exact(ae (Ij wq (By #[Y m.node,Y m.bf,Y m.name,Y m.tag,U O m.addr,U O m.port,Ia m.af,U O m.version,Ia m.gone] 38)) (0+j)).trans (by simpa[aV.cs] using hj))
      case h63=>(unfold Io;omega)
      case hbytes=>omega
      case hbase=>(simp;omega)
      intro v' w2 r1 r2 r3;have jF:Hid (Below (w.heap.size+1) W1 w2):=by
       have h0:Below (w.heap.size+1) W1 (wq.alloc (By #[Y m.node,Y m.bf,Y m.name,Y m.tag,U O m.addr,U O m.port,Ia m.af,U O m.version,Ia m.gone] 38)):=mr.alloc (by omega) _;exact h0.trans ((Ib _ _).grown (w:=wq.alloc (By #[Y m.node,Y m.bf,Y m.name,Y m.tag,U O m.addr,U O m.port,Ia m.af,U O m.version,Ia m.gone] 38)) ⟨r2.os,r2.tape,r2.output,r2.size,r2.block⟩ (by simp;omega) (λj hj=>(Cs.out.lt j hj).1))
      have LL:Hid (Own (w.heap.size+1) w2 v' (L++[m])):=fe (by first|exact r1|(rw[Ii];exact r1));clear r1 r2 r3;have Hf:=jF.out;have ahv:∀b o,b<w.heap.size+1->w2.cell? ⟨b,o,be⟩=W1.cell? ⟨b,o,be⟩:=λb o h=>Hf.cell (p:=⟨b,o,be⟩) h;have MP:=Hf.size;clear mr qI xp Cs;have jE:(L++[m]).length<=2002:=by simp;omega
      go_wp2_with fail;go_quiet (fail)
      go_wp2_with (at_builtin;refine IZ _ rfl _ _ 41 rfl (w.heap.size+1) 38 i0 _ 9 104 JA fH dt gJ gB rfl (by omega) _ (L++[m]).length (fl (L++[m])) rfl ?hown ⟨w2.heap.size,0,be⟩ 1 1 (mk).cs rfl rfl ?hnews (cX _) ?h63 ?hbytes ?hbase ?_)
      case hown=>(refine LL.out.below ?_;repeat(first|exact Ib _ _|refine below_drewN ?_ _|refine O3 ?_ (by simp) _|refine O8 ?_))
      case hnews=>(intro j u hj;rw[I5];exact(ae (Ij w2 (By #[Y mk.node,Y mk.bf,Y mk.name,Y mk.tag,U O mk.addr,U O mk.port,Ia mk.af,U O mk.version,Ia mk.gone] 38)) (0+j)).trans (by simpa[aV.cs] using hj))
      case h63=>(unfold Io;omega)
      case hbytes=>omega
      case hbase=>(simp;omega)
      clear jF;intro v' w3 r1 r2 r3;have ahw:Hid (Below (w.heap.size+1) W1 w3):=by
       have h0:Below (w.heap.size+1) W1 (w2.alloc (By #[Y mk.node,Y mk.bf,Y mk.name,Y mk.tag,U O mk.addr,U O mk.port,Ia mk.af,U O mk.version,Ia mk.gone] 38)):=Hf.alloc (by omega) _;exact h0.trans ((Ib _ _).grown (w:=w2.alloc (By #[Y mk.node,Y mk.bf,Y mk.name,Y mk.tag,U O mk.addr,U O mk.port,Ia mk.af,U O mk.version,Ia mk.gone] 38)) ⟨r2.os,r2.tape,r2.output,r2.size,r2.block⟩ (by simp;omega) (λj hj=>(LL.out.lt j hj).1))
      have ahx:Hid (Own (w.heap.size+1) w3 v' ((L++[m])++[mk])):=fe (by first|exact r1|(rw[Ii];exact r1));clear r1 r2 r3;go_wp2_with fail;exact⟨⟨k+1,true,by omega,by go_num,rfl,⟨λ_=>(by omega),λ_=>(rfl)⟩,ahw.out,(by rw[WR.out];exact ahx.out)⟩,by simp[intOf];omega⟩
    .obtain⟨hO,AB⟩:=Fi.out HKP.out rfl
     have WR:Hid _:=hO;obtain⟨he1,Vk,he3,he4⟩:=WQ AB;have HDO:Hid (decide (ord mk m<0)=false):=decide_eq_false (by omega);clear hO AB Wy HHI Fi Vb LG;generalize RL.fo ms m p q k=L at *;have hN:∀d os,aK 94 #[Ik #[Y mk.node,Y mk.bf,Y mk.name,Y mk.tag,U O mk.addr,U O mk.port,Ia mk.af,U O mk.version,Ia mk.gone],Ik #[Y m.node,Y m.bf,Y m.name,Y m.tag,U O m.addr,U O m.port,Ia m.af,U O m.version,Ia m.gone]] (Ig (Im wr d) os) λe fR=>e=AT (Ia false)/\∃p:JP,fR=Ig (Im wr p.d) p.os:=λd os=>IV ((sO mk m _).mono (by rintro e w' ⟨rfl,h⟩;exact⟨by rw[HDO.out],h⟩));have F0:∀d os,(Ig (Im wr d) os).cell? ⟨b1,o1+k*9,be⟩=AI (Y mk.node):=Ih ((cK _ _ kb).trans c0);have F1:∀d os,(Ig (Im wr d) os).cell? ⟨b1,o1+k*9+1,be⟩=AI (Y mk.bf):=Ih ((cK _ _ kb).trans c1);have F2:∀d os,(Ig (Im wr d) os).cell? ⟨b1,o1+k*9+2,be⟩=AI (Y mk.name):=Ih ((cK _ _ kb).trans c2);have F3:∀d os,(Ig (Im wr d) os).cell? ⟨b1,o1+k*9+3,be⟩=AI (Y mk.tag):=Ih ((cK _ _ kb).trans c3);have F4:∀d os,(Ig (Im wr d) os).cell? ⟨b1,o1+k*9+4,be⟩=AI (U O mk.addr):=Ih ((cK _ _ kb).trans c4);have F5:∀d os,(Ig (Im wr d) os).cell? ⟨b1,o1+k*9+5,be⟩=AI (U O mk.port):=Ih ((cK _ _ kb).trans c5);have F6:∀d os,(Ig (Im wr d) os).cell? ⟨b1,o1+k*9+6,be⟩=AI (Ia mk.af):=Ih ((cK _ _ kb).trans c6);have F7:∀d os,(Ig (Im wr d) os).cell? ⟨b1,o1+k*9+7,be⟩=AI (U O mk.version):=Ih ((cK _ _ kb).trans c7);have F8:∀d os,(Ig (Im wr d) os).cell? ⟨b1,o1+k*9+8,be⟩=AI (Ia mk.gone):=Ih ((cK _ _ kb).trans c8);have G0:∀d os,(Ig (Im wr d) os).cell? ⟨w.heap.size,0,be⟩=AI (Y m.node):=Ih ((cK _ _ nR).trans d0);have G1:∀d os,(Ig (Im wr d) os).cell? ⟨w.heap.size,1,be⟩=AI (Y m.bf):=Ih ((cK _ _ nR).trans d1);have G2:∀d os,(Ig (Im wr d) os).cell? ⟨w.heap.size,2,be⟩=AI (Y m.name):=Ih ((cK _ _ nR).trans d2);have G3:∀d os,(Ig (Im wr d) os).cell? ⟨w.heap.size,3,be⟩=AI (Y m.tag):=Ih ((cK _ _ nR).trans d3);have G4:∀d os,(Ig (Im wr d) os).cell? ⟨w.heap.size,4,be⟩=AI (U O m.addr):=Ih ((cK _ _ nR).trans d4);have G5:∀d os,(Ig (Im wr d) os).cell? ⟨w.heap.size,5,be⟩=AI (U O m.port):=Ih ((cK _ _ nR).trans d5);have G6:∀d os,(Ig (Im wr d) os).cell? ⟨w.heap.size,6,be⟩=AI (Ia m.af):=Ih ((cK _ _ nR).trans d6);have G7:∀d os,(Ig (Im wr d) os).cell? ⟨w.heap.size,7,be⟩=AI (U O m.version):=Ih ((cK _ _ nR).trans d7);have G8:∀d os,(Ig (Im wr d) os).cell? ⟨w.heap.size,8,be⟩=AI (Ia m.gone):=Ih ((cK _ _ nR).trans d8);go_wp2_with fail;refine IA (by kernel_rfl) (by kernel_rfl) ?_;repeat(quiet_step (exact hN _ _))
     refine bu λdq gW dF=>?_;clear hN F0 F1 F2 F3 F4 F5 F6 F7 F8 G0 G1 G2 G3 G4 G5 G6 G7 G8;generalize Ig (Im wr dq) gW=wq at *;have mr:Below (w.heap.size+1) W1 wq:=aO.trans (dF.out.mono (by omega));have Cs:Hid (Own (w.heap.size+1) wq u5 L):=HO.out.below dF.out;have qI:∀b o,b<w.heap.size+1->wq.cell? ⟨b,o,be⟩=W1.cell? ⟨b,o,be⟩:=λb o h=>mr.cell (p:=⟨b,o,be⟩) h;have xp:=mr.size;clear aO cK cB HO dF;go_wp2_with (at_builtin;refine IZ _ rfl _ _ 41 rfl (w.heap.size+1) 38 i0 _ 9 104 JA fH dt gJ gB rfl (by omega) _ (L).length (fl (L)) rfl ?hown ⟨wq.heap.size,0,be⟩ 1 1 (m).cs rfl rfl ?hnews (cX _) ?h63 ?hbytes ?hbase ?_)
     case hown=>(refine Cs.out.below ?_;repeat(first|exact Ib _ _|refine below_drewN ?_ _|refine O3 ?_ (by simp) _|refine O8 ?_))
     case hnews=>(intro j u hj;rw[I5];exact(ae (Ij wq (By #[Y m.node,Y m.bf,Y m.name,Y m.tag,U O m.addr,U O m.port,Ia m.af,U O m.version,Ia m.gone] 38)) (0+j)).trans (by simpa[aV.cs] using hj))
     case h63=>(unfold Io;omega)
     case hbytes=>omega
     case hbase=>(simp;omega)
     intro v' w2 r1 r2 r3;have jF:Hid (Below (w.heap.size+1) W1 w2):=by
      have h0:Below (w.heap.size+1) W1 (wq.alloc (By #[Y m.node,Y m.bf,Y m.name,Y m.tag,U O m.addr,U O m.port,Ia m.af,U O m.version,Ia m.gone] 38)):=mr.alloc (by omega) _;exact h0.trans ((Ib _ _).grown (w:=wq.alloc (By #[Y m.node,Y m.bf,Y m.name,Y m.tag,U O m.addr,U O m.port,Ia m.af,U O m.version,Ia m.gone] 38)) ⟨r2.os,r2.tape,r2.output,r2.size,r2.block⟩ (by simp;omega) (λj hj=>(Cs.out.lt j hj).1))
     have LL:Hid (Own (w.heap.size+1) w2 v' (L++[m])):=fe (by first|exact r1|(rw[Ii];exact r1));clear r1 r2 r3;have Hf:=jF.out;have ahv:∀b o,b<w.heap.size+1->w2.cell? ⟨b,o,be⟩=W1.cell? ⟨b,o,be⟩:=λb o h=>Hf.cell (p:=⟨b,o,be⟩) h;have MP:=Hf.size;clear mr qI xp Cs;go_wp2_with fail;go_quiet (fail)
     go_wp2_with fail;exact⟨⟨k+1,true,by omega,by go_num,rfl,⟨λ_=>(by omega),λ_=>rfl⟩,below_drewN jF.out _,(by rw[WR.out];exact LL.out.below (below_drewN (Ib _ _) _))⟩,by simp[intOf];omega⟩
   .have kj:bb=true:=LG.out.2 oo
    subst kj;obtain⟨hO,AB⟩:=HHI.out oo;have WR:Hid _:=hO;have aP:=Dq (by omega:ord mk m≠0);clear hO AB Wy HHI Fi Vb LG;generalize RL.fo ms m p q k=L at *;rcases aP with⟨Bl,Dg⟩|⟨he1,Vk,Bl,Dg⟩;all_goals
     go_wp2_with fail;go_quiet (fail)
     go_wp2_with fail;go_quiet (fail)
     go_wp2_with (at_builtin;refine IZ _ rfl _ _ 41 rfl (w.heap.size+1) 38 i0 _ 9 104 JA fH dt gJ gB rfl (by omega) _ (L).length (fl (L)) rfl ?hown ⟨wr.heap.size,0,be⟩ 1 1 (mk).cs rfl rfl ?hnews (cX _) ?h63 ?hbytes ?hbase ?_)
     case hown=>(refine HO.out.below ?_;repeat(first|exact Ib _ _|refine below_drewN ?_ _|refine O3 ?_ (by simp) _|refine O8 ?_))
     case hnews=>(intro j u hj;rw[I5];exact(ae (Ij wr (By #[Y mk.node,Y mk.bf,Y mk.name,Y mk.tag,U O mk.addr,U O mk.port,Ia mk.af,U O mk.version,Ia mk.gone] 38)) (0+j)).trans (by simpa[aV.cs] using hj))
     case h63=>(unfold Io;omega)
     case hbytes=>omega
     case hbase=>(simp;omega)
     intro v' w2 r1 r2 r3;have jF:Hid (Below (w.heap.size+1) W1 w2):=by
      have h0:Below (w.heap.size+1) W1 (wr.alloc (By #[Y mk.node,Y mk.bf,Y mk.name,Y mk.tag,U O mk.addr,U O mk.port,Ia mk.af,U O mk.version,Ia mk.gone] 38)):=aO.alloc (by omega) _;exact h0.trans ((Ib _ _).grown (w:=wr.alloc (By #[Y mk.node,Y mk.bf,Y mk.name,Y mk.tag,U O mk.addr,U O mk.port,Ia mk.af,U O mk.version,Ia mk.gone] 38)) ⟨r2.os,r2.tape,r2.output,r2.size,r2.block⟩ (by simp;omega) (λj hj=>(HO.out.lt j hj).1))
     have LL:Hid (Own (w.heap.size+1) w2 v' (L++[mk])):=fe (by first|exact r1|(rw[Ii];exact r1));clear r1 r2 r3;go_wp2_with fail;exact⟨⟨k+1,true,by omega,by go_num,rfl,⟨λ_=>(by omega),λ_=>(rfl)⟩,jF.out,(by rw[WR.out];exact LL.out)⟩,by simp[intOf];omega⟩
  .have eJ:k=n:=by omega
   subst eJ;have jF:Hid (Below w.heap.size w wr):=Ds.out.trans (aO.mono (by omega));by_cases hpk:p<k
   .have kj:bb=true:=LG.out.2 hpk
    subst kj;have HFO:Hid (Own (w.heap.size+1) wr u5 (RL.put ms m p f)):=by
     have h:=HO.out;rw[abY.out hpk] at h;exact h
    clear HO abZ;go_wp2_with fail;go_ret;exact⟨u5,rfl,HFO.out,jF.out⟩
   .have kj:bb=false:=by
     cases bb
     .rfl
     .have:=LG.out.1 rfl;omega
    subst kj;obtain⟨hf,ab2⟩:=Vj.out (by omega);have Vl:Hid (RL.fo ms m p q k++[m]=RL.put ms m p f):=ab2;clear ab2 abY Vj;generalize RL.fo ms m p q k=L at *;go_wp2_with (at_builtin;refine IZ _ rfl _ _ 41 rfl (w.heap.size+1) 38 i0 _ 9 104 JA fH dt gJ gB rfl (by omega) _ (L).length (fl (L)) rfl ?hown ⟨wr.heap.size,0,be⟩ 1 1 (m).cs rfl rfl ?hnews (cX _) ?h63 ?hbytes ?hbase ?_)
    case hown=>(refine HO.out.below ?_;repeat(first|exact Ib _ _|refine below_drewN ?_ _|refine O3 ?_ (by simp) _|refine O8 ?_))
    case hnews=>(intro j u hj;rw[I5];exact(ae (Ij wr (By #[Y m.node,Y m.bf,Y m.name,Y m.tag,U O m.addr,U O m.port,Ia m.af,U O m.version,Ia m.gone] 38)) (0+j)).trans (by simpa[aV.cs] using hj))
    case h63=>(unfold Io;omega)
    case hbytes=>omega
    case hbase=>(simp;omega)
    intro v' w2 r1 r2 r3;have HBY:Hid (Below w.heap.size w w2):=by
     have h0:Below (w.heap.size+1) W1 (wr.alloc (By #[Y m.node,Y m.bf,Y m.name,Y m.tag,U O m.addr,U O m.port,Ia m.af,U O m.version,Ia m.gone] 38)):=aO.alloc (by omega) _;have h1:Below (w.heap.size+1) W1 w2:=h0.trans ((Ib _ _).grown (w:=wr.alloc (By #[Y m.node,Y m.bf,Y m.name,Y m.tag,U O m.addr,U O m.port,Ia m.af,U O m.version,Ia m.gone] 38)) ⟨r2.os,r2.tape,r2.output,r2.size,r2.block⟩ (by simp;omega) (λj hj=>(HO.out.lt j hj).1));exact Ds.out.trans (h1.mono (by omega))
    have HFO:Hid (Own (w.heap.size+1) w2 v' (RL.put ms m p f)):=by rw[<- Vl.out];exact fe r1
    clear r1 r2 r3;go_wp2_with fail;go_ret;exact⟨v',rfl,HFO.out,HBY.out⟩
end Sv
namespace Sv
open Go.RowKit
end Sv
end Go.Proofs.YtbfghimjdlpicaaGreatDoor
