import Derived.Test.YtfidjlcdlakceaaGreatDoorrt19
import Derived.Deep.DeepCutAuto
set_option maxHeartbeats 1600000
set_option maxRecDepth 100000
open Go.Value renaming pointer→Ig,string→I,tuple→Il,int→O,bool→AT,slice→U,agg→Ip
open Go.Ending renaming returned→sh
open Option renaming some→Z,none→Y
open Go.Proofs.Tryz renaming prog→be
open Go.Obj renaming cells→AI
open Go.World renaming frozen?→Ih
open Go.RowKit.Below renaming heap_setCell→IH,refl→Ia
open Go renaming maxLen→Ii,heap_alloc_new→Ie,bodyPost→Ji,callFunc→OR,bodyPost_ret→Iy
open Go.IntKind renaming i64→J
open Array renaming getElem?_eq_some_iff→Ib
open Go.World.Extends renaming refl→IB
open Nat renaming le_refl→By
open Go.Joins renaming block_setCell→Is
open Go.Lib renaming alloc_old→I0
namespace Go.Proofs.YtfidjlcdlakceaaGreatDoor
open Go.RowKit Go.Lib
structure Reads(t:ByteArray)(id code al:Nat)(R:ByteArray):Prop where
 go:∀(g:Nat) (w:World),dA g t 0 w->Calls be 52 #[Ig (Z ⟨g,0,Y⟩)] w λe w'=>e=sh (qQ id code al false false R)/\Hid (Rd g w w')
theorem frozenAt{W:World}{g:Nat}{cs:Array Value}{T:TypeId}(h:W.heap[g]?=Z (AI cs T (0,0)))(i:Nat):W.frozen? ⟨g,i,Y⟩=false:=by simp[Ih,h]
theorem Rd.here{g:Nat}{w W:World}(h:Rd g w W)(i:Nat)(v:Value):Rd g w (W.setCell ⟨g,i,Y⟩ v):=
 ⟨h.os,h.tape,h.output,by simpa using h.size,λk hk hg=>(IH W _ v k (by simpa using hg)).trans (h.block k hk hg)⟩
theorem LU(gs gm id code al:Nat)(R t:ByteArray)(w:World)(hr:Reads t id code al R)(tm:w.heap[gs]?=Z (AI #[I t] 9 (0,0)))(kQ:w.heap[gm]?=Z (AI aJ 43 (0,0)))(h1:within (id:Int) 0 65535=true)(h2:within (code:Int) 0 15=true)(hs:R.size<=Ii)(hn:bQ R=0)(ht:(decide ((al:Int)=1)||decide ((al:Int)=16)||decide ((al:Int)=33))=true) :
 Calls be 51 #[Ig (Z ⟨gs,0,Y⟩),Ig (Z ⟨gm,0,Y⟩)] w λr w'=>r=sh (Il #[])/\Hid (Rd gm w w')/\Hid (w'.heap[gm]?=Z (AI #[O J id,AT false,AT false,O J code,I R,O J al,U Y 0 0] 43 (0,0))):=by
 have HC:Hid (∀W,Calls be 28 #[Ip #[O J id,AT false,AT false,O J code,I R,O J al,U Y 0 0]] W λr w'=>r=sh (Il #[])/\Below W.heap.size W w'):=λW=>pZ id code al false false R W h1 h2 hs hn ht;have HR:Hid (Reads t id code al R):=hr;have cs:w.cell? ⟨gs,0,Y⟩=Z (I t):=af tm 0;clear h1 h2 hs hn ht hr tm;have aB:gm<w.heap.size:=(Ib.1 kQ).1;have HGM:Hid (w.heap[gm]?=Z (AI aJ 43 (0,0))):=kQ;clear kQ;go_enter Tryz.func51,Tryz.ntmps51;go_wp2_with fail;have SM:w.Extends (w.alloc (AI #[I t,O J 0] 107)):=(IB w).alloc _;have Aj:(w.alloc (AI #[I t,O J 0] 107)).heap[w.heap.size]?=Z (AI #[I t,O J 0] 107 (0,0)):=Ie w _;refine(HR.out.go w.heap.size _ ⟨af Aj 0,af Aj 1,frozenAt Aj 1,by simp⟩).mono ?_;rintro e w1 ⟨rfl,h2⟩;have an:Below w.heap.size w w1:=((Ia _ _).alloc (By _) _).trans (h2.out.below (By _) (by simp));have iR:Hid (Rd gm w w1):=Rd.ff an (By _);have bf:w1.heap[gm]?=Z (AI aJ 43 (0,0)):=(an.block gm aB).trans HGM.out;have dX:gm<w1.heap.size:=(Ib.1 bf).1;have c0:w1.cell? ⟨gm,0,Y⟩=Z (O J 0):=af bf 0;have z0:w1.frozen? ⟨gm,0,Y⟩=false:=by simp[Ih,bf]
 have c1:w1.cell? ⟨gm,1,Y⟩=Z (AT false):=af bf 1;have z1:w1.frozen? ⟨gm,1,Y⟩=false:=by simp[Ih,bf]
 have c2:w1.cell? ⟨gm,2,Y⟩=Z (AT false):=af bf 2;have z2:w1.frozen? ⟨gm,2,Y⟩=false:=by simp[Ih,bf]
 have c3:w1.cell? ⟨gm,3,Y⟩=Z (O J 0):=af bf 3;have z3:w1.frozen? ⟨gm,3,Y⟩=false:=by simp[Ih,bf]
 have c4:w1.cell? ⟨gm,4,Y⟩=Z (I ⟨#[]⟩):=af bf 4;have z4:w1.frozen? ⟨gm,4,Y⟩=false:=by simp[Ih,bf]
 have c5:w1.cell? ⟨gm,5,Y⟩=Z (O J 0):=af bf 5;have z5:w1.frozen? ⟨gm,5,Y⟩=false:=by simp[Ih,bf]
 have c6:w1.cell? ⟨gm,6,Y⟩=Z (U Y 0 0):=af bf 6;have z6:w1.frozen? ⟨gm,6,Y⟩=false:=by simp[Ih,bf]
 have oP:Hid ((((((((w1.setCell ⟨gm,0,Y⟩ (O J id)).setCell ⟨gm,1,Y⟩ (AT false)).setCell ⟨gm,2,Y⟩ (AT false)).setCell ⟨gm,3,Y⟩ (O J code)).setCell ⟨gm,4,Y⟩ (I R)).setCell ⟨gm,5,Y⟩ (O J al)).setCell ⟨gm,6,Y⟩ (U Y 0 0)).heap[gm]?=Z (AI #[O J id,AT false,AT false,O J code,I R,O J al,U Y 0 0] 43 (0,0))):=(Is (i:=6) (Is (i:=5) (Is (i:=4) (Is (i:=3) (Is (i:=2) (Is (i:=1) (Is (i:=0) bf (O J id)) (AT false)) (AT false)) (O J code)) (I R)) (O J al)) (U Y 0 0));have kP:Hid (Rd gm w (((((((w1.setCell ⟨gm,0,Y⟩ (O J id)).setCell ⟨gm,1,Y⟩ (AT false)).setCell ⟨gm,2,Y⟩ (AT false)).setCell ⟨gm,3,Y⟩ (O J code)).setCell ⟨gm,4,Y⟩ (I R)).setCell ⟨gm,5,Y⟩ (O J al)).setCell ⟨gm,6,Y⟩ (U Y 0 0))):=((((((((iR.out).here 0 _).here 1 _).here 2 _).here 3 _).here 4 _).here 5 _).here 6 _);clear h2 an SM Aj bf iR;go_wp2_with fail;refine(HC.out _).mono ?_;rintro e w2 ⟨rfl,aD⟩;have bD:Hid (Below (((((((w1.setCell ⟨gm,0,Y⟩ (O J id)).setCell ⟨gm,1,Y⟩ (AT false)).setCell ⟨gm,2,Y⟩ (AT false)).setCell ⟨gm,3,Y⟩ (O J code)).setCell ⟨gm,4,Y⟩ (I R)).setCell ⟨gm,5,Y⟩ (O J al)).setCell ⟨gm,6,Y⟩ (U Y 0 0)).heap.size (((((((w1.setCell ⟨gm,0,Y⟩ (O J id)).setCell ⟨gm,1,Y⟩ (AT false)).setCell ⟨gm,2,Y⟩ (AT false)).setCell ⟨gm,3,Y⟩ (O J code)).setCell ⟨gm,4,Y⟩ (I R)).setCell ⟨gm,5,Y⟩ (O J al)).setCell ⟨gm,6,Y⟩ (U Y 0 0)) w2):=aD;clear aD;go_wp2_with fail;simp[Ji,results,Tryz.results51];refine⟨kP.out.trans (Rd.ff bD.out (By _)),?_⟩;exact(bD.out.block gm (by simp;exact dX)).trans oP.out
theorem Fz(id code al:Nat)(R t:ByteArray)(w:World)(hr:Reads t id code al R)(hl:t.size<=512)(h1:within (id:Int) 0 65535=true)(h2:within (code:Int) 0 15=true)(hs:R.size<=Ii)(hn:bQ R=0)(ht:(decide ((al:Int)=1)||decide ((al:Int)=16)||decide ((al:Int)=33))=true) :
 Calls be 19 #[I t] w λe w'=>e=sh (Il #[qQ id code al false false R,O J 0])/\Below w.heap.size w w':=by
 have tU:Hid (∀(gs gm:Nat) (W:World),W.heap[gs]?=Z (AI #[I t] 9 (0,0))->W.heap[gm]?=Z (AI aJ 43 (0,0))->Calls be 51 #[Ig (Z ⟨gs,0,Y⟩),Ig (Z ⟨gm,0,Y⟩)] W λr w'=>r=sh (Il #[])/\Hid (Rd gm W w')/\Hid (w'.heap[gm]?=Z (AI #[O J id,AT false,AT false,O J code,I R,O J al,U Y 0 0] 43 (0,0)))):=λgs gm W tm kQ=>LU gs gm id code al R t W hr tm kQ h1 h2 hs hn ht;have ef:∀args W,(OR 51 args).run be W=.ok (.enter 51 args) W:=enters_of Tryz.func51 (by kernel_rfl) rfl;have EG:decide (512<(t.size:Int))=false:=by simp;omega
 clear h1 h2 hs hn ht hl hr;go_enter Tryz.func19,Tryz.ntmps19;go_wp2_with fail;obtain⟨w0,du⟩:∃w0,w0=((w.alloc (AI #[I t] 9)).alloc (AI aJ 43)).alloc (AI aJ 43):=⟨_,rfl⟩;rw[<- du];have T8:w0.heap.size=w.heap.size+1+1+1:=by rw[du];simp
 have dB:Hid (Below w.heap.size w w0):=(show Below _ _ _ by rw[du];exact(((Ia _ _).alloc (By _) _).alloc (by simp) _).alloc (by simp;omega) _);have tm:w0.heap[w.heap.size]?=Z (AI #[I t] 9 (0,0)):=by
  rw[du];exact(I0 _ _ _ (by simp;omega)).trans ((I0 _ _ _ (by simp)).trans (Ie w _))
 have Ad:w0.heap[w.heap.size+1]?=Z (AI aJ 43 (0,0)):=by
  rw[du];have h:=Ie (w.alloc (AI #[I t] 9)) (AI aJ 43);exact(I0 _ _ _ (by simp)).trans (by simpa using h)
 have kQ:w0.heap[w.heap.size+1+1]?=Z (AI aJ 43 (0,0)):=by
  rw[du];have h:=Ie ((w.alloc (AI #[I t] 9)).alloc (AI aJ 43)) (AI aJ 43);simpa using h
 clear du;have kZ:(w0.alloc (AI #[O J 0] 34)).heap[w0.heap.size]?=Z (AI #[O J 0] 34 (0,0)):=Ie w0 _;have hY:Hid (Calls be 26 #[.func (.func 51) #[] #[Ig (Z ⟨w.heap.size,0,Y⟩),Ig (Z ⟨w.heap.size+1+1,0,Y⟩)]] w0 λr w'=>r=sh (O J 0)/\Hid (Rd (w.heap.size+1+1) w0 w')/\Hid (w'.heap[w.heap.size+1+1]?=Z (AI #[O J id,AT false,AT false,O J code,I R,O J al,U Y 0 0] 43 (0,0)))):=(show Calls _ _ _ _ _ by
  refine(j5 51 #[Ig (Z ⟨w.heap.size,0,Y⟩),Ig (Z ⟨w.heap.size+1+1,0,Y⟩)] w0 (λW=>Rd (w.heap.size+1+1) (w0.alloc (AI #[O J 0] 34)) W/\W.heap[w.heap.size+1+1]?=Z (AI #[O J id,AT false,AT false,O J code,I R,O J al,U Y 0 0] 43 (0,0))) ef ?_).mono ?_
  .refine(tU.out w.heap.size (w.heap.size+1+1) _ ((I0 w0 _ _ (by omega)).trans tm) ((I0 w0 _ _ (by omega)).trans kQ)).mono ?_
   rintro r w' ⟨rfl,hb,rD⟩;have hk:w'.heap[w0.heap.size]?=Z (AI #[O J 0] 34 (0,0)):=(hb.out.block _ (by simp) (by omega)).trans kZ;exact⟨rfl,⟨hb.out,rD.out⟩,af hk 0,frozenAt hk 0,(Ib.1 hk).1⟩
  .rintro r w' ⟨rfl,w1,⟨hR,hk⟩,_,rfl⟩
   refine⟨rfl,(Rd.trans (Rd.ext ((IB w0).alloc _)) hR).put 0 _ (By _),?_⟩;exact(IH w1 _ _ _ (by simp;omega)).trans hk)
 clear kZ tm kQ tU ef;refine hY.out.mono ?_;rintro e w1 ⟨rfl,iR,ji⟩;have aK:Hid (Below w.heap.size w w1):=dB.out.trans (iR.out.below (by omega) (by omega));have gU:w1.heap[w.heap.size+1]?=Z (AI aJ 43 (0,0)):=(iR.out.block _ (by omega) (by omega)).trans Ad;have c0:w1.cell? ⟨w.heap.size+1+1,0,Y⟩=Z (O J id):=af ji.out 0;have q0:w1.cell? ⟨w.heap.size+1,0,Y⟩=Z (O J 0):=af gU 0;have y0:w1.frozen? ⟨w.heap.size+1,0,Y⟩=false:=frozenAt gU 0;have c1:w1.cell? ⟨w.heap.size+1+1,1,Y⟩=Z (AT false):=af ji.out 1;have q1:w1.cell? ⟨w.heap.size+1,1,Y⟩=Z (AT false):=af gU 1;have y1:w1.frozen? ⟨w.heap.size+1,1,Y⟩=false:=frozenAt gU 1;have c2:w1.cell? ⟨w.heap.size+1+1,2,Y⟩=Z (AT false):=af ji.out 2;have q2:w1.cell? ⟨w.heap.size+1,2,Y⟩=Z (AT false):=af gU 2;have y2:w1.frozen? ⟨w.heap.size+1,2,Y⟩=false:=frozenAt gU 2;have c3:w1.cell? ⟨w.heap.size+1+1,3,Y⟩=Z (O J code):=af ji.out 3;have q3:w1.cell? ⟨w.heap.size+1,3,Y⟩=Z (O J 0):=af gU 3;have y3:w1.frozen? ⟨w.heap.size+1,3,Y⟩=false:=frozenAt gU 3;have c4:w1.cell? ⟨w.heap.size+1+1,4,Y⟩=Z (I R):=af ji.out 4;have q4:w1.cell? ⟨w.heap.size+1,4,Y⟩=Z (I ⟨#[]⟩):=af gU 4;have y4:w1.frozen? ⟨w.heap.size+1,4,Y⟩=false:=frozenAt gU 4;have c5:w1.cell? ⟨w.heap.size+1+1,5,Y⟩=Z (O J al):=af ji.out 5;have q5:w1.cell? ⟨w.heap.size+1,5,Y⟩=Z (O J 0):=af gU 5;have y5:w1.frozen? ⟨w.heap.size+1,5,Y⟩=false:=frozenAt gU 5;have c6:w1.cell? ⟨w.heap.size+1+1,6,Y⟩=Z (U Y 0 0):=af ji.out 6;have q6:w1.cell? ⟨w.heap.size+1,6,Y⟩=Z (U Y 0 0):=af gU 6;have y6:w1.frozen? ⟨w.heap.size+1,6,Y⟩=false:=frozenAt gU 6;clear hY dB iR ji gU Ad;go_wp2_with fail;refine Iy (v:=Il #[qQ id code al false false R,O J 0]) ?_ rfl ⟨rfl,?_⟩
 .simp[results,Tryz.results19,go_sem,q0,q1,q2,q3,q4,q5,q6]
 .exact(((((((aK.out.setCell (p:=⟨w.heap.size+1,0,Y⟩) (by simp) _).setCell (p:=⟨w.heap.size+1,1,Y⟩) (by simp) _).setCell (p:=⟨w.heap.size+1,2,Y⟩) (by simp) _).setCell (p:=⟨w.heap.size+1,3,Y⟩) (by simp) _).setCell (p:=⟨w.heap.size+1,4,Y⟩) (by simp) _).setCell (p:=⟨w.heap.size+1,5,Y⟩) (by simp) _).setCell (p:=⟨w.heap.size+1,6,Y⟩) (by simp) _)
structure tn(t:ByteArray)(id code al:Int)(ay cut:Bool)(R:ByteArray)(rs:List Rc.Rec):Prop where
 go:∀(g:Nat) (w:World),dA g t 0 w->Calls be 52 #[Ig (Z ⟨g,0,Y⟩)] w λe w'=>∃v,e=sh (Ip #[O J id,AT ay,AT cut,O J code,I R,O J al,v])/\Hid (Rd g w w')/\Hid (Rc.Own (w.heap.size+2) w' v rs)
theorem LW{r:Rc.Rec}(h:bC r=0):r.ok:=by
 obtain⟨h1,_,h3,h4⟩:=eS h;have:=(rJ h1).2.2;have:=(rJ h4).2.2;refine⟨?_,?_,?_⟩<;>(unfold Ii;omega)
theorem wZ{rs:List Rc.Rec}(h:∀r∈rs,bC r=0):∀j,(rs.getD j Rc.dm).ok:=Rc.bN (λr hr=>LW (h r hr))
theorem FA(gs gm:Nat)(id code al:Int)(ay cut:Bool)(R t:ByteArray)(rs:List Rc.Rec)(w:World)(hr:tn t id code al ay cut R rs)(tm:w.heap[gs]?=Z (AI #[I t] 9 (0,0)))(kQ:w.heap[gm]?=Z (AI aJ 43 (0,0)))(hc:bc id code al R rs=0) :
 Calls be 51 #[Ig (Z ⟨gs,0,Y⟩),Ig (Z ⟨gm,0,Y⟩)] w λr w'=>r=sh (Il #[])/\Hid (Rd gm w w')/\∃v,Hid (w'.heap[gm]?=Z (AI #[O J id,AT ay,AT cut,O J code,I R,O J al,v] 43 (0,0)))/\Hid (Rc.Own (w.heap.size+1) w' v rs):=by
 obtain⟨f1,f2,f3⟩:=cL hc;have Tw:=(rJ f2).2.2;have HC:Hid (∀v W,Rc.Sl W v rs->Calls be 28 #[Ip #[O J id,AT ay,AT cut,O J code,I R,O J al,v]] W λr w'=>r=sh (Il #[])/\Below W.heap.size W w'):=λv W hv=>by
  have h:=j9 id code al ay cut R rs v W (by unfold Ii;omega) hv;rw[hc,mZ] at h;exact h
 have AU:Hid (∀j,(rs.getD j Rc.dm).ok):=wZ f3;have HR:Hid (tn t id code al ay cut R rs):=hr;have cs:w.cell? ⟨gs,0,Y⟩=Z (I t):=af tm 0;clear hr tm f1 f2 f3 Tw hc;have aB:gm<w.heap.size:=(Ib.1 kQ).1;have HGM:Hid (w.heap[gm]?=Z (AI aJ 43 (0,0))):=kQ;clear kQ;go_enter Tryz.func51,Tryz.ntmps51;go_wp2_with fail;have Aj:(w.alloc (AI #[I t,O J 0] 107)).heap[w.heap.size]?=Z (AI #[I t,O J 0] 107 (0,0)):=Ie w _;refine(HR.out.go w.heap.size _ ⟨af Aj 0,af Aj 1,frozenAt Aj 1,by simp⟩).mono ?_;rintro e w1 ⟨v,rfl,h2,ho⟩;have an:Below w.heap.size w w1:=((Ia _ _).alloc (By _) _).trans (h2.out.below (By _) (by simp));have iR:Hid (Rd gm w w1):=Rd.ff an (By _);have lT:Hid (Rc.Own (w.heap.size+1) w1 v rs):=ho.out.mono (by simp<;>omega);obtain⟨av,lv,cv,oR⟩:∃a l c,v=U a l c:=by
  rcases lT.out.2 with⟨hv,_⟩|⟨gq,cq,_,hv,_⟩
  .exact⟨_,_,_,hv⟩
  .exact⟨_,_,_,hv⟩
 subst oR;have bf:w1.heap[gm]?=Z (AI aJ 43 (0,0)):=(an.block gm aB).trans HGM.out;have dX:gm<w1.heap.size:=(Ib.1 bf).1;have c0:w1.cell? ⟨gm,0,Y⟩=Z (O J 0):=af bf 0;have z0:w1.frozen? ⟨gm,0,Y⟩=false:=by simp[Ih,bf]
 have c1:w1.cell? ⟨gm,1,Y⟩=Z (AT false):=af bf 1;have z1:w1.frozen? ⟨gm,1,Y⟩=false:=by simp[Ih,bf]
 have c2:w1.cell? ⟨gm,2,Y⟩=Z (AT false):=af bf 2;have z2:w1.frozen? ⟨gm,2,Y⟩=false:=by simp[Ih,bf]
 have c3:w1.cell? ⟨gm,3,Y⟩=Z (O J 0):=af bf 3;have z3:w1.frozen? ⟨gm,3,Y⟩=false:=by simp[Ih,bf]
 have c4:w1.cell? ⟨gm,4,Y⟩=Z (I ⟨#[]⟩):=af bf 4;have z4:w1.frozen? ⟨gm,4,Y⟩=false:=by simp[Ih,bf]
 have c5:w1.cell? ⟨gm,5,Y⟩=Z (O J 0):=af bf 5;have z5:w1.frozen? ⟨gm,5,Y⟩=false:=by simp[Ih,bf]
 have c6:w1.cell? ⟨gm,6,Y⟩=Z (U Y 0 0):=af bf 6;have z6:w1.frozen? ⟨gm,6,Y⟩=false:=by simp[Ih,bf]
 have oP:Hid ((((((((w1.setCell ⟨gm,0,Y⟩ (O J id)).setCell ⟨gm,1,Y⟩ (AT ay)).setCell ⟨gm,2,Y⟩ (AT cut)).setCell ⟨gm,3,Y⟩ (O J code)).setCell ⟨gm,4,Y⟩ (I R)).setCell ⟨gm,5,Y⟩ (O J al)).setCell ⟨gm,6,Y⟩ (U av lv cv)).heap[gm]?=Z (AI #[O J id,AT ay,AT cut,O J code,I R,O J al,U av lv cv] 43 (0,0))):=(Is (i:=6) (Is (i:=5) (Is (i:=4) (Is (i:=3) (Is (i:=2) (Is (i:=1) (Is (i:=0) bf (O J id)) (AT ay)) (AT cut)) (O J code)) (I R)) (O J al)) (U av lv cv));have kP:Hid (Rd gm w (((((((w1.setCell ⟨gm,0,Y⟩ (O J id)).setCell ⟨gm,1,Y⟩ (AT ay)).setCell ⟨gm,2,Y⟩ (AT cut)).setCell ⟨gm,3,Y⟩ (O J code)).setCell ⟨gm,4,Y⟩ (I R)).setCell ⟨gm,5,Y⟩ (O J al)).setCell ⟨gm,6,Y⟩ (U av lv cv))):=((((((((iR.out).here 0 _).here 1 _).here 2 _).here 3 _).here 4 _).here 5 _).here 6 _);have jF:Hid (Rc.Own (w.heap.size+1) (((((((w1.setCell ⟨gm,0,Y⟩ (O J id)).setCell ⟨gm,1,Y⟩ (AT ay)).setCell ⟨gm,2,Y⟩ (AT cut)).setCell ⟨gm,3,Y⟩ (O J code)).setCell ⟨gm,4,Y⟩ (I R)).setCell ⟨gm,5,Y⟩ (O J al)).setCell ⟨gm,6,Y⟩ (U av lv cv)) (U av lv cv) rs):=(aU (i:=6) (aU (i:=5) (aU (i:=4) (aU (i:=3) (aU (i:=2) (aU (i:=1) (aU (i:=0) lT.out (by omega)) (by omega)) (by omega)) (by omega)) (by omega)) (by omega)) (by omega));clear h2 ho an Aj bf iR;go_wp2_with fail;refine(HC.out _ _ (jF.out.sl AU.out)).mono ?_;rintro e w2 ⟨rfl,aD⟩;have bD:Hid (Below (((((((w1.setCell ⟨gm,0,Y⟩ (O J id)).setCell ⟨gm,1,Y⟩ (AT ay)).setCell ⟨gm,2,Y⟩ (AT cut)).setCell ⟨gm,3,Y⟩ (O J code)).setCell ⟨gm,4,Y⟩ (I R)).setCell ⟨gm,5,Y⟩ (O J al)).setCell ⟨gm,6,Y⟩ (U av lv cv)).heap.size (((((((w1.setCell ⟨gm,0,Y⟩ (O J id)).setCell ⟨gm,1,Y⟩ (AT ay)).setCell ⟨gm,2,Y⟩ (AT cut)).setCell ⟨gm,3,Y⟩ (O J code)).setCell ⟨gm,4,Y⟩ (I R)).setCell ⟨gm,5,Y⟩ (O J al)).setCell ⟨gm,6,Y⟩ (U av lv cv)) w2):=aD;clear aD;go_wp2_with fail;simp[Ji,results,Tryz.results51];refine⟨kP.out.trans (Rd.ff bD.out (By _)),U av lv cv,?_,?_⟩
 .exact(bD.out.block gm (by simp;exact dX)).trans oP.out
 .exact jF.out.below bD.out
theorem zd(id code al:Int)(ay cut:Bool)(R t:ByteArray)(rs:List Rc.Rec)(w:World)(hr:tn t id code al ay cut R rs)(hl:t.size<=512)(hc:bc id code al R rs=0) :
 Calls be 19 #[I t] w λe w'=>∃v,e=sh (Il #[Ip #[O J id,AT ay,AT cut,O J code,I R,O J al,v],O J 0])/\Below w.heap.size w w'/\Hid (Rc.Own w.heap.size w' v rs):=by
 have tU:Hid (∀(gs gm:Nat) (W:World),W.heap[gs]?=Z (AI #[I t] 9 (0,0))->W.heap[gm]?=Z (AI aJ 43 (0,0))->Calls be 51 #[Ig (Z ⟨gs,0,Y⟩),Ig (Z ⟨gm,0,Y⟩)] W λr w'=>r=sh (Il #[])/\Hid (Rd gm W w')/\∃v,Hid (w'.heap[gm]?=Z (AI #[O J id,AT ay,AT cut,O J code,I R,O J al,v] 43 (0,0)))/\Hid (Rc.Own (W.heap.size+1) w' v rs)):=λgs gm W tm kQ=>FA gs gm id code al ay cut R t rs W hr tm kQ hc;have ef:∀args W,(OR 51 args).run be W=.ok (.enter 51 args) W:=enters_of Tryz.func51 (by kernel_rfl) rfl;have EG:decide (512<(t.size:Int))=false:=by simp;omega
 clear hl hr hc;go_enter Tryz.func19,Tryz.ntmps19;go_wp2_with fail;obtain⟨w0,du⟩:∃w0,w0=((w.alloc (AI #[I t] 9)).alloc (AI aJ 43)).alloc (AI aJ 43):=⟨_,rfl⟩;rw[<- du];have T8:w0.heap.size=w.heap.size+1+1+1:=by rw[du];simp
 have dB:Hid (Below w.heap.size w w0):=(show Below _ _ _ by rw[du];exact(((Ia _ _).alloc (By _) _).alloc (by simp) _).alloc (by simp;omega) _);have tm:w0.heap[w.heap.size]?=Z (AI #[I t] 9 (0,0)):=by
  rw[du];exact(I0 _ _ _ (by simp;omega)).trans ((I0 _ _ _ (by simp)).trans (Ie w _))
 have Ad:w0.heap[w.heap.size+1]?=Z (AI aJ 43 (0,0)):=by
  rw[du];have h:=Ie (w.alloc (AI #[I t] 9)) (AI aJ 43);exact(I0 _ _ _ (by simp)).trans (by simpa using h)
 have kQ:w0.heap[w.heap.size+1+1]?=Z (AI aJ 43 (0,0)):=by
  rw[du];have h:=Ie ((w.alloc (AI #[I t] 9)).alloc (AI aJ 43)) (AI aJ 43);simpa using h
 clear du;have kZ:(w0.alloc (AI #[O J 0] 34)).heap[w0.heap.size]?=Z (AI #[O J 0] 34 (0,0)):=Ie w0 _;have hY:Hid (Calls be 26 #[.func (.func 51) #[] #[Ig (Z ⟨w.heap.size,0,Y⟩),Ig (Z ⟨w.heap.size+1+1,0,Y⟩)]] w0 λr w'=>r=sh (O J 0)/\Hid (Rd (w.heap.size+1+1) w0 w')/\∃v,Hid (w'.heap[w.heap.size+1+1]?=Z (AI #[O J id,AT ay,AT cut,O J code,I R,O J al,v] 43 (0,0)))/\Hid (Rc.Own (w.heap.size+1+1+1) w' v rs)):=(show Calls _ _ _ _ _ by
  refine(j5 51 #[Ig (Z ⟨w.heap.size,0,Y⟩),Ig (Z ⟨w.heap.size+1+1,0,Y⟩)] w0 (λW=>Rd (w.heap.size+1+1) (w0.alloc (AI #[O J 0] 34)) W/\∃v,W.heap[w.heap.size+1+1]?=Z (AI #[O J id,AT ay,AT cut,O J code,I R,O J al,v] 43 (0,0))/\Rc.Own (w0.heap.size+1+1) W v rs) ef ?_).mono ?_
  .refine(tU.out w.heap.size (w.heap.size+1+1) _ ((I0 w0 _ _ (by omega)).trans tm) ((I0 w0 _ _ (by omega)).trans kQ)).mono ?_
   rintro r w' ⟨rfl,hb,v,rD,ho⟩;have hk:w'.heap[w0.heap.size]?=Z (AI #[O J 0] 34 (0,0)):=(hb.out.block _ (by simp) (by omega)).trans kZ;exact⟨rfl,⟨hb.out,v,rD.out,by have:=ho.out;simpa using this⟩,af hk 0,frozenAt hk 0,(Ib.1 hk).1⟩
  .rintro r w' ⟨rfl,w1,⟨hR,v,hk,ho⟩,_,rfl⟩
   refine⟨rfl,(Rd.trans (Rd.ext ((IB w0).alloc _)) hR).put 0 _ (By _),v,?_,?_⟩
   .exact(IH w1 _ _ _ (by simp;omega)).trans hk
   .exact(aU ho (by omega)).mono (by omega))
 clear kZ tm kQ tU ef;refine hY.out.mono ?_;rintro e w1 ⟨rfl,iR,v,ji,lT⟩;obtain⟨av,lv,cv,oR⟩:∃a l c,v=U a l c:=by
  rcases lT.out.2 with⟨hv,_⟩|⟨gq,cq,_,hv,_⟩
  .exact⟨_,_,_,hv⟩
  .exact⟨_,_,_,hv⟩
 subst oR;have aK:Hid (Below w.heap.size w w1):=dB.out.trans (iR.out.below (by omega) (by omega));have gU:w1.heap[w.heap.size+1]?=Z (AI aJ 43 (0,0)):=(iR.out.block _ (by omega) (by omega)).trans Ad;have c0:w1.cell? ⟨w.heap.size+1+1,0,Y⟩=Z (O J id):=af ji.out 0;have q0:w1.cell? ⟨w.heap.size+1,0,Y⟩=Z (O J 0):=af gU 0;have y0:w1.frozen? ⟨w.heap.size+1,0,Y⟩=false:=frozenAt gU 0;have c1:w1.cell? ⟨w.heap.size+1+1,1,Y⟩=Z (AT ay):=af ji.out 1;have q1:w1.cell? ⟨w.heap.size+1,1,Y⟩=Z (AT false):=af gU 1;have y1:w1.frozen? ⟨w.heap.size+1,1,Y⟩=false:=frozenAt gU 1;have c2:w1.cell? ⟨w.heap.size+1+1,2,Y⟩=Z (AT cut):=af ji.out 2;have q2:w1.cell? ⟨w.heap.size+1,2,Y⟩=Z (AT false):=af gU 2;have y2:w1.frozen? ⟨w.heap.size+1,2,Y⟩=false:=frozenAt gU 2;have c3:w1.cell? ⟨w.heap.size+1+1,3,Y⟩=Z (O J code):=af ji.out 3;have q3:w1.cell? ⟨w.heap.size+1,3,Y⟩=Z (O J 0):=af gU 3;have y3:w1.frozen? ⟨w.heap.size+1,3,Y⟩=false:=frozenAt gU 3;have c4:w1.cell? ⟨w.heap.size+1+1,4,Y⟩=Z (I R):=af ji.out 4;have q4:w1.cell? ⟨w.heap.size+1,4,Y⟩=Z (I ⟨#[]⟩):=af gU 4;have y4:w1.frozen? ⟨w.heap.size+1,4,Y⟩=false:=frozenAt gU 4;have c5:w1.cell? ⟨w.heap.size+1+1,5,Y⟩=Z (O J al):=af ji.out 5;have q5:w1.cell? ⟨w.heap.size+1,5,Y⟩=Z (O J 0):=af gU 5;have y5:w1.frozen? ⟨w.heap.size+1,5,Y⟩=false:=frozenAt gU 5;have c6:w1.cell? ⟨w.heap.size+1+1,6,Y⟩=Z (U av lv cv):=af ji.out 6;have q6:w1.cell? ⟨w.heap.size+1,6,Y⟩=Z (U Y 0 0):=af gU 6;have y6:w1.frozen? ⟨w.heap.size+1,6,Y⟩=false:=frozenAt gU 6;clear hY dB iR ji gU Ad;go_wp2_with fail;refine Iy (v:=Il #[Ip #[O J id,AT ay,AT cut,O J code,I R,O J al,U av lv cv],O J 0]) ?_ rfl ⟨U av lv cv,rfl,?_,?_⟩
 .simp[results,Tryz.results19,go_sem,q0,q1,q2,q3,q4,q5,q6]
 .exact(((((((aK.out.setCell (p:=⟨w.heap.size+1,0,Y⟩) (by simp) _).setCell (p:=⟨w.heap.size+1,1,Y⟩) (by simp) _).setCell (p:=⟨w.heap.size+1,2,Y⟩) (by simp) _).setCell (p:=⟨w.heap.size+1,3,Y⟩) (by simp) _).setCell (p:=⟨w.heap.size+1,4,Y⟩) (by simp) _).setCell (p:=⟨w.heap.size+1,5,Y⟩) (by simp) _).setCell (p:=⟨w.heap.size+1,6,Y⟩) (by simp) _)
 .exact Rc.Own.mono (aU (i:=6) (aU (i:=5) (aU (i:=4) (aU (i:=3) (aU (i:=2) (aU (i:=1) (aU (i:=0) lT.out (by omega)) (by omega)) (by omega)) (by omega)) (by omega)) (by omega)) (by omega)) (by omega)
theorem uG{id code al:Int}{ay cut:Bool}{R:ByteArray}{rs:List Rc.Rec}(hc:bc id code al R rs=0)(hl:(dI id code al ay cut R rs).length<=512):tn ⟨(dI id code al ay cut R rs).toArray⟩ id code al ay cut R rs:=⟨λg w h=>by
 obtain⟨⟨e1,e2⟩,⟨e3,e4⟩,e5,e6⟩:=KI hc;refine KT g id code al ay cut R rs _ w h ?_ hc (by simp) ⟨⟨e1,by omega⟩,⟨e3,by omega⟩,e5,by omega⟩
 have:(⟨(dI id code al ay cut R rs).toArray⟩:ByteArray).size=(dI id code al ay cut R rs).length:=by simp[ByteArray.size]
 omega⟩
def qo(t:ByteArray):Int:=match pA t with
 |none=>1
 |some M=>bc M.id M.code M.al M.R M.rs
theorem LX{t:ByteArray}{M:Ms}(h:pA t=Z M)(hs:t.size<=1000):tn t M.id M.code M.al M.ay M.cut M.R M.rs:=⟨λg w hI=>by
 refine(KZ g t w hI hs).mono ?_;rintro e w' ⟨h1,⟨M',v,h2,_,h4,h5⟩|⟨h2,_⟩⟩
 .have e1:M'=M:=Option.some.inj (h2.symm.trans h)
  subst e1;exact⟨v,h4,h1,h5⟩
 .rw[h] at h2;cases h2⟩
theorem LY(gs gm:Nat)(t:ByteArray)(w:World)(tm:w.heap[gs]?=Z (AI #[I t] 9 (0,0)))(kQ:w.heap[gm]?=Z (AI aJ 43 (0,0)))(hs:t.size<=1000)(hE:qo t≠0) :
 Calls be 51 #[Ig (Z ⟨gs,0,Y⟩),Ig (Z ⟨gm,0,Y⟩)] w λr w'=>r=dC (qo t)/\Hid (Rd gm w w'):=by
 have HR:Hid (∀g W,dA g t 0 W->Calls be 52 #[Ig (Z ⟨g,0,Y⟩)] W (MsP g W (pA t))):=λg W hW=>KZ g t W hW hs;have HEN:Hid (pA t=Y->qo t=1):=λh=>by unfold qo;rw[h]
 have HES:Hid (∀M,pA t=Z M->qo t=bc M.id M.code M.al M.R M.rs):=λM h=>by unfold qo;rw[h]
 have cs:w.cell? ⟨gs,0,Y⟩=Z (I t):=af tm 0;have HE0:Hid (qo t≠0):=hE;clear tm hE;have aB:gm<w.heap.size:=(Ib.1 kQ).1;have HGM:Hid (w.heap[gm]?=Z (AI aJ 43 (0,0))):=kQ;clear kQ;generalize pA t=F at *;generalize qo t=E at *;go_enter Tryz.func51,Tryz.ntmps51;go_wp2_with fail;have Aj:(w.alloc (AI #[I t,O J 0] 107)).heap[w.heap.size]?=Z (AI #[I t,O J 0] 107 (0,0)):=Ie w _;refine(HR.out w.heap.size _ ⟨af Aj 0,af Aj 1,frozenAt Aj 1,by simp⟩).mono ?_;rintro e w1 ⟨h2,⟨M,v,hM,⟨hMR,hMo⟩,rfl,ho⟩|⟨hM,rfl⟩⟩;rotate_left
 .have an:Below w.heap.size w w1:=((Ia _ _).alloc (By _) _).trans (h2.out.below (By _) (by simp))
  exact⟨rfl,by rw[HEN.out hM];rfl,Rd.ff an (By _)⟩
 have AU:Hid (∀j,(M.rs.getD j Rc.dm).ok):=Rc.bN hMo;have af7:Hid (E=bc M.id M.code M.al M.R M.rs):=HES.out M hM;have HC:Hid (∀v W,Rc.Sl W v M.rs->Calls be 28 #[Ip #[O J M.id,AT M.ay,AT M.cut,O J M.code,I M.R,O J M.al,v]] W λr w'=>r=dC E/\Below W.heap.size W w'):=λv W hv=>by
  have h:=j9 M.id M.code M.al M.ay M.cut M.R M.rs v W (by unfold Ii;omega) hv;rw[<- af7.out] at h;exact h
 clear HES HEN hM hMo;have an:Below w.heap.size w w1:=((Ia _ _).alloc (By _) _).trans (h2.out.below (By _) (by simp));have iR:Hid (Rd gm w w1):=Rd.ff an (By _);have lT:Hid (Rc.Own (w.heap.size+1) w1 v M.rs):=ho.out.mono (by simp<;>omega);obtain⟨av,lv,cv,oR⟩:∃a l c,v=U a l c:=by
  rcases lT.out.2 with⟨hv,_⟩|⟨gq,cq,_,hv,_⟩
  .exact⟨_,_,_,hv⟩
  .exact⟨_,_,_,hv⟩
 subst oR;have bf:w1.heap[gm]?=Z (AI aJ 43 (0,0)):=(an.block gm aB).trans HGM.out;have dX:gm<w1.heap.size:=(Ib.1 bf).1;have c0:w1.cell? ⟨gm,0,Y⟩=Z (O J 0):=af bf 0;have z0:w1.frozen? ⟨gm,0,Y⟩=false:=by simp[Ih,bf]
 have c1:w1.cell? ⟨gm,1,Y⟩=Z (AT false):=af bf 1;have z1:w1.frozen? ⟨gm,1,Y⟩=false:=by simp[Ih,bf]
 have c2:w1.cell? ⟨gm,2,Y⟩=Z (AT false):=af bf 2;have z2:w1.frozen? ⟨gm,2,Y⟩=false:=by simp[Ih,bf]
 have c3:w1.cell? ⟨gm,3,Y⟩=Z (O J 0):=af bf 3;have z3:w1.frozen? ⟨gm,3,Y⟩=false:=by simp[Ih,bf]
 have c4:w1.cell? ⟨gm,4,Y⟩=Z (I ⟨#[]⟩):=af bf 4;have z4:w1.frozen? ⟨gm,4,Y⟩=false:=by simp[Ih,bf]
 have c5:w1.cell? ⟨gm,5,Y⟩=Z (O J 0):=af bf 5;have z5:w1.frozen? ⟨gm,5,Y⟩=false:=by simp[Ih,bf]
 have c6:w1.cell? ⟨gm,6,Y⟩=Z (U Y 0 0):=af bf 6;have z6:w1.frozen? ⟨gm,6,Y⟩=false:=by simp[Ih,bf]
 have oP:Hid ((((((((w1.setCell ⟨gm,0,Y⟩ (O J M.id)).setCell ⟨gm,1,Y⟩ (AT M.ay)).setCell ⟨gm,2,Y⟩ (AT M.cut)).setCell ⟨gm,3,Y⟩ (O J M.code)).setCell ⟨gm,4,Y⟩ (I M.R)).setCell ⟨gm,5,Y⟩ (O J M.al)).setCell ⟨gm,6,Y⟩ (U av lv cv)).heap[gm]?=Z (AI #[O J M.id,AT M.ay,AT M.cut,O J M.code,I M.R,O J M.al,U av lv cv] 43 (0,0))):=(Is (i:=6) (Is (i:=5) (Is (i:=4) (Is (i:=3) (Is (i:=2) (Is (i:=1) (Is (i:=0) bf (O J M.id)) (AT M.ay)) (AT M.cut)) (O J M.code)) (I M.R)) (O J M.al)) (U av lv cv));have kP:Hid (Rd gm w (((((((w1.setCell ⟨gm,0,Y⟩ (O J M.id)).setCell ⟨gm,1,Y⟩ (AT M.ay)).setCell ⟨gm,2,Y⟩ (AT M.cut)).setCell ⟨gm,3,Y⟩ (O J M.code)).setCell ⟨gm,4,Y⟩ (I M.R)).setCell ⟨gm,5,Y⟩ (O J M.al)).setCell ⟨gm,6,Y⟩ (U av lv cv))):=((((((((iR.out).here 0 _).here 1 _).here 2 _).here 3 _).here 4 _).here 5 _).here 6 _);have jF:Hid (Rc.Own (w.heap.size+1) (((((((w1.setCell ⟨gm,0,Y⟩ (O J M.id)).setCell ⟨gm,1,Y⟩ (AT M.ay)).setCell ⟨gm,2,Y⟩ (AT M.cut)).setCell ⟨gm,3,Y⟩ (O J M.code)).setCell ⟨gm,4,Y⟩ (I M.R)).setCell ⟨gm,5,Y⟩ (O J M.al)).setCell ⟨gm,6,Y⟩ (U av lv cv)) (U av lv cv) M.rs):=(aU (i:=6) (aU (i:=5) (aU (i:=4) (aU (i:=3) (aU (i:=2) (aU (i:=1) (aU (i:=0) lT.out (by omega)) (by omega)) (by omega)) (by omega)) (by omega)) (by omega)) (by omega));clear h2 ho an Aj bf iR;rw[dH HE0.out] at HC;go_wp2_with fail;refine(HC.out _ _ (jF.out.sl AU.out)).mono ?_;rintro e w2 ⟨rfl,aD⟩;exact⟨rfl,(dH HE0.out).symm,kP.out.trans (Rd.ff aD (By _))⟩
theorem PW(t:ByteArray)(w:World)(hl:t.size<=512)(hE:qo t≠0) :
 Calls be 19 #[I t] w λe w'=>e=sh (Il #[Ip aJ,O J 1])/\Below w.heap.size w w':=by
 have tU:Hid (∀(gs gm:Nat) (W:World),W.heap[gs]?=Z (AI #[I t] 9 (0,0))->W.heap[gm]?=Z (AI aJ 43 (0,0))->Calls be 51 #[Ig (Z ⟨gs,0,Y⟩),Ig (Z ⟨gm,0,Y⟩)] W λr w'=>r=dC (qo t)/\Hid (Rd gm W w')):=λgs gm W tm kQ=>LY gs gm t W tm kQ (by omega) hE;have ef:∀args W,(OR 51 args).run be W=.ok (.enter 51 args) W:=enters_of Tryz.func51 (by kernel_rfl) rfl;have EG:decide (512<(t.size:Int))=false:=by simp;omega
 have HE0:Hid (qo t≠0):=hE;have hE2:(qo t==0)=false:=by simpa using hE
 have hE3:(qo t !=0)=true:=by simpa using hE
 clear hl hE;generalize qo t=E at *;go_enter Tryz.func19,Tryz.ntmps19;go_wp2_with fail;obtain⟨w0,du⟩:∃w0,w0=((w.alloc (AI #[I t] 9)).alloc (AI aJ 43)).alloc (AI aJ 43):=⟨_,rfl⟩;rw[<- du];have T8:w0.heap.size=w.heap.size+1+1+1:=by rw[du];simp
 have dB:Hid (Below w.heap.size w w0):=(show Below _ _ _ by rw[du];exact(((Ia _ _).alloc (By _) _).alloc (by simp) _).alloc (by simp;omega) _);have tm:w0.heap[w.heap.size]?=Z (AI #[I t] 9 (0,0)):=by
  rw[du];exact(I0 _ _ _ (by simp;omega)).trans ((I0 _ _ _ (by simp)).trans (Ie w _))
 have Ad:w0.heap[w.heap.size+1]?=Z (AI aJ 43 (0,0)):=by
  rw[du];have h:=Ie (w.alloc (AI #[I t] 9)) (AI aJ 43);exact(I0 _ _ _ (by simp)).trans (by simpa using h)
 have kQ:w0.heap[w.heap.size+1+1]?=Z (AI aJ 43 (0,0)):=by
  rw[du];have h:=Ie ((w.alloc (AI #[I t] 9)).alloc (AI aJ 43)) (AI aJ 43);simpa using h
 clear du;have kZ:(w0.alloc (AI #[O J 0] 34)).heap[w0.heap.size]?=Z (AI #[O J 0] 34 (0,0)):=Ie w0 _;have hY:Hid (Calls be 26 #[.func (.func 51) #[] #[Ig (Z ⟨w.heap.size,0,Y⟩),Ig (Z ⟨w.heap.size+1+1,0,Y⟩)]] w0 λr w'=>r=sh (O J E)/\Hid (Rd (w.heap.size+1+1) w0 w')):=(show Calls _ _ _ _ _ by
  refine(so 51 #[Ig (Z ⟨w.heap.size,0,Y⟩),Ig (Z ⟨w.heap.size+1+1,0,Y⟩)] E w0 (λW=>Rd (w.heap.size+1+1) (w0.alloc (AI #[O J 0] 34)) W) ef ?_).mono ?_
  .refine(tU.out w.heap.size (w.heap.size+1+1) _ ((I0 w0 _ _ (by omega)).trans tm) ((I0 w0 _ _ (by omega)).trans kQ)).mono ?_
   rintro r w' ⟨rfl,hb⟩;have hk:w'.heap[w0.heap.size]?=Z (AI #[O J 0] 34 (0,0)):=(hb.out.block _ (by simp) (by omega)).trans kZ;exact⟨dH HE0.out,hb.out,af hk 0,frozenAt hk 0,(Ib.1 hk).1⟩
  .rintro r w' ⟨rfl,w1,hR,_,hb⟩
   exact⟨rfl,(Rd.trans (Rd.ext ((IB w0).alloc _)) hR).Cx hb⟩)
 clear kZ tm kQ tU ef;refine hY.out.mono ?_;rintro e w1 ⟨rfl,iR⟩;have aK:Hid (Below w.heap.size w w1):=dB.out.trans (iR.out.below (by omega) (by omega));have gU:w1.heap[w.heap.size+1]?=Z (AI aJ 43 (0,0)):=(iR.out.block _ (by omega) (by omega)).trans Ad;have q0:w1.cell? ⟨w.heap.size+1,0,Y⟩=Z (O J 0):=af gU 0;have y0:w1.frozen? ⟨w.heap.size+1,0,Y⟩=false:=frozenAt gU 0;have q1:w1.cell? ⟨w.heap.size+1,1,Y⟩=Z (AT false):=af gU 1;have y1:w1.frozen? ⟨w.heap.size+1,1,Y⟩=false:=frozenAt gU 1;have q2:w1.cell? ⟨w.heap.size+1,2,Y⟩=Z (AT false):=af gU 2;have y2:w1.frozen? ⟨w.heap.size+1,2,Y⟩=false:=frozenAt gU 2;have q3:w1.cell? ⟨w.heap.size+1,3,Y⟩=Z (O J 0):=af gU 3;have y3:w1.frozen? ⟨w.heap.size+1,3,Y⟩=false:=frozenAt gU 3;have q4:w1.cell? ⟨w.heap.size+1,4,Y⟩=Z (I ⟨#[]⟩):=af gU 4;have y4:w1.frozen? ⟨w.heap.size+1,4,Y⟩=false:=frozenAt gU 4;have q5:w1.cell? ⟨w.heap.size+1,5,Y⟩=Z (O J 0):=af gU 5;have y5:w1.frozen? ⟨w.heap.size+1,5,Y⟩=false:=frozenAt gU 5;have q6:w1.cell? ⟨w.heap.size+1,6,Y⟩=Z (U Y 0 0):=af gU 6;have y6:w1.frozen? ⟨w.heap.size+1,6,Y⟩=false:=frozenAt gU 6;clear hY dB iR gU Ad;go_wp2_with fail;refine Iy (v:=Il #[Ip aJ,O J 1]) ?_ rfl ⟨rfl,?_⟩
 .simp[results,Tryz.results19,go_sem,q0,q1,q2,q3,q4,q5,q6]
 .exact(((((((aK.out.setCell (p:=⟨w.heap.size+1,0,Y⟩) (by simp) _).setCell (p:=⟨w.heap.size+1,1,Y⟩) (by simp) _).setCell (p:=⟨w.heap.size+1,2,Y⟩) (by simp) _).setCell (p:=⟨w.heap.size+1,3,Y⟩) (by simp) _).setCell (p:=⟨w.heap.size+1,4,Y⟩) (by simp) _).setCell (p:=⟨w.heap.size+1,5,Y⟩) (by simp) _).setCell (p:=⟨w.heap.size+1,6,Y⟩) (by simp) _)
end Go.Proofs.YtfidjlcdlakceaaGreatDoor
namespace Go.Proofs.YtfidjlcdlakceaaGreatDoor
namespace Rc
open Go.RowKit
end Rc
end Go.Proofs.YtfidjlcdlakceaaGreatDoor
namespace Go.Proofs.YtfidjlcdlakceaaGreatDoor
open Go.RowKit Go.Lib
theorem FB(t:ByteArray)(w:World)(hl:¬ t.size<=512) :
 Calls be 19 #[I t] w λe w'=>e=sh (Il #[Ip aJ,O J 2])/\Below w.heap.size w w':=by
 have EG:decide (512<(t.size:Int))=true:=by simp;omega
 clear hl;go_enter Tryz.func19,Tryz.ntmps19;go_wp2_with fail;refine Iy (v:=Il #[Ip aJ,O J 2]) ?_ rfl ⟨rfl,?_⟩
 .simp[results,Tryz.results19,go_sem]
 .exact((Ia _ _).alloc (By _) _).alloc (by simp) _
abbrev RdP(t:ByteArray)(w:World)(e:Ending)(w':World):Prop:=
 Below w.heap.size w w'/\((∃M v,pA t=Z M/\t.size<=512/\bc M.id M.code M.al M.R M.rs=0/\e=sh (Il #[Ip #[O J M.id,AT M.ay,AT M.cut,O J M.code,I M.R,O J M.al,v],O J 0])/\Hid (Rc.Own w.heap.size w' v M.rs))\/(∃E:Int,E=(if t.size<=512 then 1 else 2)/\(t.size<=512->qo t≠0)/\e=sh (Il #[Ip aJ,O J E])))
theorem VZ(t:ByteArray)(w:World):Calls be 19 #[I t] w (RdP t w):=by
 by_cases hl:t.size<=512
 .by_cases hE:qo t=0
  .have h2:∃M,pA t=Z M/\bc M.id M.code M.al M.R M.rs=0:=by
    unfold qo at hE;cases hM:pA t with
    |none=>rw[hM] at hE;simp at hE
    |some M=>rw[hM] at hE;exact⟨M,rfl,hE⟩
   obtain⟨M,hM,hc⟩:=h2;refine(zd M.id M.code M.al M.ay M.cut M.R t M.rs w (LX hM (by omega)) hl hc).mono ?_;rintro e w' ⟨v,h1,h2,h3⟩;exact⟨h2,.inl ⟨M,v,hM,hl,hc,h1,h3⟩⟩
  .refine(PW t w hl hE).mono ?_
   rintro e w' ⟨h1,h2⟩;exact⟨h2,.inr ⟨1,by rw[if_pos hl],λ_=>hE,h1⟩⟩
 .refine(FB t w hl).mono ?_
  rintro e w' ⟨h1,h2⟩;exact⟨h2,.inr ⟨2,by rw[if_neg hl],λh=>absurd h hl,h1⟩⟩
abbrev lK:ByteArray:=⟨#[97,46,98]⟩
abbrev lL:ByteArray:=⟨#[1,2,0,0,0,1,0,0,0,0,0,0,1,97,1,98,0,0,1,0,1]⟩
theorem FC:(⟨(iF 258 0 1 false false lK).toArray⟩:ByteArray)=lL:=by kernel_rfl
theorem SN:bQ lK=0:=by kernel_rfl
theorem aaX:(iF 258 0 1 false false lK).length=21:=by kernel_rfl
theorem PX:Reads lL 258 0 1 lK:=⟨λg w h=>by
 have h:=uq g 258 0 1 17 [⟨#[97]⟩,⟨#[98]⟩] lL w h (by decide) (by kernel_rfl) (by kernel_rfl) (by kernel_rfl) (by kernel_rfl) (by kernel_rfl) (by kernel_rfl) (by kernel_rfl)
  ⟨by kernel_rfl,by decide,by kernel_rfl,by kernel_rfl,by decide,by kernel_rfl,by decide,by kernel_rfl⟩ (λl hl=>by
   simp only[List.mem_cons,List.not_mem_nil,or_false] at hl;rcases hl with rfl|rfl<;>kernel_rfl) (by decide) (by decide) (by kernel_rfl) (by kernel_rfl) (by kernel_rfl) (by decide) (by kernel_rfl)
 exact h⟩
theorem xa(w:World)(hm:ML w) :
 Calls be 6 #[] w λe w'=>e=sh (AT true)/\Below w.heap.size w w':=by
 have HW:Hid (Calls be 9 #[qQ 258 0 1 false false lK] w λe w'=>e=sh (Il #[I lL,O J 0])/\Below w.heap.size w w'):=(show Calls _ _ _ _ _ by
  have h:=AX 258 0 1 false false lK w hm (by decide) (by decide) (by decide) SN (by decide) (by rw[aaX];omega);rw[FC] at h;exact h)
 have HR:Hid (∀W,Calls be 19 #[I lL] W λe w'=>e=sh (Il #[qQ 258 0 1 false false lK,O J 0])/\Below W.heap.size W w'):=λW=>Fz 258 0 1 lK lL W PX (by decide) (by decide) (by decide) (by decide) SN (by decide);have bb:lL.size=21:=by kernel_rfl
 clear hm;generalize lL=T at *;go_enter Tryz.func6,Tryz.ntmps6;go_wp2_with fail;refine HW.out.mono ?_;rintro e w1 ⟨rfl,an⟩;have aK:Hid (Below w.heap.size w w1):=an;have dX:=an.size;clear an;go_wp2_with fail;refine(HR.out _).mono ?_;rintro e w2 ⟨rfl,aD⟩;have bD:Hid (Below w.heap.size w w2):=aK.out.trans (aD.mono dX);have dK:=bD.out.size;clear aD aK;have h21:((T.size:Int)==21)=true:=by rw[bb];rfl
 go_wp2_with fail;simp[Ji,results,Tryz.results6];exact bD.out.alloc dK _
end Go.Proofs.YtfidjlcdlakceaaGreatDoor
namespace Go.Proofs.YtfidjlcdlakceaaGreatDoor
open Go.RowKit
theorem C5{id code al:Int}{ay cut:Bool}{R:ByteArray}{rs:List Rc.Rec}(h:CB id code al ay cut R rs=0):bc id code al R rs=0/\(dI id code al ay cut R rs).length<=512/\Ac id code al ay cut R rs=⟨(dI id code al ay cut R rs).toArray⟩:=by
 unfold CB at h;unfold Ac;split at h
 .rename_i h1
  rw[if_pos h1];split at h
  .omega
  .rename_i h2
   exact⟨h1,by omega,by rw[if_neg h2]⟩
 .rename_i h1
  exact absurd h h1
theorem BA{id code al:Int}{ay cut:Bool}{R:ByteArray}{rs:List Rc.Rec}(h:CB id code al ay cut R rs=0)(W:World) :
 Calls be 19 #[I (Ac id code al ay cut R rs)] W λe w'=>∃v,e=sh (Il #[Ip #[O J id,AT ay,AT cut,O J code,I R,O J al,v],O J 0])/\Below W.heap.size W w'/\Hid (Rc.Own W.heap.size w' v rs):=by
 obtain⟨h1,h2,h3⟩:=C5 h;rw[h3];exact zd id code al ay cut R _ rs W (uG h1 h2) (by simp[ByteArray.size];exact h2) h1
variable {w W W':World} {t:ByteArray} {mb a b:Nat} {bad al6:Bool} {mc:Array Value}
variable {k rb:Nat} {wr:World} {rc:Array Value}
variable {t s s1 s8:ByteArray} {a b b1 b2 b3 b4 b5 b6 b7 b8 v2 v3 v4 v5 v6 v7:Nat} {d1 d2 d3 d4 d5 d6 d7 d8:Bool} {la:Int}
variable {id code:Int} {ay cut:Bool} {n v8 v9 b9:Nat} {R:ByteArray} {d9:Bool}
end Go.Proofs.YtfidjlcdlakceaaGreatDoor
