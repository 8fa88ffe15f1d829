import Derived.Test.YtbfghimjdlpicaaGreatDoorna35
import Derived.Test.YtbfghimjdlpicaaGreatDoorna36
import Derived.Test.YtbfghimjdlpicaaGreatDoorna37
import Derived.Test.YtbfghimjdlpicaaGreatDoorna40
set_option maxHeartbeats 25600000
set_option maxRecDepth 100000
open Go.Value renaming slice→J,tuple→Ip,agg→Ik,int→U,pointer→If,string→Y,bool→Ia
open Option renaming some→AI,none→be
open Go.Ending renaming returned→AT
open Go.IntKind renaming i64→O
open Go renaming Ending→OR,heap_alloc_new→Ij,bodyPost_ret→IL,maxLen→Io
open Go.Proofs.Tryz renaming prog→AS
open List renaming length_map→JJ,mem_singleton→IY,length_set→IS,map_set→QZ
open Go.Obj renaming cells→By
open Go.RowKit.Below renaming refl→Ib
open Nat renaming le_refl→Ie,zero_add→ID,le_trans→Is
open Go.Calls renaming mono→Ou
open Array renaming getElem?_eq_some_iff→BY
open Go.Proofs renaming enters_of→Jp
open Bool renaming and_eq_true→IG
namespace Go.Proofs.YtbfghimjdlpicaaGreatDoor
open Go.RowKit
def iZ(C:Nat)(w':World)(g nb:Nat)(L:List Nx)(v:Ev)(Q:Prop)(R:Nt->Prop)(er:Int):Prop:=(er≠0->Q)/\(er=0->∃t',R t'/\∃a k c L',L'.length=L.length/\L'.map (·.n)=t'.ns/\cW C w' nb L'/\lU C w' g (J (AI ⟨nb,0,be⟩) L.length L.length) (J a k c) t'.ls v)
theorem iZ.of{C:Nat}{w':World}{g nb:Nat}{L:List Nx}{v:Ev}{R:Nt->Prop}{er:Int}(h:er=0->∃t',R t'/\∃a k c L',L'.length=L.length/\L'.map (·.n)=t'.ns/\cW C w' nb L'/\lU C w' g (J (AI ⟨nb,0,be⟩) L.length L.length) (J a k c) t'.ls v):iZ C w' g nb L v True R er:=⟨λ_=>trivial,h⟩
def th(w:World)(Q:Prop)(R:Nt->Prop)(e:OR)(w':World):Prop:=Below w.heap.size w w'/\((∃er,er≠0/\Q/\e=AT (Ip #[Ik #[J be 0 0,J be 0 0],U O er]))\/∃t' a k c b l d,R t'/\e=AT (Ip #[Ik #[J a k c,J b l d],U O 0])/\eP w.heap.size w' t' (J a k c) (J b l d))
theorem sn(t:Nt)(Q:Prop)(R:Nt->Prop)(vn vl:Value)(v:Ev)(w:World)(hV:Rv w.heap.size w)(h:fC w t vn vl)(hs:t.Bz)(he:t.e=0)(hP:∀W C g nb ul L,Below w.heap.size w W->w.heap.size<=C->C<=W.heap.size->cW C W nb L->L.map (·.n)=t.ns->lU C W g (J (AI ⟨nb,0,be⟩) L.length L.length) ul t.ls v->Calls AS 23 #[If (AI ⟨g,0,be⟩)] W λe w'=>∃er,e=AT (U O er)/\Below C W w'/\Hid (iZ C w' g nb L v Q R er)) :
 Calls AS 9 #[Ik #[vn,vl],Ik (Cv v)] w (th w Q R):=by
 have od:Hid (∀W,Below w.heap.size w W->Calls AS 21 #[Ik #[vn,vl]] W λe w'=>e=AT (U O 0)/\Below W.heap.size W w'):=λW hW=>by
  have hc:=nE t vn vl W (hV.after hW) (h.below hW) hs (Nt.acp he);rw[he] at hc;exact hc
 have hz:=Nt.aD he;have adY:=h.ns.ok;have Hz:Hid (∀W,Below w.heap.size w W->Calls AS 22 #[Ik #[vn,vl]] W λe w'=>∃nb n a l c,e=AT (Ik #[J (AI ⟨nb,0,be⟩) n n,J a l c])/\Below W.heap.size W w'/\Hid (∃L,n=L.length/\L.map (·.n)=t.ns/\cW W.heap.size w' nb L/\Lt.Own W.heap.size w' (J a l c) t.ls)):=λW hW=>by
  refine(vQ t vn vl W (h.below hW) hz.1 hz.2.1 (λn hn=>Nd.NL (hz.2.2.1 n hn))).mono ?_;rintro e w' ⟨un,a,l,c,L,rfl,ho,hb⟩;have Xz:=ho.un;subst Xz;have hLn:t.ns.length=L.length:=by rw[<- ho.ns,JJ]
  exact⟨_,_,_,_,_,rfl,hb,L,hLn,ho.ns,⟨by omega,ho.row,λx hx=>(ho.own x hx).mono (by omega),λx hx=>adY _ (by rw[<- ho.ns];exact List.mem_map_of_mem hx)⟩,Lt.Own.mono ho.ls (by omega)⟩
 have HP:Hid _:=hP;obtain⟨⟨pn,cn,BB,_⟩,⟨pl,cl,lC,_,_⟩⟩:=h;subst BB lC;clear hP hV hs hz adY he;generalize t.ns.length=n at *;generalize t.ls.length=m at *;obtain⟨k0,k1,k2,k3,nm,⟨p0,p1,p2,p3,p4⟩,⟨s0,s1,s2,s3,s4,s5,s6,s7,s8⟩⟩:=v;simp only[Cv];obtain⟨W0,bP⟩:∃W0,W0=((w.alloc (By #[J pn n cn,J pl m cl] 27)).alloc (By #[U O k0,U O k1,U O k2,U O k3,Y nm,U O p0,U O p1,U O p2,U O p3,U O p4,Y s0,Y s1,Y s2,Y s3,U O s4,U O s5,Ia s6,U O s7,Ia s8] 40)).alloc (By #[J be 0 0,J be 0 0] 27):=⟨_,rfl⟩;have bK:Below w.heap.size w W0:=by rw[bP];exact(((Ib _ _).alloc (Ie _) _).alloc (by simp) _).alloc (by simp;omega) _
 have fj:W0.heap.size=w.heap.size+3:=by rw[bP];simp
 have uk:W0.heap[w.heap.size]?=AI (By #[J pn n cn,J pl m cl] 27 (0,0)):=by rw[bP];exact((Lib.alloc_old _ _ _ (by simp;omega)).trans (Lib.alloc_old _ _ _ (by simp))).trans (Ij w _)
 have N8:W0.heap[w.heap.size+1]?=AI (By #[U O k0,U O k1,U O k2,U O k3,Y nm,U O p0,U O p1,U O p2,U O p3,U O p4,Y s0,Y s1,Y s2,Y s3,U O s4,U O s5,Ia s6,U O s7,Ia s8] 40 (0,0)):=by
  rw[bP];have:=Ij (w.alloc (By #[J pn n cn,J pl m cl] 27)) (By #[U O k0,U O k1,U O k2,U O k3,Y nm,U O p0,U O p1,U O p2,U O p3,U O p4,Y s0,Y s1,Y s2,Y s3,U O s4,U O s5,Ia s6,U O s7,Ia s8] 40);refine(Lib.alloc_old _ _ _ (by simp)).trans ?_;simpa using this
 have hr0:W0.heap[w.heap.size+2]?=AI (By #[J be 0 0,J be 0 0] 27 (0,0)):=by
  rw[bP];have:=Ij ((w.alloc (By #[J pn n cn,J pl m cl] 27)).alloc (By #[U O k0,U O k1,U O k2,U O k3,Y nm,U O p0,U O p1,U O p2,U O p3,U O p4,Y s0,Y s1,Y s2,Y s3,U O s4,U O s5,Ia s6,U O s7,Ia s8] 40)) (By #[J be 0 0,J be 0 0] 27);simpa using this
 have df:Hid _:=bK;have HX:Hid (∀W,Below W0.heap.size W0 W->W.heap[w.heap.size]?=AI (By #[J pn n cn,J pl m cl] 27 (0,0))/\W.heap[w.heap.size+1]?=AI (By #[U O k0,U O k1,U O k2,U O k3,Y nm,U O p0,U O p1,U O p2,U O p3,U O p4,Y s0,Y s1,Y s2,Y s3,U O s4,U O s5,Ia s6,U O s7,Ia s8] 40 (0,0))/\W.heap[w.heap.size+2]?=AI (By #[J be 0 0,J be 0 0] 27 (0,0))):=λW hW=>⟨(hW.block _ (by omega)).trans uk,(hW.block _ (by omega)).trans N8,(hW.block _ (by omega)).trans hr0⟩;have MV:Hid (∀W:World,W.heap[w.heap.size]?=AI (By #[J pn n cn,J pl m cl] 27 (0,0))->W.heap[w.heap.size+1]?=AI (By #[U O k0,U O k1,U O k2,U O k3,Y nm,U O p0,U O p1,U O p2,U O p3,U O p4,Y s0,Y s1,Y s2,Y s3,U O s4,U O s5,Ia s6,U O s7,Ia s8] 40 (0,0))->W.cell? ⟨w.heap.size,0,be⟩=AI (J pn n cn)/\W.cell? ⟨w.heap.size,1,be⟩=AI (J pl m cl)/\W.cell? ⟨w.heap.size+1,0,be⟩=AI (U O k0)/\W.cell? ⟨w.heap.size+1,1,be⟩=AI (U O k1)/\W.cell? ⟨w.heap.size+1,2,be⟩=AI (U O k2)/\W.cell? ⟨w.heap.size+1,3,be⟩=AI (U O k3)/\W.cell? ⟨w.heap.size+1,4,be⟩=AI (Y nm)/\W.cell? ⟨w.heap.size+1,5,be⟩=AI (U O p0)/\W.cell? ⟨w.heap.size+1,6,be⟩=AI (U O p1)/\W.cell? ⟨w.heap.size+1,7,be⟩=AI (U O p2)/\W.cell? ⟨w.heap.size+1,8,be⟩=AI (U O p3)/\W.cell? ⟨w.heap.size+1,9,be⟩=AI (U O p4)/\W.cell? ⟨w.heap.size+1,10,be⟩=AI (Y s0)/\W.cell? ⟨w.heap.size+1,11,be⟩=AI (Y s1)/\W.cell? ⟨w.heap.size+1,12,be⟩=AI (Y s2)/\W.cell? ⟨w.heap.size+1,13,be⟩=AI (Y s3)/\W.cell? ⟨w.heap.size+1,14,be⟩=AI (U O s4)/\W.cell? ⟨w.heap.size+1,15,be⟩=AI (U O s5)/\W.cell? ⟨w.heap.size+1,16,be⟩=AI (Ia s6)/\W.cell? ⟨w.heap.size+1,17,be⟩=AI (U O s7)/\W.cell? ⟨w.heap.size+1,18,be⟩=AI (Ia s8)):=λW h1 h2=>⟨ae h1 0,ae h1 1,ae h2 0,ae h2 1,ae h2 2,ae h2 3,ae h2 4,ae h2 5,ae h2 6,ae h2 7,ae h2 8,ae h2 9,ae h2 10,ae h2 11,ae h2 12,ae h2 13,ae h2 14,ae h2 15,ae h2 16,ae h2 17,ae h2 18⟩;have n0:=ae uk 0;have n1:=ae uk 1;have tW:Hid _:=fj;clear bK fj uk N8 hr0;go_enter Tryz.func9,Tryz.ntmps9;go_upto_region 1 with fail
 rw[<- bP];clear bP;go_wp2_with fail;refine(od.out W0 df.out).mono ?_;rintro e w1 ⟨rfl,aC⟩;have wA:Hid _:=aC;have aZ:Hid _:=df.out.trans (aC.mono df.out.size);clear aC n0 n1 od;go_wp2_with fail;refine wp_region_held_drew (S:=λW=>W.heap[w.heap.size]?=AI (By #[J pn n cn,J pl m cl] 27 (0,0))/\W.heap[w.heap.size+1]?=AI (By #[U O k0,U O k1,U O k2,U O k3,Y nm,U O p0,U O p1,U O p2,U O p3,U O p4,Y s0,Y s1,Y s2,Y s3,U O s4,U O s5,Ia s6,U O s7,Ia s8] 40 (0,0))) (by kernel_rfl) ⟨(HX.out w1 wA.out).1,(HX.out w1 wA.out).2.1⟩ (λcf=>?_);refine wpAnyH_take (i:=0) (v:=Ik #[J pn n cn,J pl m cl]) rfl (by kernel_rfl) (by kernel_rfl) (by kernel_rfl) (λ_ _ _ h=>h) (Or.inl ⟨by rfl,?hy⟩) (by assumption) ?_
 case hy=>
  intro W Rh;have i0:=ae Rh.1 0;have i1:=ae Rh.1 1;clear Rh cf;go_simp;try with_reducible rfl
 refine cC 2 (v:=Ik #[U O k0,U O k1,U O k2,U O k3,Y nm,U O p0,U O p1,U O p2,U O p3,U O p4,Y s0,Y s1,Y s2,Y s3,U O s4,U O s5,Ia s6,U O s7,Ia s8]) ?_ (hy:=Or.inl ⟨by rfl,λW Rh=>pS 40 (.tmp 3) rfl (w.heap.size+1) rfl 40 #[U O k0,U O k1,U O k2,U O k3,Y nm,U O p0,U O p1,U O p2,U O p3,U O p4,Y s0,Y s1,Y s2,Y s3,U O s4,U O s5,Ia s6,U O s7,Ia s8] (0,0) _ Rh.2 Tryz.underlying40 rfl (by kernel_rfl)⟩);refine cH 1 (λK hK=>?_);have HK:Hid _:=hK;clear hK;go_simp;refine Ou (Hz.out _ (cQ aZ.out)) ?_;rintro e w2 ⟨nb,nn,a,l,c,rfl,aL,SX⟩;have ud:Hid _:=(cQ wA.out).trans (aL.mono wA.out.size);clear aL;refine HK.out _ _ ⟨(HX.out w2 ud.out).1,(HX.out w2 ud.out).2.1⟩ (λcf=>?_);clear HK K;refine cC 3 (v:=Ik #[J (AI ⟨nb,0,be⟩) nn nn,J a l c,U O k0,U O k1,U O k2,U O k3,Y nm,U O p0,U O p1,U O p2,U O p3,U O p4,Y s0,Y s1,Y s2,Y s3,U O s4,U O s5,Ia s6,U O s7,Ia s8]) ?_;refine cH 4 (λK hK=>?_);have HK:Hid _:=hK;clear hK;go_simp;refine HK.out _ _ ⟨((Ib w2.heap.size w2).alloc (Ie _) _).block _ (BY.1 (HX.out w2 ud.out).1).1 |>.trans (HX.out w2 ud.out).1,((Ib w2.heap.size w2).alloc (Ie _) _).block _ (BY.1 (HX.out w2 ud.out).2.1).1 |>.trans (HX.out w2 ud.out).2.1⟩ (λcf=>?_);clear HK K;refine cC 5 (v:=If (AI ⟨w2.heap.size,0,be⟩)) ?_;refine wpAnyH_done (by kernel_rfl) ?_ _;clear cf;go_wp2_with fail;obtain⟨L,hnn,oN,hN,hL⟩:=SX.out;subst hnn;obtain⟨W3,ee⟩:∃W3,W3=w2.alloc (By #[J (AI ⟨nb,0,be⟩) L.length L.length,J a l c,U O k0,U O k1,U O k2,U O k3,Y nm,U O p0,U O p1,U O p2,U O p3,U O p4,Y s0,Y s1,Y s2,Y s3,U O s4,U O s5,Ia s6,U O s7,Ia s8] 74):=⟨_,rfl⟩;have bY:Below w2.heap.size w2 W3:=by rw[ee];exact(Ib _ _).alloc (Ie _) _
 have M5:=wA.out.size;have hC3:=ud.out.size;have El:Hid _:=ud.out.trans (bY.mono hC3);have mJ:W3.heap[w2.heap.size]?=AI (By #[J (AI ⟨nb,0,be⟩) L.length L.length,J a l c,U O k0,U O k1,U O k2,U O k3,Y nm,U O p0,U O p1,U O p2,U O p3,U O p4,Y s0,Y s1,Y s2,Y s3,U O s4,U O s5,Ia s6,U O s7,Ia s8] 74 (0,0)):=by rw[ee];exact Ij w2 _
 have Vl:=HP.out W3 W0.heap.size w2.heap.size nb (J a l c) L (df.out.trans (El.out.mono df.out.size)) df.out.size El.out.size ((hN.below bY (by have:=hN.le;have:=(BY.1 hN.row).1;omega)).mono M5) oN ⟨mJ,hC3,(Lt.Own.mono hL M5).below bY⟩;clear bY mJ hN hL oN SX HP M5;rw[<- ee];clear ee;refine Vl.mono ?_;rintro e w4 ⟨er,rfl,eV,HPI⟩;have KQ:=(eV.block _ (by have:=tW.out;omega)).trans (HX.out W3 El.out).2.2;have g0:=ae KQ 0;have g1:=ae KQ 1;have f0:w4.frozen? ⟨w.heap.size+2,0,be⟩=false:=aA KQ 0;have f1:w4.frozen? ⟨w.heap.size+2,1,be⟩=false:=aA KQ 1;by_cases aP:er=0
 .subst aP
  obtain⟨t4,hR4,a4,k4,c4,L4,VN,VO,hN4,hP4⟩:=HPI.out.2 rfl;clear g0 g1 f0 f1;have x0:w4.cell? ⟨w2.heap.size,0,be⟩=AI (J (AI ⟨nb,0,be⟩) L.length L.length):=ae hP4.hg 0;have x1:w4.cell? ⟨w2.heap.size,1,be⟩=AI (J a4 k4 c4):=ae hP4.hg 1;obtain⟨W5,iF⟩:∃W5,W5=aF (w.heap.size+2) [J (AI ⟨nb,0,be⟩) L.length L.length,J a4 k4 c4] 0 w4:=⟨_,rfl⟩;have LX:W5.heap[w.heap.size+2]?=AI (By #[J (AI ⟨nb,0,be⟩) L.length L.length,J a4 k4 c4] 27 (0,0)):=by rw[iF];exact bB [J (AI ⟨nb,0,be⟩) L.length L.length,J a4 k4 c4] [] [J be 0 0,J be 0 0] KQ rfl
  have eU:∀q,q≠w.heap.size+2->W5.heap[q]?=w4.heap[q]?:=λq hq=>by rw[iF];exact bc hq _ _ _
  have tw:∀b,W0.heap.size<=b->b<w4.heap.size->W5.heap[b]?=w4.heap[b]?:=λb hb _=>eU b (by have:=tW.out;omega);have iO:Hid (th w Q R (AT (Ip #[Ik #[J (AI ⟨nb,0,be⟩) L.length L.length,J a4 k4 c4],U O 0])) W5):=by
   refine⟨by rw[iF];exact aU (by omega) _ _ ((df.out.trans (El.out.mono df.out.size)).trans (eV.mono df.out.size)),.inr ⟨t4,_,_,_,_,_,_,hR4,rfl,nb,L4,by rw[VN],VO,(hN4.fN tw).mono df.out.size,Lt.Own.mono (eO tw hP4.ls) df.out.size⟩⟩
  have g0:w4.cell? ⟨w.heap.size+2,0,be⟩=AI (J be 0 0):=ae KQ 0;have g1:w4.cell? ⟨w.heap.size+2,1,be⟩=AI (J be 0 0):=ae KQ 1;have f0:=aA KQ 0;have f1:=aA KQ 1;have q0:=ae LX 0;have q1:=ae LX 1;clear KQ LX eU tw hP4 hN4 VO hR4 eV VN HPI Vl HX MV El ud wA aZ df tW hC3 Hz;generalize L.length=nl at *;go_wp2_with fail;simp only[aF,ID] at iF;rw[<- iF];clear iF g0 g1 f0 f1 x0 x1;exact IL (v:=Ip #[Ik #[J (AI ⟨nb,0,be⟩) nl nl,J a4 k4 c4],U O 0]) (by simp[results,Tryz.results9,go_sem,q0,q1]) rfl iO.out
 .have hd:(er==0)=false:=by simpa using aP
  have hd2:(er !=0)=true:=by simpa using aP
  obtain⟨W5,iF⟩:∃W5,W5=aF (w.heap.size+2) [J be 0 0,J be 0 0] 0 w4:=⟨_,rfl⟩;have LX:W5.heap[w.heap.size+2]?=AI (By #[J be 0 0,J be 0 0] 27 (0,0)):=by rw[iF];exact bB [J be 0 0,J be 0 0] [] [J be 0 0,J be 0 0] KQ rfl
  have iO:Hid (th w Q R (AT (Ip #[Ik #[J be 0 0,J be 0 0],U O er])) W5):=by
   exact⟨by rw[iF];exact aU (by omega) _ _ ((df.out.trans (El.out.mono df.out.size)).trans (eV.mono df.out.size)),.inl ⟨er,aP,HPI.out.1 aP,rfl⟩⟩
  have q0:=ae LX 0;have q1:=ae LX 1;clear KQ LX eV Vl HX MV El ud wA aZ df tW hC3 Hz HPI aP;generalize L.length=nl at *;go_wp2_with fail;simp only[aF,ID] at iF;rw[<- iF];clear iF g0 g1 f0 f1;exact IL (v:=Ip #[Ik #[J be 0 0,J be 0 0],U O er]) (by simp[results,Tryz.results9,go_sem,q0,q1]) rfl iO.out
theorem Pu{ms:List Sv.aV}(hr:Sv.aT ms){t x:Sv.aV}{p:Nat}{f:Bool}(cA:Sv.At ms t p f)(hx:x∈ms)(h:Sv.ord x t=0):Sv.eW ms p f=x:=by
 obtain⟨rfl,e⟩:=Pj hr cA hx h;exact e
theorem Pv(ms:List Sv.aV)(s:Sv.aV)(hs:s.ok)(gE:∀x∈ms,x.ok)(hc:Sv.bp ms=0):∃(E:Int) (X:List Sv.aV),(∀x∈X,x.ok)/\(E=0->∃d,XT ms s.node d/\Sv.aJ ms [d]=0/\X=Sv.aB ms [d]) /\ (∀v W,Sv.Sl W v ms->Calls AS 187 #[v,svA s] W λe w'=>∃p l c,e=AT (Ip #[J p l c,U O E])/\Hid (Sv.Own W.heap.size w' (J p l c) X)/\Below W.heap.size W w'):=by
 obtain⟨p,f,cA⟩:=Sv.jT ms (Sv.aj hc).2.1 (Sv.keyOf s);refine⟨Sv.aJ ms [Sv.Cq ms p f s],if Sv.aJ ms [Sv.Cq ms p f s]=0 then Sv.aB ms [Sv.Cq ms p f s] else[],?_,λh0=>⟨Sv.Cq ms p f s,⟨rfl,λx hx e=>?_⟩,h0,if_pos h0⟩,λv W h=>?_⟩
 .split
  .intro x hx
   rcases Sv.dJ _ ms x hx with h|h
   .exact gE x h
   .rw[IY.1 h];exact Sv.WM hs
  .intro x hx;cases hx
 .have:=Pu (Sv.aj hc).2.1 cA hx e
  show _<(Sv.eW ms p f).version+1;rw[this];omega
 .refine(Sv.xo ms v s W h hc hs p f cA).mono ?_
  rintro e w' ⟨v',rfl,h1,h2,h3⟩;have ho:Sv.Own W.heap.size w' v' (if Sv.aJ ms [Sv.Cq ms p f s]=0 then Sv.aB ms [Sv.Cq ms p f s] else[]):=by
   by_cases h0:Sv.aJ ms [Sv.Cq ms p f s]=0
   .rw[if_pos h0];exact h3 h0
   .rw[if_neg h0,h2 h0];exact Sv.cv _ _
  obtain⟨q,c,rfl,_⟩:=aE ho;exact⟨q,_,c,rfl,ho,h1⟩
theorem KR(ms:List Sv.aV)(node bf:ByteArray)(hs:node.size<=Io)(ht:bf.size<=Io)(gE:∀x∈ms,x.ok)(hc:Sv.bp ms=0):∃(E:Int) (X:List Sv.aV),(∀x∈X,x.ok)/\(E=0->∃d,XT ms node d/\Sv.aJ ms [d]=0/\X=Sv.aB ms [d]) /\ (∀v W,Sv.Sl W v ms->Calls AS 188 #[v,Y node,Y bf] W λe w'=>∃p l c,e=AT (Ip #[J p l c,U O E])/\Hid (Sv.Own W.heap.size w' (J p l c) X)/\Below W.heap.size W w'):=by
 obtain⟨p,f,cA⟩:=Sv.jT ms (Sv.aj hc).2.1 ⟨node,bf,⟨#[]⟩,⟨#[]⟩,0,0,false,0,false⟩;refine⟨Sv.pP ms p f node bf,if Sv.pP ms p f node bf=0 then RL.put ms (Sv.sP ms p f) p f else[],?_,λh0=>?_,λv W h=>?_⟩
 .split
  .exact Sv.WV gE (WX gE p f)
  .intro x hx;cases hx
 .have h1:f=true/\Sv.zt ms p f (Sv.rQ (Sv.eW ms p f))=0:=by
   unfold Sv.pP at h0;split at h0
   .split at h0
    .rename_i h2
     cases f
     .cases h2
     .exact⟨rfl,h0⟩
    .cases h0
   .cases h0
  obtain⟨rfl,h2⟩:=h1;obtain⟨j1,j2⟩:=Sv.vv hc cA;have h3:=(cA.is.1 rfl).2;refine⟨Sv.sP ms p true,⟨(bL _ _).1 (RL.fF h3).1,λx hx e=>?_⟩,j1.trans h2,by rw[if_pos h0,j2]⟩;have:=Pu (Sv.aj hc).2.1 cA hx (RL.Keyed.AH Sv.keyed e h3);show _<(Sv.eW ms p true).version+1;rw[this];omega
 .refine(Sv.Hk ms v node bf W h hc hs ht p f cA).mono ?_
  rintro e w' ⟨v',rfl,h1,h23⟩;obtain⟨h2,h3⟩:=h23.out;have ho:Sv.Own W.heap.size w' v' (if Sv.pP ms p f node bf=0 then RL.put ms (Sv.sP ms p f) p f else[]):=by
   by_cases h0:Sv.pP ms p f node bf=0
   .rw[if_pos h0];exact h3 h0
   .rw[if_neg h0,h2 h0];exact Sv.cv _ _
  obtain⟨q,c,rfl,_⟩:=aE ho;exact⟨q,_,c,rfl,ho,h1⟩
theorem KS(gs:List Gw.bN)(name:ByteArray)(addr:Int)(hs:name.size<=Io)(hgs:∀x∈gs,x.ok)(hc:Gw.bp gs=0):∃(E:Int) (X:List Gw.bN),(∀x∈X,x.ok)/\(E=0->∃d,d.av=name/\Gw.aJ gs [d]=0/\X=Gw.aB gs [d]) /\ (∀v W,Gw.Sl W v gs->Calls AS 189 #[v,Y name,U O addr] W λe w'=>∃p l c,e=AT (Ip #[J p l c,U O E])/\Hid (Gw.Own W.heap.size w' (J p l c) X)/\Below W.heap.size W w'):=by
 obtain⟨p,f,cA⟩:=Gw.jT gs (Gw.aj hc).2.1 ⟨name,0,0⟩;refine⟨Gw.aJ gs [Gw.KT gs p f name addr],if Gw.aJ gs [Gw.KT gs p f name addr]=0 then Gw.aB gs [Gw.KT gs p f name addr] else[],?_,λh0=>⟨Gw.KT gs p f name addr,rfl,h0,if_pos h0⟩,λv W h=>?_⟩
 .split
  .intro x hx
   rcases Gw.dJ _ gs x hx with h|h
   .exact hgs x h
   .rw[IY.1 h];exact hs
  .intro x hx;cases hx
 .refine(Gw.KU gs v name addr W h hc hs p f cA).mono ?_
  rintro e w' ⟨v',rfl,h1,h2,h3⟩;have ho:Gw.Own W.heap.size w' v' (if Gw.aJ gs [Gw.KT gs p f name addr]=0 then Gw.aB gs [Gw.KT gs p f name addr] else[]):=by
   by_cases h0:Gw.aJ gs [Gw.KT gs p f name addr]=0
   .rw[if_pos h0];exact h3 h0
   .rw[if_neg h0,h2 h0];exact Gw.cv _ _
  obtain⟨q,c,rfl,_⟩:=aE ho;exact⟨q,_,c,rfl,ho,h1⟩
structure Ev.Ok(v:Ev):Prop where
 k:(Lit.int .i64 v.kind).wf=true
 nm:v.name.size<=Io
 s:v.s.ok
theorem fi{x:Int}{n:Nat}(h:within x 0 ((n:Int)-1)=true):∃j:Nat,x=(j:Int)/\j<n:=by
 have:=within_iff.1 h;exact⟨x.toNat,by omega,by omega⟩
structure pH(t:Nt)(v:Ev)(C g nb:Nat)(ul:Value)(L:List Nx)(W:World):Prop where
 hC:C<=W.heap.size
 N:cW C W nb L
 map:L.map (·.n)=t.ns
 P:lU C W g (J (AI ⟨nb,0,be⟩) L.length L.length) ul t.ls v
 r:bE t
theorem pH.below{t:Nt}{v:Ev}{C g nb:Nat}{ul:Value}{L:List Nx}{W W':World}(h:pH t v C g nb ul L W)(hb:Below W.heap.size W W'):pH t v C g nb ul L W':=⟨Is h.hC hb.size,h.N.below hb h.hC,h.map,h.P.below hb,h.r⟩
theorem pH.len{t:Nt}{v:Ev}{C g nb:Nat}{ul:Value}{L:List Nx}{W:World}(h:pH t v C g nb ul L W):L.length=t.ns.length:=by rw[<- h.map,JJ]
theorem pH.at{t:Nt}{v:Ev}{C g nb:Nat}{ul:Value}{L:List Nx}{W:World}(h:pH t v C g nb ul L W){j:Nat}(hj:j<L.length):(L.getD j cz).n=t.ns.getD j aM/\(L.getD j cz).n.e=0/\iE (L.getD j cz).n:=by
 have e:=vS h.map hj;have hl:=h.len;exact⟨e,by rw[e];exact(Nt.aD h.r.e).2.2.1 _ (ai (by omega) aM),h.N.ok _ (ik hj)⟩
abbrev jk(t:Nt)(v:Ev)(C g nb:Nat)(L:List Nx)(W:World)(e:OR)(w':World):Prop:=∃er,e=AT (U O er)/\Below C W w'/\Hid (iZ C w' g nb L v True (AE t) er)
section
variable {t:Nt} {v:Ev} {C g nb:Nat} {ul:Value} {L:List Nx} {W:World}
theorem pH.sy{W2:World}(h:pH t v C g nb ul L W)(hb:Below W.heap.size W W2){j:Nat}(hj:j<L.length){er:Int}{n':Nd}{e:OR}{w':World}(he:e=AT (U O er)/\Ta C W2 g nb j ul t.ls v L er n' w')(hB:er=0->Ab (L.getD j cz).n n'):jk t v C g nb L W e w':=by
 obtain⟨rfl,h1,h2⟩:=he;refine⟨er,rfl,(hb.mono h.hC).trans h1,iZ.of λhz=>?_⟩;obtain⟨y,hy,hN,hP⟩:=h2 hz;obtain⟨a,c,rfl⟩:=aQ hP.ls;have hl:=h.len;exact⟨⟨t.ns.set j n',t.ls⟩,.inl ⟨j,n',by omega,by rw[<- (h.at hj).1];exact hB hz,rfl⟩,a,_,c,L.set j y,IS,by rw[QZ,h.map,hy],hN,hP⟩
theorem pH.bad(h:pH t v C g nb ul L W){er:Int}(aP:er≠0){e:OR}{w':World}(he:e=AT (U O er)/\Below W.heap.size W w'):jk t v C g nb L W e w':=
 ⟨er,he.1,he.2.mono h.hC,iZ.of λhz=>absurd hz aP⟩
theorem pH.Em(h:pH t v C g nb ul L W)(hk:(Lit.int .i64 v.kind).wf=true)(kf:Nat)(fs cs:Array Value)(eg:∀args w,(callFunc kf args).run AS w=.ok (.enter kf args) w)(hf:wL (vB g W.heap.size) v.kind=AI (.func (.func kf) fs cs))(b:Bool)(hT:∀W2,Below W.heap.size W W2->Calls AS 42 #[If (AI ⟨g,0,be⟩)] W2 λe w'=>e=AT (Ia b)/\Below W2.heap.size W2 w')(hF:b=true->∀W2,Below W.heap.size W W2->W2.heap[W.heap.size]?=AI (By #[If (AI ⟨g,0,be⟩)] 71 (0,0))->Calls AS kf (fs++cs) W2 (jk t v C g nb L W)) :
 Calls AS 23 #[If (AI ⟨g,0,be⟩)] W (jk t v C g nb L W):=by
 have e2:=ae h.P.hg 2;cases b
 .exact(Ku kf fs cs g v.kind W hk hf e2 hT).mono (λe w' he=>h.bad (by decide:(5:Int)≠0) he)
 .exact sd kf fs cs eg g v.kind _ W hk hf e2 hT (hF rfl)
theorem pH.cells(h:pH t v C g nb ul L W):∃a c,ul=J a t.ls.length c/\∀W2,Below W.heap.size W W2->W2.cell? ⟨g,0,be⟩=AI (J (AI ⟨nb,0,be⟩) L.length L.length)/\W2.cell? ⟨g,1,be⟩=AI (J a t.ls.length c)/\W2.cell? ⟨g,2,be⟩=AI (U O v.kind)/\W2.cell? ⟨g,3,be⟩=AI (U O v.which)/\W2.cell? ⟨g,4,be⟩=AI (U O v.other):=by
 obtain⟨a,c,hu⟩:=aQ h.P.ls;refine⟨a,c,hu,λW2 hb=>?_⟩;have hg:=(h.P.below hb).hg;rw[hu] at hg;exact⟨ae hg 0,ae hg 1,ae hg 2,ae hg 3,ae hg 4⟩
theorem pH.one(h:pH t v C g nb ul L W)(hv:v.Ok){c:Int}(hk:v.kind=c)(hc:c=6\/c=7\/c=8\/c=10\/c=11\/c=12)(kf:Nat)(eg:∀args w,(callFunc kf args).run AS w=.ok (.enter kf args) w)(hf:wL (vB g W.heap.size) c=AI (.func (.func kf) #[] #[If (AI ⟨W.heap.size,0,be⟩)]))(hF:∀j:Nat,v.which=(j:Int)->j<L.length->∀W2,Below W.heap.size W W2->W2.heap[W.heap.size]?=AI (By #[If (AI ⟨g,0,be⟩)] 71 (0,0))->Calls AS kf #[If (AI ⟨W.heap.size,0,be⟩)] W2 (jk t v C g nb L W)) :
 Calls AS 23 #[If (AI ⟨g,0,be⟩)] W (jk t v C g nb L W):=by
 obtain⟨a,cc,hu,hq⟩:=h.cells;have AD:L.length<=6:=by rw[h.len];exact(Nt.aD h.r.e).1
 refine h.Em hv.k kf #[] #[If (AI ⟨W.heap.size,0,be⟩)] eg (by rw[hk];exact hf) (within v.which 0 ((L.length:Int)-1)) (λW2 bO=>?_) (λhb W2 bO pQ=>?_)
 .obtain⟨q0,q1,q2,q3,q4⟩:=hq W2 bO
  exact XL c hc g L.length _ _ v.which W2 q0 (by rw[<- hk];exact q2) q3 AD
 .obtain⟨j,hw,hj⟩:=fi hb
  exact hF j hw hj W2 bO pQ
theorem KV(h:pH t v C g nb ul L W)(hv:v.Ok)(hk:v.kind=6):Calls AS 23 #[If (AI ⟨g,0,be⟩)] W (jk t v C g nb L W):=
 h.one hv hk (.inl rfl) 78 (Jp Tryz.func78 (by kernel_rfl) rfl) rfl (λj hw hj W2 bO pQ=>by
  obtain⟨hx,tH,gP⟩:=h.at hj;have h2:=h.below bO;exact(zS C g nb W.heap.size j ul t.ls v L _ _ W2 h2.P h2.N h2.hC hw hj tH pQ ((dA _ _).name) (λW vm vr vs vg vw hI=>yp _ v.name _ _ _ _ _ W hI hv.nm)).mono (λe w' he=>h.sy bO hj he (λhz=>.inl ⟨v.name,1,2,by decide,by decide,hz,rfl⟩)))
theorem Pw(h:pH t v C g nb ul L W)(hv:v.Ok)(hk:v.kind=7):Calls AS 23 #[If (AI ⟨g,0,be⟩)] W (jk t v C g nb L W):=
 h.one hv hk (.inr (.inl rfl)) 81 (Jp Tryz.func81 (by kernel_rfl) rfl) rfl (λj hw hj W2 bO pQ=>by
  obtain⟨hx,tH,gP⟩:=h.at hj;have h2:=h.below bO;exact(BM C g nb W.heap.size j ul t.ls v L _ _ W2 h2.P h2.N h2.hC hw hj tH pQ ((dA _ _).name) (λW vm vr vs vg vw hI=>N4 _ v.name _ _ _ _ _ W hI hv.nm)).mono (λe w' he=>h.sy bO hj he (λhz=>.inl ⟨v.name,2,3,by decide,by decide,hz,rfl⟩)))
theorem KW(h:pH t v C g nb ul L W)(hv:v.Ok)(hk:v.kind=8):Calls AS 23 #[If (AI ⟨g,0,be⟩)] W (jk t v C g nb L W):=
 h.one hv hk (.inr (.inr (.inl rfl))) 83 (Jp Tryz.func83 (by kernel_rfl) rfl) rfl (λj hw hj W2 bO pQ=>by
  obtain⟨hx,tH,gP⟩:=h.at hj;have h2:=h.below bO;exact(zT C g nb W.heap.size j ul t.ls v L _ _ W2 h2.P h2.N h2.hC hw hj tH pQ ((dA _ _).name) (λW vm vr vs vg vw hI=>KB _ _ _ _ _ _ W hI)).mono (λe w' he=>h.sy bO hj he (λhz=>.inr (.inl ⟨hz,rfl⟩))))
theorem KX(h:pH t v C g nb ul L W)(hv:v.Ok)(hk:v.kind=9):Calls AS 23 #[If (AI ⟨g,0,be⟩)] W (jk t v C g nb L W):=by
 obtain⟨a,c,hu,hq⟩:=h.cells;have AD:L.length<=6:=by rw[h.len];exact(Nt.aD h.r.e).1
 refine h.Em hv.k 85 #[] #[If (AI ⟨W.heap.size,0,be⟩)] (Jp Tryz.func85 (by kernel_rfl) rfl) (by rw[hk];rfl) (within v.which 0 ((L.length:Int)-1)&&within v.other 0 ((L.length:Int)-1)) (λW2 bO=>?_) (λhb W2 bO pQ=>?_)
 .obtain⟨q0,q1,q2,q3,q4⟩:=hq W2 bO
  exact zW 9 (.inr (.inr (rfl))) g L.length _ _ v.which v.other W2 q0 (by rw[<- hk];exact q2) q3 q4 AD
 .rw[IG] at hb
  obtain⟨j,hw,hj⟩:=fi hb.1;obtain⟨k,ho,ie⟩:=fi hb.2;obtain⟨hx,tH,gP⟩:=h.at hj;have h2:=h.below bO;refine(zU C g nb W.heap.size j ul t.ls v L _ (LS (L.getD j cz).n (L.getD k cz).n.name v.p v.n) W2 h2.P h2.N h2.hC hw hj tH pQ (rfl) k ho ie (λW vm vr vs vg vw hI=>KF _ (L.getD k cz).n.name v.p v.n _ _ _ _ _ W hI (h.at ie).2.2.name)).mono ?_;exact λe w' he=>h.sy bO hj he (λhz=>.inr (.inr (.inl ⟨_,_,_,hz,rfl⟩)))
theorem KY(h:pH t v C g nb ul L W)(hv:v.Ok)(hk:v.kind=10):Calls AS 23 #[If (AI ⟨g,0,be⟩)] W (jk t v C g nb L W):=
 h.one hv hk (.inr (.inr (.inr (.inl rfl)))) 87 (Jp Tryz.func87 (by kernel_rfl) rfl) rfl (λj hw hj W2 bO pQ=>by
  obtain⟨hx,tH,gP⟩:=h.at hj;have h2:=h.below bO;obtain⟨E,X,hX,hd,hC⟩:=Pv (L.getD j cz).n.sv v.s hv.s gP.sv (Nd.parts (Nd.aD tH).1).sv;exact(zV C g nb W.heap.size j ul t.ls v L _ { (L.getD j cz).n with sv:=X } W2 h2.P h2.N h2.hC hw hj tH pQ (rfl) (λW vm vr vs vg vw hI=>Kz _ v.s E X _ _ _ _ _ W hI hX (λ_=>hC))).mono (λe w' he=>h.sy bO hj he (λhz=>.inr (.inr (.inr (.inl (by
   have hE:E=0/\v.s.node=(L.getD j cz).n.name:=by
    unfold tU at hz;split at hz
    .rename_i h;exact⟨hz,h⟩
    .cases hz
   obtain⟨d,d0,d1,d2⟩:=hd hE.1;exact⟨d,hE.2▸d0,d1,by rw[d2]⟩)))))))
theorem Px(h:pH t v C g nb ul L W)(hv:v.Ok)(hk:v.kind=11):Calls AS 23 #[If (AI ⟨g,0,be⟩)] W (jk t v C g nb L W):=
 h.one hv hk (.inr (.inr (.inr (.inr (.inl rfl))))) 89 (Jp Tryz.func89 (by kernel_rfl) rfl) rfl (λj hw hj W2 bO pQ=>by
  obtain⟨hx,tH,gP⟩:=h.at hj;have h2:=h.below bO;obtain⟨E,X,hX,hd,hC⟩:=KR (L.getD j cz).n.sv (L.getD j cz).n.name v.name gP.name hv.nm gP.sv (Nd.parts (Nd.aD tH).1).sv;exact(BN C g nb W.heap.size j ul t.ls v L _ { (L.getD j cz).n with sv:=X } W2 h2.P h2.N h2.hC hw hj tH pQ (rfl) (λW vm vr vs vg vw hI=>N2 _ v.name E X _ _ _ _ _ W hI hX (λ_=>hC))).mono (λe w' he=>h.sy bO hj he (λhz=>.inr (.inr (.inr (.inl (by
   obtain⟨d,d0,d1,d2⟩:=hd hz;exact⟨d,d0,d1,by rw[d2]⟩)))))))
theorem Py(h:pH t v C g nb ul L W)(hv:v.Ok)(hk:v.kind=12):Calls AS 23 #[If (AI ⟨g,0,be⟩)] W (jk t v C g nb L W):=
 h.one hv hk (.inr (.inr (.inr (.inr (.inr (rfl)))))) 91 (Jp Tryz.func91 (by kernel_rfl) rfl) rfl (λj hw hj W2 bO pQ=>by
  obtain⟨hx,tH,gP⟩:=h.at hj;have h2:=h.below bO;obtain⟨E,X,hX,hd,hC⟩:=KS (L.getD j cz).n.gw (L.getD j cz).n.av v.n gP.av gP.gw (Nd.parts (Nd.aD tH).1).gw;exact(BO C g nb W.heap.size j ul t.ls v L _ { (L.getD j cz).n with gw:=X } W2 h2.P h2.N h2.hC hw hj tH pQ (rfl) (λW vm vr vs vg vw hI=>N3 _ v.n E X _ _ _ _ _ W hI hX (λ_=>hC))).mono (λe w' he=>h.sy bO hj he (λhz=>.inr (.inr (.inr (.inr (by
   obtain⟨d,d0,d1,d2⟩:=hd hz;exact⟨d,d0,d1,by rw[d2]⟩)))))))
theorem Pz(h:pH t v C g nb ul L W)(hv:v.Ok)(hk:v.kind=4):Calls AS 23 #[If (AI ⟨g,0,be⟩)] W (jk t v C g nb L W):=by
 obtain⟨a,c,hu,hq⟩:=h.cells;have h20:=(Nt.aD h.r.e).2.1;refine h.Em hv.k 76 #[If (AI ⟨g,0,be⟩)] #[] (Jp Tryz.func76 (by kernel_rfl) rfl) (by rw[hk];rfl) (within v.which 0 ((t.ls.length:Int)-1)) (λW2 bO=>?_) (λhb W2 bO _=>?_)
 .obtain⟨q0,q1,q2,q3,q4⟩:=hq W2 bO
  exact vT 4 (.inr (.inl rfl)) g t.ls.length _ _ v.which W2 q1 (by rw[<- hk];exact q2) q3 h20
 .obtain⟨j,hw,hj⟩:=fi hb
  have h2:=h.below bO;refine(rV C g j _ ul t.ls v W2 h2.P h20 hw hj).mono ?_;rintro e w' ⟨rfl,hm,a,kk,c,hp⟩;exact⟨0,rfl,(bO.mono h.hC).trans hm.below,iZ.of λ_=>⟨⟨t.ns,t.ls.eraseIdx j⟩,.inr (.inr (.inr (.inr (.inl ⟨j,rfl⟩)))),a,kk,c,L,rfl,h.map,h2.N.mv hm,hp⟩⟩
theorem KZ(h:pH t v C g nb ul L W)(hv:v.Ok)(hk:v.kind=5):Calls AS 23 #[If (AI ⟨g,0,be⟩)] W (jk t v C g nb L W):=by
 obtain⟨a,c,hu,hq⟩:=h.cells;have h20:=(Nt.aD h.r.e).2.1;refine h.Em hv.k 77 #[If (AI ⟨g,0,be⟩)] #[] (Jp Tryz.func77 (by kernel_rfl) rfl) (by rw[hk];rfl) (within v.which 0 ((t.ls.length:Int)-1)) (λW2 bO=>?_) (λhb W2 bO _=>?_)
 .obtain⟨q0,q1,q2,q3,q4⟩:=hq W2 bO
  exact vT 5 (.inr (.inr rfl)) g t.ls.length _ _ v.which W2 q1 (by rw[<- hk];exact q2) q3 h20
 .obtain⟨j,hw,hj⟩:=fi hb
  have h2:=h.below bO;refine(D5 C g j _ ul t.ls v W2 h2.P h2.hC h20 hw hj).mono ?_;rintro e w' ⟨er,rfl,HS⟩;refine⟨er,rfl,(bO.mono h.hC).trans HS.out.1.below,iZ.of λhz=>?_⟩;obtain⟨hl,a,kk,c,hp⟩:=HS.out.2.2 hz;exact⟨⟨t.ns,t.ls++[t.ls.getD j Lt.dm]⟩,.inr (.inr (.inr (.inr (.inr ⟨j,hj,hl,rfl⟩)))),a,kk,c,L,rfl,h.map,h2.N.mv HS.out.1,hp⟩
theorem K0(h:pH t v C g nb ul L W)(hv:v.Ok)(hk:v.kind=2)(hV:Rv W.heap.size W):Calls AS 23 #[If (AI ⟨g,0,be⟩)] W (jk t v C g nb L W):=by
 obtain⟨a,c,hu,hq⟩:=h.cells;have h20:=(Nt.aD h.r.e).2.1;have hl:=h.len;have AD:L.length<=6:=by rw[hl];exact(Nt.aD h.r.e).1
 refine h.Em hv.k 74 #[If (AI ⟨g,0,be⟩)] #[] (Jp Tryz.func74 (by kernel_rfl) rfl) (by rw[hk];rfl) (within v.which 0 ((L.length:Int)-1)&&within v.other 0 ((L.length:Int)-1)) (λW2 bO=>?_) (λhb W2 bO _=>?_)
 .obtain⟨q0,q1,q2,q3,q4⟩:=hq W2 bO
  exact zW 2 (.inr (.inl rfl)) g L.length _ _ v.which v.other W2 q0 (by rw[<- hk];exact q2) q3 q4 AD
 .rw[IG] at hb
  obtain⟨j,hw,hj⟩:=fi hb.1;obtain⟨k,ho,ie⟩:=fi hb.2;obtain⟨hx,tH,gP⟩:=h.at hj;have h2:=h.below bO;refine(tD C g nb j ul t.ls v L W2 h2.P h2.N h2.hC h20 hw hj tH (hV.after bO) (λW zm zs zg zw hT hx=>qL _ _ _ _ _ W hx (.inl rfl) hT)).mono ?_;rintro e w' ⟨er,rfl,HS⟩;refine⟨er,rfl,(bO.mono h.hC).trans HS.out.1.below,iZ.of λhz=>?_⟩;obtain⟨jE,a,kk,c,hp⟩:=HS.out.2.2 hz;refine⟨⟨t.ns,t.ls++[⟨((k:Nat):Int),(bJ (t.ns.getD j aM)).T⟩]⟩,.inr (.inr (.inl ⟨j,k,by omega,by omega,jE,rfl⟩)),a,kk,c,L,rfl,h.map,h2.N.mv HS.out.1,?_⟩;rw[<- hx,<- ho];exact hp
theorem PA(h:pH t v C g nb ul L W)(hv:v.Ok)(hk:v.kind=1){w:World}(hV:Rv w.heap.size w)(hW:Below w.heap.size w W)(hwC:w.heap.size<=C):Calls AS 23 #[If (AI ⟨g,0,be⟩)] W (jk t v C g nb L W):=by
 obtain⟨a,c,hu,hq⟩:=h.cells;have h20:=(Nt.aD h.r.e).2.1;have hl:=h.len;have AD:L.length<=6:=by rw[hl];exact(Nt.aD h.r.e).1
 refine h.Em hv.k 73 #[If (AI ⟨g,0,be⟩)] #[] (Jp Tryz.func73 (by kernel_rfl) rfl) (by rw[hk];rfl) (within v.which 0 ((L.length:Int)-1)&&within v.other 0 ((L.length:Int)-1)) (λW2 bO=>?_) (λhb W2 bO _=>?_)
 .obtain⟨q0,q1,q2,q3,q4⟩:=hq W2 bO
  exact zW 1 (.inl rfl) g L.length _ _ v.which v.other W2 q0 (by rw[<- hk];exact q2) q3 q4 AD
 .rw[IG] at hb
  obtain⟨j,hw,hj⟩:=fi hb.1;obtain⟨k,ho,ie⟩:=fi hb.2;obtain⟨hx,tH,gP⟩:=h.at hj;have h2:=h.below bO;refine(NZ C g nb j ul t.ls v L W2 h2.P h2.N h2.hC h20 hw hj tH (λV D6=>(hV.after ((hW.trans (bO.mono hW.size)).trans (D6.mono hwC))).tab)).mono ?_;rintro e w' ⟨er,rfl,aL,_,HS⟩;refine⟨er,rfl,(bO.mono h.hC).trans aL,iZ.of λhz=>?_⟩;obtain⟨jE,y,a,kk,c,l,rest,ht,hy,hN,hp⟩:=HS hz;refine⟨⟨t.ns.set j { t.ns.getD j aM with rs:=rest },t.ls++[⟨((k:Nat):Int),(rZ (t.ns.getD j aM).name l).T⟩]⟩,.inr (.inl ⟨j,k,l,rest,by omega,by omega,jE,by rw[<- hx];exact ht,rfl⟩),a,kk,c,L.set j y,IS,by rw[QZ,h.map,hy,hx],hN,?_⟩;rw[<- hx,<- ho];exact hp
theorem PC(h:pH t v C g nb ul L W)(hv:v.Ok)(hk:v.kind=3)(hV:Rv W.heap.size W):Calls AS 23 #[If (AI ⟨g,0,be⟩)] W (jk t v C g nb L W):=by
 obtain⟨a,c,hu,hq⟩:=h.cells;have hz:=Nt.aD h.r.e;have hl:=h.len;refine h.Em hv.k 75 #[If (AI ⟨g,0,be⟩)] #[] (Jp Tryz.func75 (by kernel_rfl) rfl) (by rw[hk];rfl) (within v.which 0 ((t.ls.length:Int)-1)) (λW2 bO=>?_) (λhb W2 bO _=>?_)
 .obtain⟨q0,q1,q2,q3,q4⟩:=hq W2 bO
  exact vT 3 (.inl rfl) g t.ls.length _ _ v.which W2 q1 (by rw[<- hk];exact q2) q3 hz.2.1
 .obtain⟨j,hw,hj⟩:=fi hb
  have h2:=h.below bO;have Rn:=ai hj Lt.dm;have aX:=hz.2.2.2.2 _ Rn;have cB:=h.r.sh _ Rn;obtain⟨t_o,tx,hlj⟩:∃t_o tx,t.ls.getD j Lt.dm=⟨t_o,tx⟩:=⟨_,_,rfl⟩;rw[hlj] at aX cB;have h3:within t_o 0 ((t.ns.length:Int)-1)=true/\(sx tx.data.toList).isSome=true:=by
   unfold xu at aX;split at aX
   .rename_i a1
    split at aX
    .rename_i a2;exact⟨a1,a2⟩
    .cases aX
   .cases aX
  obtain⟨k,hto,eJ⟩:=fi h3.1;obtain⟨p,hp⟩:=Option.isSome_iff_exists.1 h3.2;have ie:k<L.length:=by omega
  obtain⟨hx,tH,gP⟩:=h.at ie;have Fl:=(lh.1 hp).2;have hlen:p.whole=true\/p.sv.length+p.gw.length+p.wh.length<=4611686018427387904:=by
   have Fh:=qK Fl;have b1:=Fh.sv.1;have b2:=Fh.gw.1;have b3:=Fh.wh.1;right;omega
  refine(BQ C g nb j k ul t.ls v L p W2 h2.P h2.N h2.hC hz.2.1 hw hj t_o tx hlj hto ie hp cB tH (hV.after bO) (λW vm vr vs vg vw zm zs zg zw hI hx=>vN _ p _ _ _ _ _ _ _ _ _ W hI hx hlen)).mono ?_;rintro e w' ⟨rfl,aL,L',a,kk,c,et,hN,hP⟩;refine⟨0,rfl,(bO.mono h.hC).trans aL,iZ.of λ_=>?_⟩;rcases et with⟨_,rfl⟩|⟨hh,y,hy,rfl⟩
  .exact⟨⟨t.ns,t.ls.eraseIdx j⟩,.inr (.inr (.inr (.inr (.inl ⟨j,rfl⟩)))),a,kk,c,L',rfl,h.map,hN,hP⟩
  .rw[hx] at hh hy
   exact⟨⟨t.ns.set k (ox (t.ns.getD k aM) p),t.ls.eraseIdx j⟩,.inr (.inr (.inr (.inl ⟨j,k,p,hj,eJ,by rw[hlj];exact hp,hh,rfl⟩))),a,kk,c,L.set k y,IS,by rw[QZ,h.map,hy],hN,hP⟩
end
theorem PD(t:Nt)(vn vl:Value)(v:Ev)(w:World)(hV:Rv w.heap.size w)(h:fC w t vn vl)(hr:bE t)(hv:v.Ok) :
 Calls AS 9 #[Ik #[vn,vl],Ik (Cv v)] w (th w True (AE t)):=by
 refine sn t True (AE t) vn vl v w hV h hr.short hr.e (λW C g nb ul L hW hwC hC hN oN hP=>?_);have hp:pH t v C g nb ul L W:=⟨hC,hN,oN,hP,hr⟩;by_cases k6:v.kind=6
 .exact KV hp hv k6
 by_cases k7:v.kind=7
 .exact Pw hp hv k7
 by_cases k8:v.kind=8
 .exact KW hp hv k8
 by_cases k9:v.kind=9
 .exact KX hp hv k9
 by_cases k10:v.kind=10
 .exact KY hp hv k10
 by_cases k11:v.kind=11
 .exact Px hp hv k11
 by_cases k12:v.kind=12
 .exact Py hp hv k12
 by_cases k4:v.kind=4
 .exact Pz hp hv k4
 by_cases k5:v.kind=5
 .exact KZ hp hv k5
 by_cases k2:v.kind=2
 .exact K0 hp hv k2 (hV.after hW)
 by_cases k1:v.kind=1
 .exact PA hp hv k1 hV hW hwC
 by_cases k3:v.kind=3
 .exact PC hp hv k3 (hV.after hW)
 refine(Kt g v.kind W hv.k ?_ (ae hP.hg 2)).mono (λe w' he=>hp.bad (by decide:(7:Int)≠0) he);simp[vB,wL,k1,k2,k3,k4,k5,k6,k7,k8,k9,k10,k11,k12]
theorem th.says{w w':World}{t':Nt}{e:OR}(h:th w False (λx=>x=t') e w'):lp w t' e w':=by
 obtain⟨hb,⟨_,_,hq,_⟩|⟨x,a,k,c,b,l,d,rfl,he,hn⟩⟩:=h
 .exact hq.elim
 .exact⟨hb,a,k,c,b,l,d,he,hn⟩
theorem wB(t:Nt)(vn vl:Value)(v:Ev)(w:World)(j k:Nat)(hV:Rv w.heap.size w)(h:fC w t vn vl)(hr:bE t)(hk:v.kind=2)(hw:v.which=(j:Int))(hj:j<t.ns.length)(ho:v.other=(k:Int))(eJ:k<t.ns.length)(h20:t.ls.length<20) :
 Calls AS 9 #[Ik #[vn,vl],Ik (Cv v)] w (lp w ⟨t.ns,t.ls++[⟨v.other,(bJ (t.ns.getD j aM)).T⟩]⟩):=by
 refine(sn t False (λx=>x=⟨t.ns,t.ls++[⟨v.other,(bJ (t.ns.getD j aM)).T⟩]⟩) vn vl v w hV h hr.short hr.e (λW C g nb ul L hW hwC hC hN oN hP=>?_)).mono (λe w' h=>h.says);have hp:pH t v C g nb ul L W:=⟨hC,hN,oN,hP,hr⟩;obtain⟨a,c,hu,hq⟩:=hp.cells;have hl:=hp.len;have AD:L.length<=6:=by rw[hl];exact(Nt.aD hr.e).1
 refine sd 74 #[If (AI ⟨g,0,be⟩)] #[] (Jp Tryz.func74 (by kernel_rfl) rfl) g 2 (λer w'=>Below C W w'/\Hid (iZ C w' g nb L v False (λx=>x=⟨t.ns,t.ls++[⟨v.other,(bJ (t.ns.getD j aM)).T⟩]⟩) er)) W (by decide) rfl (by rw[<- hk];exact ae hP.hg 2) (λW2 bO=>?_) (λW2 bO _=>?_)
 .obtain⟨q0,q1,q2,q3,q4⟩:=hq W2 bO
  have:=zW 2 (.inr (.inl rfl)) g L.length _ _ v.which v.other W2 q0 (by rw[<- hk];exact q2) q3 q4 AD;rw[hw,ho,lq (by omega),lq (by omega)] at this;exact this
 .obtain⟨hx,tH,gP⟩:=hp.at (j:=j) (by omega)
  have h2:=hp.below bO;refine(tD C g nb j ul t.ls v L W2 h2.P h2.N h2.hC (by omega) hw (by omega) tH ((hV.after hW).after bO) (λW zm zs zg zw hT hx=>qL _ _ _ _ _ W hx (.inl rfl) hT)).mono ?_;rintro e w' ⟨er,rfl,HS⟩;obtain rfl:=HS.out.2.1 h20;obtain⟨_,a,kk,c,qW⟩:=HS.out.2.2 rfl;rw[hx] at qW;exact⟨0,rfl,(bO.mono hC).trans HS.out.1.below,⟨λh=>absurd rfl h,λ_=>⟨_,rfl,a,kk,c,L,rfl,oN,h2.N.mv HS.out.1,qW⟩⟩⟩
theorem yH(t:Nt)(vn vl:Value)(v:Ev)(w:World)(j k:Nat)(p:Pk)(hV:Rv w.heap.size w)(h:fC w t vn vl)(hr:bE t)(hk:v.kind=3)(hw:v.which=(j:Int))(hj:j<t.ls.length)(tx:ByteArray)(hlj:t.ls.getD j Lt.dm=⟨(k:Int),tx⟩)(eJ:k<t.ns.length)(BR:sx tx.data.toList=AI p)(hh:nr (t.ns.getD k aM) p=0) :
 Calls AS 9 #[Ik #[vn,vl],Ik (Cv v)] w (lp w ⟨t.ns.set k (ox (t.ns.getD k aM) p),t.ls.eraseIdx j⟩):=by
 refine(sn t False (λx=>x=⟨t.ns.set k (ox (t.ns.getD k aM) p),t.ls.eraseIdx j⟩) vn vl v w hV h hr.short hr.e (λW C g nb ul L hW hwC hC hN oN hP=>?_)).mono (λe w' h=>h.says);have hp:pH t v C g nb ul L W:=⟨hC,hN,oN,hP,hr⟩;obtain⟨a,c,hu,hq⟩:=hp.cells;have hl:=hp.len;have hz:=Nt.aD hr.e;refine sd 75 #[If (AI ⟨g,0,be⟩)] #[] (Jp Tryz.func75 (by kernel_rfl) rfl) g 3 (λer w'=>Below C W w'/\Hid (iZ C w' g nb L v False (λx=>x=⟨t.ns.set k (ox (t.ns.getD k aM) p),t.ls.eraseIdx j⟩) er)) W (by decide) rfl (by rw[<- hk];exact ae hP.hg 2) (λW2 bO=>?_) (λW2 bO _=>?_)
 .obtain⟨q0,q1,q2,q3,q4⟩:=hq W2 bO
  have:=vT 3 (.inl rfl) g t.ls.length _ _ v.which W2 q1 (by rw[<- hk];exact q2) q3 hz.2.1;rw[hw,lq hj] at this;exact this
 .obtain⟨hx,tH,gP⟩:=hp.at (j:=k) (by omega)
  have h2:=hp.below bO;have Fh:=qK (lh.1 BR).2;have cB:=hr.sh _ (ai hj Lt.dm);rw[hlj] at cB;refine(BQ C g nb j k ul t.ls v L p W2 h2.P h2.N h2.hC hz.2.1 hw hj _ tx hlj rfl (by omega) BR cB tH ((hV.after hW).after bO) (λW vm vr vs vg vw zm zs zg zw hI hx=>vN _ p _ _ _ _ _ _ _ _ _ W hI hx (.inr (by have b1:=Fh.sv.1;have b2:=Fh.gw.1;have b3:=Fh.wh.1;omega)))).mono ?_;rintro e w' ⟨rfl,aL,L',a,kk,c,et,hN,hP⟩;rcases et with⟨aP,_⟩|⟨_,y,hy,rfl⟩
  .rw[hx] at aP;exact absurd hh aP
  .rw[hx] at hy
   exact⟨0,rfl,(bO.mono hC).trans aL,⟨λh=>absurd rfl h,λ_=>⟨_,rfl,a,kk,c,L.set k y,IS,by rw[QZ,oN,hy],hN,hP⟩⟩⟩
def K1:Nd:=LP ⟨#[97]⟩ ⟨#[99]⟩ 1 false
def K2:Nd:=LP ⟨#[98]⟩ ⟨#[99]⟩ 2 true
def B2:Pk:=bJ K1
def nbC:Nd:=ox K2 B2
def ev1:Ev:=⟨2,0,1,0,⟨#[]⟩,⟨0,0,0,0,0⟩,⟨⟨#[]⟩,⟨#[]⟩,⟨#[]⟩,⟨#[]⟩,0,0,false,0,false⟩⟩
def ev2:Ev:=⟨3,0,0,0,⟨#[]⟩,⟨0,0,0,0,0⟩,⟨⟨#[]⟩,⟨#[]⟩,⟨#[]⟩,⟨#[]⟩,0,0,false,0,false⟩⟩
theorem adZ:SH ⟨#[97]⟩ ⟨#[99]⟩ 1=0:=by kernel_rfl
theorem ad0:SH ⟨#[98]⟩ ⟨#[99]⟩ 2=0:=by kernel_rfl
theorem VP:(Nt.mk [K1,K2] []).e=0:=by kernel_rfl
theorem VQ:B2.e=0:=by kernel_rfl
theorem XY:B2.B.length<=1000:=of_decide_eq_true (by kernel_rfl)
theorem ajK:nr K2 B2=0:=by kernel_rfl
theorem ad1:nbC.ms.length=2:=by kernel_rfl
theorem ad2:B2.T.data.toList=B2.B:=by unfold Pk.T;rw[if_pos VQ]
theorem VR:sx B2.T.data.toList=AI B2:=by rw[ad2];exact lh.2 ⟨rfl,VQ⟩
theorem VS:B2.T.data.toList.length<=1000:=by rw[ad2];exact XY
theorem XZ:lD [K1,K2]=0:=by kernel_rfl
theorem ad3:xu 2 ⟨1,B2.T⟩=0:=by
 unfold xu;simp only[VR];rfl
theorem ad4:(Nt.mk [K1,K2] [⟨1,B2.T⟩]).e=0:=by
 rw[Nt.sW (by simp) XZ];exact if_pos ad3
theorem bsize(s:ByteArray):s.size=s.data.toList.length:=by rw[Array.length_toList];rfl
theorem PE(nm ct:ByteArray)(ad:Int)(sv:Bool)(he:SH nm ct ad=0)(hn:nm.size<=Io)(hc:ct.size<=Io)(W:World) :
 Calls AS 14 #[Y nm,Y ct,U O ad,Ia sv] W λe w'=>Below W.heap.size W w'/\∃a2 wN oO a3 wO pI a4 wP oP a5 wQ oQ a6 wR wS,e=AT (Ip #[Ik #[Y nm,Y ct,J a2 wN oO,J a3 wO pI,J a4 wP oP,J a5 wQ oQ,U O 0,U O 0,U O 0,U O 0,U O 1000,J a6 wR wS],U O 0])/\Hid (eY w' (LP nm ct ad sv) (J a2 wN oO) (J a3 wO pI) (J a4 wP oP) (J a5 wQ oQ) (J a6 wR wS)):=by
 refine(uu nm ct ad sv W hn hc).mono ?_;rintro e w' ⟨hb,⟨aP,_⟩|⟨_,aP,_⟩|⟨_,_,um,ur,us,ug,uw,rfl,ho,hk⟩⟩
 .exact absurd he aP
 .exact absurd rfl aP
 .have hI:=ho.is hk
  obtain⟨x2,y2,e2⟩:=aQ ho.ms;obtain⟨x3,y3,e3⟩:=aQ ho.rs;obtain⟨x4,y4,e4⟩:=aQ ho.sv;obtain⟨x5,y5,e5⟩:=aQ ho.gw;obtain⟨x6,y6,e6⟩:=aQ ho.wh;subst e2 e3 e4 e5 e6;exact⟨hb,_,_,_,_,_,_,_,_,_,_,_,_,_,_,_,rfl,hI⟩
theorem ajL{W:World}{b:Nat}{n m:Nd}{v1 v2 v3 v4 v5 u1 u2 u3 u4 u5:Value}(hb:W.heap[b]?=AI (By (dE n v1 v2 v3 v4 v5++dE m u1 u2 u3 u4 u5) 50 (0,0)))(hn:eY W n v1 v2 v3 v4 v5)(hm:eY W m u1 u2 u3 u4 u5):xv W (J (AI ⟨b,0,be⟩) 2 2) [n,m]:=by
 refine⟨_,_,rfl,.inr ⟨b,0,rfl,(BY.1 hb).1,λj hj=>?_⟩⟩;have hj2:j<2:=hj;rcases Nat.lt_or_ge j 1 with h1|h1
 .have:j=0:=by omega
  subst this;refine⟨_,_,_,_,_,hn,λi hi=>(ae hb _).trans ?_⟩;rw[show 0+0*12+i=i by omega,Array.getElem?_append_left (show i<(dE n v1 v2 v3 v4 v5).size from hi)];rfl
 .have:j=1:=by omega
  subst this;refine⟨_,_,_,_,_,hm,λi hi=>(ae hb _).trans ?_⟩;rw[show 0+1*12+i=12+i by omega,Array.getElem?_append_right (show(dE n v1 v2 v3 v4 v5).size<=12+i from Nat.le_add_right _ _),show 12+i-(dE n v1 v2 v3 v4 v5).size=i from Nat.add_sub_cancel_left _ _];rfl
theorem eP.fN{C:Nat}{w w':World}{t:Nt}{un ul:Value}(h:eP C w t un ul)(hk:∀b,C<=b->b<w.heap.size->w'.heap[b]?=w.heap[b]?):eP C w' t un ul:=by
 obtain⟨nb,L,h1,h2,h3,h4⟩:=h;exact⟨nb,L,h1,h2,h3.fN hk,eO hk h4⟩
theorem xA(w:World)(hV:Rv w.heap.size w) :
 Calls AS 4 #[] w λe w'=>e=AT (Ia true)/\Below w.heap.size w w':=by
 have HNA:=PE ⟨#[97]⟩ ⟨#[99]⟩ 1 false adZ (by decide) (by decide);have Du:=PE ⟨#[98]⟩ ⟨#[99]⟩ 2 true ad0 (by decide) (by decide);have ad5:Hid _:=HNA;have ad6:Hid _:=Du;clear HNA Du;have Si:Hid (∀W v,Below w.heap.size w W->xv W v [K1,K2]->Calls AS 15 #[v] W λe w'=>Below W.heap.size W w'/\∃a l c d m k,e=AT (Ip #[Ik #[J a l c,J d m k],U O 0])/\Hid (fC w' ⟨[K1,K2],[]⟩ (J a l c) (J d m k))):=λW v hW hv=>by
  refine(vR [K1,K2] v W (hV.after hW) hv).mono ?_;rintro e w' ⟨hb,⟨_,a,l,c,d,m,k,nb,L,rfl,ho⟩|⟨aP,_⟩⟩
  .exact⟨hb,_,_,_,_,_,_,rfl,⟨ho.sl hv.ok,Lt.bM ho.ls (λm hm=>by cases hm)⟩⟩
  .exact absurd VP aP
 have vh:Hid (∀W a l c d m k,Below w.heap.size w W->fC W ⟨[K1,K2],[]⟩ (J a l c) (J d m k)->Calls AS 9 #[Ik #[J a l c,J d m k],Ik #[U O 2,U O 0,U O 1,U O 0,Y ⟨#[]⟩,U O 0,U O 0,U O 0,U O 0,U O 0,Y ⟨#[]⟩,Y ⟨#[]⟩,Y ⟨#[]⟩,Y ⟨#[]⟩,U O 0,U O 0,Ia false,U O 0,Ia false]] W λe w'=>Below W.heap.size W w'/\∃a k c b l d,e=AT (Ip #[Ik #[J a k c,J b l d],U O 0])/\Hid (eP W.heap.size w' ⟨[K1,K2],[⟨1,B2.T⟩]⟩ (J a k c) (J b l d))):=λW a l c d m k hW h=>
  wB ⟨[K1,K2],[]⟩ _ _ ev1 W 0 1 (hV.after hW) h ⟨VP,λl hl=>by cases hl⟩ rfl rfl (by simp) rfl (by simp) (by simp)
 have HS2:Hid (∀W a l c d m k,Below w.heap.size w W->fC W ⟨[K1,K2],[⟨1,B2.T⟩]⟩ (J a l c) (J d m k)->Calls AS 9 #[Ik #[J a l c,J d m k],Ik #[U O 3,U O 0,U O 0,U O 0,Y ⟨#[]⟩,U O 0,U O 0,U O 0,U O 0,U O 0,Y ⟨#[]⟩,Y ⟨#[]⟩,Y ⟨#[]⟩,Y ⟨#[]⟩,U O 0,U O 0,Ia false,U O 0,Ia false]] W λe w'=>Below W.heap.size W w'/\∃a k c b l d,e=AT (Ip #[Ik #[J a k c,J b l d],U O 0])/\Hid (eP W.heap.size w' ⟨[K1,nbC],[]⟩ (J a k c) (J b l d))):=λW a l c d m k hW h=>
  yH ⟨[K1,K2],[⟨1,B2.T⟩]⟩ _ _ ev2 W 0 1 B2 (hV.after hW) h ⟨ad4,λl hl=>by rw[IY.1 hl];show B2.T.size<=16777216;rw[bsize];have:=VS;omega⟩ rfl rfl (by simp) B2.T rfl (by simp) VR ajK
 clear hV;go_enter Tryz.func4,Tryz.ntmps4;go_wp2_with fail;refine Ou (ad5.out _) ?_;rintro e w1 ⟨aC,a2,wN,oO,a3,wO,pI,a4,wP,oP,a5,wQ,oQ,a6,wR,wS,rfl,HA1⟩;have aZ:Hid _:=aC;clear aC ad5;obtain⟨W1,db⟩:∃W1,W1=w1.alloc (By #[Y ⟨#[97]⟩,Y ⟨#[99]⟩,J a2 wN oO,J a3 wO pI,J a4 wP oP,J a5 wQ oQ,U O 0,U O 0,U O 0,U O 0,U O 1000,J a6 wR wS] 50):=⟨_,rfl⟩;have aC:Below w1.heap.size w1 W1:=by rw[db];exact(Ib _ _).alloc (Ie _) _
 have SV:Hid _:=HA1.out.below aC;have jI:Hid _:=aZ.out.trans (aC.mono aZ.out.size);have xf:Hid (W1.heap[w1.heap.size]?=AI (By #[Y ⟨#[97]⟩,Y ⟨#[99]⟩,J a2 wN oO,J a3 wO pI,J a4 wP oP,J a5 wQ oQ,U O 0,U O 0,U O 0,U O 0,U O 1000,J a6 wR wS] 50 (0,0))):=by show _=_;rw[db];exact Ij w1 _
 clear aC aZ HA1;go_wp2_with fail;rw[<- db];clear db;refine Ou (ad6.out _) ?_;rintro e w2 ⟨aL,b2,bi2,En,b3,bi3,K3,b4,bi4,Eo,b5,bi5,Ep,b6,bi6,bc6,rfl,T3⟩;have bA:Hid _:=jI.out.trans (aL.mono jI.out.size);have HA3:Hid _:=SV.out.below aL;have yR:Hid _:=(aL.block _ (BY.1 xf.out).1).trans xf.out;clear aL ad6 SV xf jI;obtain⟨W2,bO⟩:∃W2,W2=w2.alloc (By #[Y ⟨#[98]⟩,Y ⟨#[99]⟩,J b2 bi2 En,J b3 bi3 K3,J b4 bi4 Eo,J b5 bi5 Ep,U O 0,U O 0,U O 0,U O 0,U O 1000,J b6 bi6 bc6] 50):=⟨_,rfl⟩;have aL:Below w2.heap.size w2 W2:=by rw[bO];exact(Ib _ _).alloc (Ie _) _
 have cI:=(aL.block _ (BY.1 yR.out).1).trans yR.out;have dO:W2.heap[w2.heap.size]?=AI (By #[Y ⟨#[98]⟩,Y ⟨#[99]⟩,J b2 bi2 En,J b3 bi3 K3,J b4 bi4 Eo,J b5 bi5 Ep,U O 0,U O 0,U O 0,U O 0,U O 1000,J b6 bi6 bc6] 50 (0,0)):=by rw[bO];exact Ij w2 _
 have HA4:Hid _:=HA3.out.below aL;have Gz:Hid _:=T3.out.below aL;have rq:Hid _:=bA.out.trans (aL.mono bA.out.size);obtain⟨p0,p1,p2,p3,p4,p5,p6,p7,p8,p9,p10,p11⟩:=bQ cI;obtain⟨q0,q1,q2,q3,q4,q5,q6,q7,q8,q9,q10,q11⟩:=bQ dO;clear aL cI dO HA3 T3 bA yR;obtain⟨W3,ee,bY,-,mJ⟩:=bV W2 #[Y ⟨#[97]⟩,Y ⟨#[99]⟩,J a2 wN oO,J a3 wO pI,J a4 wP oP,J a5 wQ oQ,U O 0,U O 0,U O 0,U O 0,U O 1000,J a6 wR wS,Y ⟨#[98]⟩,Y ⟨#[99]⟩,J b2 bi2 En,J b3 bi3 K3,J b4 bi4 Eo,J b5 bi5 Ep,U O 0,U O 0,U O 0,U O 0,U O 1000,J b6 bi6 bc6] 50;have og:Hid _:=rq.out.trans (bY.mono rq.out.size);have HNW:=Si.out W3 (J (AI ⟨W2.heap.size,0,be⟩) 2 2) og.out (ajL mJ (HA4.out.below bY) (Gz.out.below bY));clear bY mJ HA4 Gz Si;go_upto_region 3 with fail
 rw[<- bO];clear bO;go_wp2_with fail;rw[<- ee];clear ee p0 q0 p1 q1 p2 q2 p3 q3 p4 q4 p5 q5 p6 q6 p7 q7 p8 q8 p9 q9 p10 q10 p11 q11;refine Ou HNW ?_;rintro e w4 ⟨eV,a,l,c,d,m,k,rfl,HN4⟩;have gC:Hid _:=og.out.trans (eV.mono og.out.size);clear eV HNW og rq;obtain⟨W4,nU,eV,-,LY⟩:=bV w4 #[J a l c,J d m k] 27;have AW:Hid _:=gC.out.trans (eV.mono gC.out.size);have ad8:=vh.out W4 a l c d m k AW.out (HN4.out.below eV);have x0:=ae LY 0;have x1:=ae LY 1;have Fa:Hid _:=LY;have RM:Hid (w.heap.size<=w4.heap.size):=gC.out.size;clear eV LY HN4 vh gC;go_upto_region 4 with fail
 rw[<- nU];clear nU;go_wp2_with fail;refine Ou ad8 ?_;rintro e w5 ⟨j9,a5_,l5_,c5_,d5_,m5_,k5_,rfl,Dv⟩;have mc:w5.heap[w4.heap.size]?=AI (By #[J a l c,J d m k] 27 (0,0)):=(j9.block _ (BY.1 Fa.out).1).trans Fa.out;have jd:Hid _:=AW.out.trans (j9.mono AW.out.size);have acw:=(BY.1 Fa.out).1;obtain⟨W5,iF⟩:∃W5,W5=aF w4.heap.size [J a5_ l5_ c5_,J d5_ m5_ k5_] 0 w5:=⟨_,rfl⟩;have LX:W5.heap[w4.heap.size]?=AI (By #[J a5_ l5_ c5_,J d5_ m5_ k5_] 27 (0,0)):=by rw[iF];exact bB [J a5_ l5_ c5_,J d5_ m5_ k5_] [] [J a l c,J d m k] mc rfl
 have eU:∀q,q≠w4.heap.size->W5.heap[q]?=w5.heap[q]?:=λq hq=>by rw[iF];exact bc hq _ _ _
 have zN:Hid (Below w.heap.size w W5):=by show Below _ _ _;rw[iF];exact aU RM.out _ _ jd.out
 have hI5:=(Dv.out.fN (λq hq _=>eU q (by omega))).is (λl hl=>by rw[IY] at hl;subst hl;show _<=_;rw[bsize];exact Is VS (by decide));have ad9:=HS2.out W5 _ _ _ _ _ _ zN.out hI5;have y0:=ae mc 0;have y1:=ae mc 1;have z0:=aA mc 0;have z1:=aA mc 1;have r0:=ae LX 0;have r1:=ae LX 1;have Dh:Hid _:=LX;simp only[aF,ID] at iF;clear j9 mc LX eU Dv hI5 HS2 ad8 x0 x1 AW Fa acw jd;go_upto_region 5 with fail
 rw[<- iF];clear iF y0 y1 z0 z1;go_wp2_with fail;refine Ou ad9 ?_;rintro e w6 ⟨tN,a6_,l6_,c6_,d6_,m6_,k6_,rfl,HN6⟩;have FH:=(tN.block _ (BY.1 Dh.out).1).trans Dh.out;have tL:Hid _:=zN.out.trans (tN.mono zN.out.size);have X6:=(BY.1 Dh.out).1;obtain⟨W6,rW⟩:∃W6,W6=aF w4.heap.size [J a6_ l6_ c6_,J d6_ m6_ k6_] 0 w6:=⟨_,rfl⟩;have hk6:W6.heap[w4.heap.size]?=AI (By #[J a6_ l6_ c6_,J d6_ m6_ k6_] 27 (0,0)):=by rw[rW];exact bB [J a6_ l6_ c6_,J d6_ m6_ k6_] [] [J a5_ l5_ c5_,J d5_ m5_ k5_] FH rfl
 have eU:∀q,q≠w4.heap.size->W6.heap[q]?=w6.heap[q]?:=λq hq=>by rw[rW];exact bc hq _ _ _
 have ajW:Hid (Below w.heap.size w W6):=by show Below _ _ _;rw[rW];exact aU RM.out _ _ tL.out
 obtain⟨nb,L,Xz,oN,hN,AB⟩:=HN6.out.fN (w':=W6) (λq hq _=>eU q (by omega));have hLl:L.length=2:=by have:=congrArg List.length oN;simpa using this
 rw[hLl] at Xz;obtain⟨a7,c7,Rg⟩:=aQ AB;have hxn:(L.getD 1 cz).n=nbC:=vS oN (j:=1) (by omega);have gE:=(hN.own _ (ik (j:=1) (by omega))).ms;rw[hxn] at gE;obtain⟨a8,c8,ou⟩:=aQ gE;rw[ad1] at ou;have gO:W6.cell? ⟨nb,14,be⟩=AI (J a8 2 c8):=by
  have h:=hN.cell (j:=1) (by omega) 2 (by omega);rw[<- ou];exact h
 have y0:=ae FH 0;have y1:=ae FH 1;have z0:=aA FH 0;have z1:=aA FH 1;have s0:W6.cell? ⟨w4.heap.size,0,be⟩=AI (J (AI ⟨nb,0,be⟩) 2 2):=by rw[<- Xz];exact ae hk6 0
 have s1:W6.cell? ⟨w4.heap.size,1,be⟩=AI (J a7 0 c7):=by have h:W6.cell? ⟨w4.heap.size,1,be⟩=AI (J d6_ m6_ k6_):=ae hk6 1;rw[Rg] at h;exact h
 simp only[aF,ID] at rW;clear tN FH hk6 eU HN6 ad9 r0 r1 zN Dh X6 tL Xz oN hN AB hLl Rg hxn gE ou RM;go_upto_region 6 with fail
 rw[<- rW];clear rW y0 y1 z0 z1;go_wp2_with fail;go_ret;exact⟨rfl,ajW.out⟩
end Go.Proofs.YtbfghimjdlpicaaGreatDoor
