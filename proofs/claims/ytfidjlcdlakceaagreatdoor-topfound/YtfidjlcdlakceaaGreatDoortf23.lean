import Derived.Test.YtfidjlcdlakceaaGreatDoortf22
import Derived.Deep.DeepCutAuto
import Derived.Test.YtfidjlcdlakceaaGreatDoortf20
set_option maxHeartbeats 6400000
set_option maxRecDepth 100000
open Go.Value renaming slice→U,agg→Im,string→I,int→O,tuple→Il,bool→AI,pointer→If
open Go.IntKind renaming i64→J
open Go.Ending renaming returned→sh
open Go.Proofs.Tryz renaming prog→be
open Go.Obj renaming cells→AT
open Go.RowKit.Below renaming refl→Ib,heap_alloc→It
open Nat renaming le_refl→By
open Option renaming some→Z,none→Y
open Go renaming heap_alloc_new→Ie,bodyPost_ret→Ix
open Go.World renaming frozen?→Ig
open Go.Lib renaming toList_data→Jv,alloc_old→I9
open Array renaming getElem?_eq_some_iff→Ia
open Go.Joins renaming block_setCell→Is
namespace Go.Proofs.YtfidjlcdlakceaaGreatDoor
open Go.RowKit
theorem rQ:∀{ms:List Mem},aV ms=0->∀m∈ms,m.e=0
 |[],_,m,hm=>by simp at hm
 |x::r,h,m,hm=>by
  rw[aV] at h;by_cases h2:x.e=0
  .rw[if_pos h2] at h
   rcases List.mem_cons.1 hm with rfl|hm
   .exact h2
   .exact rQ h m hm
  .rw[if_neg h2] at h;exact absurd h h2
theorem DE(here:ByteArray)(ps pm pw:Option Addr)(ns cs nm cm nw cw:Nat)(px py pz ph pq:Int)(q:Qu)(name:ByteArray)(t:Int)(ms:List Mem)(w:World)(hn:nm<=1000)(hm:Sl w (U pm nm cm) ms)(A7:name=iy q) :
 Calls be 138 #[Im (eQ here (U ps ns cs) (U pm nm cm) px py pz ph pq (U pw nw cw)),I q.node,Im #[I name,O J t,O J 0,O J 0,I ⟨#[]⟩,O J 0,I ⟨#[]⟩]] w λe w'=>∃v,e=sh (Il #[v,O J (kz q t ms).code])/\Rc.Own w.heap.size w' v (kz q t ms).rs/\Below w.heap.size w w':=by
 have Pm:Hid (∀W,Sl W (U pm nm cm) ms->Calls be 192 #[Im (eQ here (U ps ns cs) (U pm nm cm) px py pz ph pq (U pw nw cw)),I q.node] W λe w'=>e=sh (Im #[I (eD ms q.node).name,O J (eD ms q.node).state,O J (eD ms q.node).aX,O J (eD ms q.node).addr,AI (eD ms q.node).server])/\Below W.heap.size W w'):=λW h=>rI here ps pm pw ns cs nm cm nw cw px py pz ph pq ms q.node W h hn;have Fx:Hid (¬ ((eD ms q.node).state=1\/(eD ms q.node).state=2)->kz q t ms=⟨[],3,0⟩):=λh=>by unfold kz;rw[if_neg h]
 have yT:Hid (((eD ms q.node).state=1\/(eD ms q.node).state=2)->t≠1->kz q t ms=⟨[],0,0⟩):=λh h2=>by unfold kz;rw[if_pos h,if_neg h2]
 have yU:Hid (((eD ms q.node).state=1\/(eD ms q.node).state=2)->t=1->kz q t ms=⟨[⟨name,1,0,(eD ms q.node).addr,⟨#[]⟩,0,⟨#[]⟩⟩],0,0⟩):=λh h2=>by unfold kz;rw[if_pos h,if_pos h2,A7]
 have HM:Hid (Sl w (U pm nm cm) ms):=hm;clear hm A7;generalize kz q t ms=A at *;generalize eD ms q.node=m at *;generalize q.node=nd at *;obtain⟨mn,st,lf,ad,sb⟩:=m;simp only at *;go_enter Tryz.func138,Tryz.ntmps138;go_wp2_with fail;obtain⟨W,hW⟩:∃W,W=(w.alloc (AT (eQ here (U ps ns cs) (U pm nm cm) px py pz ph pq (U pw nw cw)) 137)).alloc (AT #[I name,O J t,O J 0,O J 0,I ⟨#[]⟩,O J 0,I ⟨#[]⟩] 64):=⟨_,rfl⟩;rw[<- hW];have ez:Below w.heap.size w W:=by rw[hW];exact((Ib _ _).alloc (By _) _).alloc (by simp) _
 have kT:W.heap[w.heap.size+1]?=Z (AT #[I name,O J t,O J 0,O J 0,I ⟨#[]⟩,O J 0,I ⟨#[]⟩] 64 (0,0)):=by
  rw[hW];have h:=Ie (w.alloc (AT (eQ here (U ps ns cs) (U pm nm cm) px py pz ph pq (U pw nw cw)) 137)) (AT #[I name,O J t,O J 0,O J 0,I ⟨#[]⟩,O J 0,I ⟨#[]⟩] 64);simpa using h
 have oX:w.heap.size+2<=W.heap.size:=by rw[hW];simp
 clear hW;refine(Pm.out W (HM.out.below ez)).mono ?_;rintro e w1 ⟨rfl,al⟩;have gI:=al.size;have aR:Hid (Below w.heap.size w w1):=ez.trans (al.mono (by omega));have bb:w1.heap[w.heap.size+1]?=_:=(al.block _ (by omega)).trans kT;have hd:∀ob,(w1.alloc ob).heap[w.heap.size+1]?=Z (AT #[I name,O J t,O J 0,O J 0,I ⟨#[]⟩,O J 0,I ⟨#[]⟩] 64 (0,0)):=λob=>by rw[It _ _ _ (by omega)];exact bb
 have l0:∀ob,(w1.alloc ob).cell? ⟨w.heap.size+1,0,Y⟩=Z (I name):=λob=>af (hd ob) 0;have l1:∀ob,(w1.alloc ob).cell? ⟨w.heap.size+1,1,Y⟩=Z (O J t):=λob=>af (hd ob) 1;have l2:∀ob,(w1.alloc ob).cell? ⟨w.heap.size+1,2,Y⟩=Z (O J 0):=λob=>af (hd ob) 2;have l3:∀ob,(w1.alloc ob).cell? ⟨w.heap.size+1,3,Y⟩=Z (O J 0):=λob=>af (hd ob) 3;have l4:∀ob,(w1.alloc ob).cell? ⟨w.heap.size+1,4,Y⟩=Z (I ⟨#[]⟩):=λob=>af (hd ob) 4;have l5:∀ob,(w1.alloc ob).cell? ⟨w.heap.size+1,5,Y⟩=Z (O J 0):=λob=>af (hd ob) 5;have l6:∀ob,(w1.alloc ob).cell? ⟨w.heap.size+1,6,Y⟩=Z (I ⟨#[]⟩):=λob=>af (hd ob) 6;have z3:∀ob,(w1.alloc ob).frozen? ⟨w.heap.size+1,3,Y⟩=false:=λob=>by simp[Ig,hd ob]
 have mG:Hid (∀ob,Below w.heap.size w (w1.alloc ob)):=λob=>aR.out.alloc (by omega) ob;clear ez kT al bb hd;by_cases hs:st=1\/st=2
 .have sD:Hid (t≠1->A=⟨[],0,0⟩):=yT.out hs
  have A8:Hid (t=1->A=⟨[⟨name,1,0,ad,⟨#[]⟩,0,⟨#[]⟩⟩],0,0⟩):=yU.out hs;clear Fx yT yU;by_cases ht:t=1
  .have HR:Hid (A=⟨[⟨name,1,0,ad,⟨#[]⟩,0,⟨#[]⟩⟩],0,0⟩):=A8.out ht
   clear sD A8;subst ht;rcases hs with hs|hs;all_goals
    subst hs;go_wp2_with fail;go_ret2;refine⟨_,by rw[HR.out];rfl,?_,?_⟩
    .rw[HR.out]
     refine Rc.fV (G:=1) (cur:=#[I name,O J 1,O J 0,O J ad,I ⟨#[]⟩,O J 0,I ⟨#[]⟩]) ?_ ?_ rfl (By _) (by decide) rfl;rotate_left
     .first|exact Ie _ _|(have h:=Ie ((w1.alloc (AT #[I mn,O J 1,O J lf,O J ad,AI sb] 70)).setCell ⟨w.heap.size+1,3,Y⟩ (O J ad)) (AT #[I name,O J 1,O J 0,O J ad,I ⟨#[]⟩,O J 0,I ⟨#[]⟩] 64);simpa using h)  | (have h:=Ie ((w1.alloc (AT #[I mn,O J 2,O J lf,O J ad,AI sb] 70)).setCell ⟨w.heap.size+1,3,Y⟩ (O J ad)) (AT #[I name,O J 1,O J 0,O J ad,I ⟨#[]⟩,O J 0,I ⟨#[]⟩] 64);simpa using h)
     ·(try simp)<;>omega
    .exact((mG.out _).setCell (p:=⟨w.heap.size+1,3,Y⟩) (by simp) _).alloc (by simp<;>omega) _
  .have HR:Hid (A=⟨[],0,0⟩):=sD.out ht
   have ht':(t !=1)=true:=by simpa using ht
   clear sD A8;rcases hs with hs|hs;all_goals
    subst hs;go_wp2_with fail;go_ret2;exact⟨U Y 0 0,by rw[HR.out];rfl,by rw[HR.out];exact Rc.bj _ _,mG.out _⟩
 .have HR:Hid (A=⟨[],3,0⟩):=Fx.out hs
  have g1:(st !=1)=true:=by simpa using λh=>hs (.inl h)
  have g2:(st !=2)=true:=by simpa using λh=>hs (.inr h)
  clear Fx yT yU hs;go_wp2_with fail;go_ret2;exact⟨U Y 0 0,by rw[HR.out];rfl,by rw[HR.out];exact Rc.bj _ _,mG.out _⟩
theorem pH(here:ByteArray)(ps pm pw:Option Addr)(ns cs nm cm nw cw:Nat)(px py pz ph pq:Int)(q:Qu)(t:Int)(sv:List Sv.aI)(ms:List Mem)(wh:List Wh.bC)(w:World)(hq:q.ok)(hk:uu here sv ms ⟨px,py,pz,ph,pq⟩ wh)(hs:Sv.Sl w (U ps ns cs) sv)(hm:Sl w (U pm nm cm) ms)(hw:Wh.Sl w (U pw nw cw) wh) :
 Calls be 87 #[Im (eQ here (U ps ns cs) (U pm nm cm) px py pz ph pq (U pw nw cw)),Im #[I q.service,I q.tag,I q.node,I q.ai],O J t] w λe w'=>∃v,e=sh (Il #[v,O J (lI q t here sv ms ⟨px,py,pz,ph,pq⟩ wh).code,O J (lI q t here sv ms ⟨px,py,pz,ph,pq⟩ wh).e])/\Rc.Own w.heap.size w' v (lI q t here sv ms ⟨px,py,pz,ph,pq⟩ wh).rs/\Below w.heap.size w w':=by
 have hn:nm<=1000:=by
  obtain⟨_,_,he,_,_⟩:=id hm;simp only[Value.slice.injEq] at he;have:=(aF hk.ms).1;omega
 have HS:Hid (Sv.Sl w (U ps ns cs) sv):=hs;have HM:Hid (Sl w (U pm nm cm) ms):=hm;have HW:Hid (Wh.Sl w (U pw nw cw) wh):=hw;have HP:Hid (∀W,Calls be 8 #[Im #[I q.service,I q.tag,I q.node,I q.ai]] W λe w'=>e=sh (Il #[I (iy q),O J (jk q)])/\Below W.heap.size W w'):=λW=>nz q W hq;have hPQ:jk q=0->fo q=0:=λh=>by unfold jk at h;by_cases h2:fo q=0;exact h2;rw[if_neg h2] at h;exact absurd h h2
 have HND:Hid (∀W,Sl W (U pm nm cm) ms->Calls be 138 #[Im (eQ here (U ps ns cs) (U pm nm cm) px py pz ph pq (U pw nw cw)),I q.node,Im #[I (iy q),O J t,O J 0,O J 0,I ⟨#[]⟩,O J 0,I ⟨#[]⟩]] W λe w'=>∃v,e=sh (Il #[v,O J (kz q t ms).code])/\Rc.Own W.heap.size w' v (kz q t ms).rs/\Below W.heap.size W w'):=λW h=>DE here ps pm pw ns cs nm cm nw cw px py pz ph pq q (iy q) t ms W hn h rfl;have WV:Hid (jk q=0->q.node.size=0->∀W,Sv.Sl W (U ps ns cs) sv->Sl W (U pm nm cm) ms->Wh.Sl W (U pw nw cw) wh->Calls be 139 #[Im (eQ here (U ps ns cs) (U pm nm cm) px py pz ph pq (U pw nw cw)),Im #[I q.service,I q.tag,I q.node,I q.ai],Im #[I (iy q),O J t,O J 0,O J 0,I ⟨#[]⟩,O J 0,I ⟨#[]⟩]] W λe w'=>∃v,e=sh (Il #[v,O J (ky q t here sv ms ⟨px,py,pz,ph,pq⟩ wh).code,O J (ky q t here sv ms ⟨px,py,pz,ph,pq⟩ wh).e])/\Rc.Own W.heap.size w' v (ky q t here sv ms ⟨px,py,pz,ph,pq⟩ wh).rs/\Below W.heap.size W w'):=λh0 h1 W a1 a2 a3=>wM here ps pm pw ns cs nm cm nw cw px py pz ph pq q (iy q) t sv ms wh W hq (hPQ h0) h1 hk a1 a2 a3 rfl;have Mg:Hid ((kz q t ms).e=0):=by show(kz q t ms).e=0;unfold kz;(repeat' split)<;>rfl
 have WW:Hid (jk q≠0->lI q t here sv ms ⟨px,py,pz,ph,pq⟩ wh=⟨[],0,jk q⟩):=λh=>by unfold lI;rw[if_neg h]
 have Fx:Hid (jk q=0->q.ai.size≠0->q.ai≠here->lI q t here sv ms ⟨px,py,pz,ph,pq⟩ wh=⟨[],3,0⟩):=λh h1 h2=>by unfold lI;rw[if_pos h,if_pos ⟨h1,h2⟩]
 have yT:Hid (jk q=0->¬ (q.ai.size≠0/\q.ai≠here)->q.node.size≠0->lI q t here sv ms ⟨px,py,pz,ph,pq⟩ wh=kz q t ms):=λh h1 h2=>by unfold lI;rw[if_pos h,if_neg h1,if_pos h2]
 have yU:Hid (jk q=0->¬ (q.ai.size≠0/\q.ai≠here)->q.node.size=0->lI q t here sv ms ⟨px,py,pz,ph,pq⟩ wh=ky q t here sv ms ⟨px,py,pz,ph,pq⟩ wh):=λh h1 h2=>by unfold lI;rw[if_pos h,if_neg h1,if_neg (by omega)]
 clear hs hm hw hk hPQ hq;generalize lI q t here sv ms ⟨px,py,pz,ph,pq⟩ wh=A at *;generalize kz q t ms=AN at *;generalize ky q t here sv ms ⟨px,py,pz,ph,pq⟩ wh=AS at *;generalize jk q=PE at *;generalize iy q=name at *;obtain⟨qs,qt,qn,qc⟩:=q;simp only at *;go_enter Tryz.func87,Tryz.ntmps87;go_wp2_with fail;obtain⟨W,hW⟩:∃W,W=(w.alloc (AT (eQ here (U ps ns cs) (U pm nm cm) px py pz ph pq (U pw nw cw)) 137)).alloc (AT #[I qs,I qt,I qn,I qc] 32):=⟨_,rfl⟩;rw[<- hW];have ez:Below w.heap.size w W:=by rw[hW];exact((Ib _ _).alloc (By _) _).alloc (by simp) _
 have hG0:W.heap[w.heap.size]?=Z (AT (eQ here (U ps ns cs) (U pm nm cm) px py pz ph pq (U pw nw cw)) 137 (0,0)):=by rw[hW,It _ _ _ (by simp)];exact Ie w _
 have kT:W.heap[w.heap.size+1]?=Z (AT #[I qs,I qt,I qn,I qc] 32 (0,0)):=by
  rw[hW];have h:=Ie (w.alloc (AT (eQ here (U ps ns cs) (U pm nm cm) px py pz ph pq (U pw nw cw)) 137)) (AT #[I qs,I qt,I qn,I qc] 32);simpa using h
 have oX:w.heap.size+2<=W.heap.size:=by rw[hW];simp
 clear hW;refine(HP.out _).mono ?_;rintro e w1 ⟨rfl,al⟩;have gI:=al.size;have aR:Hid (Below w.heap.size w w1):=ez.trans (al.mono (by omega));have k0:w1.heap[w.heap.size]?=_:=(al.block _ (by omega)).trans hG0;have k1:w1.heap[w.heap.size+1]?=_:=(al.block _ (by omega)).trans kT;by_cases h0:PE=0
 .have adk:Hid (qc.size≠0->qc≠here->A=⟨[],3,0⟩):=Fx.out h0
  have sD:Hid (¬ (qc.size≠0/\qc≠here)->qn.size≠0->A=AN):=yT.out h0;have A8:Hid (¬ (qc.size≠0/\qc≠here)->qn.size=0->A=AS):=yU.out h0;have aaL:Hid _:=WV.out h0;have lV:∀ob,(w1.alloc ob).heap[w.heap.size]?=Z (AT (eQ here (U ps ns cs) (U pm nm cm) px py pz ph pq (U pw nw cw)) 137 (0,0)):=λob=>by rw[It _ _ _ (by omega)];exact k0
  have nt:∀ob,(w1.alloc ob).heap[w.heap.size+1]?=Z (AT #[I qs,I qt,I qn,I qc] 32 (0,0)):=λob=>by rw[It _ _ _ (by omega)];exact k1
  have d0:∀ob,(w1.alloc ob).cell? ⟨w.heap.size,0,Y⟩=Z (I here):=λob=>af (lV ob) 0;have d1:∀ob,(w1.alloc ob).cell? ⟨w.heap.size,1,Y⟩=Z (U ps ns cs):=λob=>af (lV ob) 1;have d2:∀ob,(w1.alloc ob).cell? ⟨w.heap.size,2,Y⟩=Z (U pm nm cm):=λob=>af (lV ob) 2;have d3:∀ob,(w1.alloc ob).cell? ⟨w.heap.size,3,Y⟩=Z (O J px):=λob=>af (lV ob) 3;have d4:∀ob,(w1.alloc ob).cell? ⟨w.heap.size,4,Y⟩=Z (O J py):=λob=>af (lV ob) 4;have d5:∀ob,(w1.alloc ob).cell? ⟨w.heap.size,5,Y⟩=Z (O J pz):=λob=>af (lV ob) 5;have d6:∀ob,(w1.alloc ob).cell? ⟨w.heap.size,6,Y⟩=Z (O J ph):=λob=>af (lV ob) 6;have d7:∀ob,(w1.alloc ob).cell? ⟨w.heap.size,7,Y⟩=Z (O J pq):=λob=>af (lV ob) 7;have d8:∀ob,(w1.alloc ob).cell? ⟨w.heap.size,8,Y⟩=Z (U pw nw cw):=λob=>af (lV ob) 8;have q0:∀ob,(w1.alloc ob).cell? ⟨w.heap.size+1,0,Y⟩=Z (I qs):=λob=>af (nt ob) 0;have q1:∀ob,(w1.alloc ob).cell? ⟨w.heap.size+1,1,Y⟩=Z (I qt):=λob=>af (nt ob) 1;have q2:∀ob,(w1.alloc ob).cell? ⟨w.heap.size+1,2,Y⟩=Z (I qn):=λob=>af (nt ob) 2;have q3:∀ob,(w1.alloc ob).cell? ⟨w.heap.size+1,3,Y⟩=Z (I qc):=λob=>af (nt ob) 3;have mG:Hid (∀ob,Below w.heap.size w (w1.alloc ob)):=λob=>aR.out.alloc (by omega) ob;clear WW Fx yT yU WV lV nt k0 k1 hG0 kT ez al;subst h0;by_cases hc:qc.size≠0/\qc≠here
  .have HR:Hid (A=⟨[],3,0⟩):=adk.out hc.1 hc.2
   obtain⟨e1,e2⟩:=iY hc.1;obtain⟨e3,e4⟩:=hY hc.2;clear hc;go_wp2_with fail;go_ret3
   exact⟨U Y 0 0,by rw[HR.out];rfl,by rw[HR.out];exact Rc.bj _ _,mG.out _⟩
  .have Pn:Hid (qn.size≠0->A=AN):=sD.out hc
   have Po:Hid (qn.size=0->A=AS):=A8.out hc;have hcc:((qc.toList==[])=true/\qc.toList=[])\/((qc.toList==[])=false/\¬ qc.toList=[]/\(qc.toList==here.toList)=true/\qc.toList=here.toList):=by
    by_cases h:qc.size=0
    .have e:=cO h
     have h2:qc.toList=[]:=by rw[e,Jv]
     exact .inl ⟨by rw[h2];rfl,h2⟩
    .have e:qc=here:=by
      by_cases e:qc=here
      .exact e
      .exact absurd ⟨h,e⟩ hc
     exact .inr ⟨(iY h).1,(iY h).2,by rw[e];simp,by rw[e]⟩
   clear hc adk sD A8;by_cases Mb:qn.size=0
   .have HR:Hid (A=AS):=Po.out Mb
    have ahH:Hid _:=aaL.out Mb;have g4:qn.toList=[]:=by rw[cO Mb,Jv]
    have g3:(qn.toList==[])=true:=by rw[g4];rfl
    clear g4;clear Pn Po aaL Mb;rcases hcc with⟨g1,-⟩|⟨g1,g2,g5,-⟩;all_goals
     go_wp2_with fail;refine Calls.mono (ahH.out _ (HS.out.below (mG.out _)) (HM.out.below (mG.out _)) (HW.out.below (mG.out _))) ?_;rintro e w2 ⟨v,rfl,ho,aC⟩;have bw:Hid (Below w.heap.size w w2):=(mG.out _).trans (aC.mono (by simp<;>omega));have gv:Hid (Rc.Own w.heap.size w2 v AS.rs):=ho.mono (by simp<;>omega);clear ho aC;go_wp2_with fail;go_ret3
     exact⟨v,by rw[HR.out];rfl,by rw[HR.out];exact gv.out,bw.out⟩
   .have HR:Hid (A=AN):=Pn.out Mb
    obtain⟨g3,g4⟩:=iY Mb;clear Pn Po aaL Mb;rcases hcc with⟨g1,-⟩|⟨g1,g2,g5,-⟩;all_goals
     go_wp2_with fail;refine Calls.mono (HND.out _ (HM.out.below (mG.out _))) ?_;rintro e w2 ⟨v,rfl,ho,aC⟩;have bw:Hid (Below w.heap.size w w2):=(mG.out _).trans (aC.mono (by simp<;>omega));have gv:Hid (Rc.Own w.heap.size w2 v AN.rs):=ho.mono (by simp<;>omega);clear ho aC;go_wp2_with fail;go_ret3
     exact⟨v,by rw[HR.out,Mg.out];rfl,by rw[HR.out];exact gv.out,bw.out⟩
 .have HR:Hid (A=⟨[],0,PE⟩):=WW.out h0
  have h0':(PE !=0)=true:=by simpa using h0
  clear WW Fx yT yU WV k0 k1 hG0 kT ez al;go_wp2_with fail;go_ret3
  exact⟨U Y 0 0,by rw[HR.out];rfl,by rw[HR.out];exact Rc.bj _ _,aR.out⟩
def Pp(q:Qu)(t:Int)(here:ByteArray)(sv:List Sv.aI)(ms:List Mem)(p:Pl)(wh:List Wh.bC):Ans:=
 if Pg q t=0 then(if sR here sv ms p wh=0 then lI q t here sv ms p wh else⟨[],0,sR here sv ms p wh⟩) else⟨[],0,Pg q t⟩
theorem A9(here:ByteArray)(ps pm pw:Option Addr)(ns cs nm cm nw cw:Nat)(px py pz ph pq:Int)(q:Qu)(t:Int)(sv:List Sv.aI)(ms:List Mem)(wh:List Wh.bC)(w:World)(hq:q.ok)(hh:here.size<=maxLen)(hs:Sv.Sl w (U ps ns cs) sv)(hm:Sl w (U pm nm cm) ms)(hw:Wh.Sl w (U pw nw cw) wh) :
 Calls be 42 #[Im #[I q.service,I q.tag,I q.node,I q.ai],O J t,I here,U ps ns cs,U pm nm cm,Im #[O J px,O J py,O J pz,O J ph,O J pq],U pw nw cw] w λe w'=>∃v,e=sh (Il #[v,O J (Pp q t here sv ms ⟨px,py,pz,ph,pq⟩ wh).code,O J (Pp q t here sv ms ⟨px,py,pz,ph,pq⟩ wh).e])/\Rc.Own w.heap.size w' v (Pp q t here sv ms ⟨px,py,pz,ph,pq⟩ wh).rs/\Below w.heap.size w w':=by
 have HS:Hid (Sv.Sl w (U ps ns cs) sv):=hs;have HM:Hid (Sl w (U pm nm cm) ms):=hm;have HW:Hid (Wh.Sl w (U pw nw cw) wh):=hw;have WU:Hid (∀W,Calls be 86 #[Im #[I q.service,I q.tag,I q.node,I q.ai],O J t] W λe w'=>e=sh (O J (Pg q t))/\Below W.heap.size W w'):=λW=>Hv q t W hq;have HC2:Hid (∀W,Sv.Sl W (U ps ns cs) sv->Sl W (U pm nm cm) ms->Wh.Sl W (U pw nw cw) wh->Calls be 79 #[Im (eQ here (U ps ns cs) (U pm nm cm) px py pz ph pq (U pw nw cw))] W λe w'=>e=sh (O J (sR here sv ms ⟨px,py,pz,ph,pq⟩ wh))/\Below W.heap.size W w'):=λW a1 a2 a3=>uo here ps pm pw ns cs nm cm nw cw px py pz ph pq sv ms wh W hh a1 a2 a3;have HC3:Hid (sR here sv ms ⟨px,py,pz,ph,pq⟩ wh=0->∀W,Sv.Sl W (U ps ns cs) sv->Sl W (U pm nm cm) ms->Wh.Sl W (U pw nw cw) wh->Calls be 87 #[Im (eQ here (U ps ns cs) (U pm nm cm) px py pz ph pq (U pw nw cw)),Im #[I q.service,I q.tag,I q.node,I q.ai],O J t] W λe w'=>∃v,e=sh (Il #[v,O J (lI q t here sv ms ⟨px,py,pz,ph,pq⟩ wh).code,O J (lI q t here sv ms ⟨px,py,pz,ph,pq⟩ wh).e])/\Rc.Own W.heap.size w' v (lI q t here sv ms ⟨px,py,pz,ph,pq⟩ wh).rs/\Below W.heap.size W w'):=λh W a1 a2 a3=>pH here ps pm pw ns cs nm cm nw cw px py pz ph pq q t sv ms wh W hq (aaK h) a1 a2 a3;have kD:Hid (Pg q t≠0->Pp q t here sv ms ⟨px,py,pz,ph,pq⟩ wh=⟨[],0,Pg q t⟩):=λh=>by unfold Pp;rw[if_neg h]
 have my:Hid (Pg q t=0->sR here sv ms ⟨px,py,pz,ph,pq⟩ wh≠0->Pp q t here sv ms ⟨px,py,pz,ph,pq⟩ wh=⟨[],0,sR here sv ms ⟨px,py,pz,ph,pq⟩ wh⟩):=λh h2=>by unfold Pp;rw[if_pos h,if_neg h2]
 have AH:Hid (Pg q t=0->sR here sv ms ⟨px,py,pz,ph,pq⟩ wh=0->Pp q t here sv ms ⟨px,py,pz,ph,pq⟩ wh=lI q t here sv ms ⟨px,py,pz,ph,pq⟩ wh):=λh h2=>by unfold Pp;rw[if_pos h,if_pos h2]
 clear hs hm hw hq;generalize Pp q t here sv ms ⟨px,py,pz,ph,pq⟩ wh=A at *;generalize lI q t here sv ms ⟨px,py,pz,ph,pq⟩ wh=AS at *;generalize Pg q t=e1 at *;generalize sR here sv ms ⟨px,py,pz,ph,pq⟩ wh=e2 at *;obtain⟨qs,qt,qn,qc⟩:=q;simp only at *;go_enter Tryz.func42,Tryz.ntmps42;go_wp2_with fail;obtain⟨W,hW⟩:∃W,W=(w.alloc (AT #[I qs,I qt,I qn,I qc] 32)).alloc (AT #[O J px,O J py,O J pz,O J ph,O J pq] 27):=⟨_,rfl⟩;rw[<- hW];have ez:Below w.heap.size w W:=by rw[hW];exact((Ib _ _).alloc (By _) _).alloc (by simp) _
 have wB:Hid (W.heap[w.heap.size]?=Z (AT #[I qs,I qt,I qn,I qc] 32 (0,0))):=by rw[hW,It _ _ _ (by simp)];exact Ie w _
 have kT:W.heap[w.heap.size+1]?=Z (AT #[O J px,O J py,O J pz,O J ph,O J pq] 27 (0,0)):=by
  rw[hW];have h:=Ie (w.alloc (AT #[I qs,I qt,I qn,I qc] 32)) (AT #[O J px,O J py,O J pz,O J ph,O J pq] 27);simpa using h
 have oX:w.heap.size+2<=W.heap.size:=by rw[hW];simp
 clear hW;refine(WU.out W).mono ?_;rintro e w1 ⟨rfl,al⟩;have gI:=al.size;have aR:Hid (Below w.heap.size w w1):=ez.trans (al.mono (by omega));have K0:Hid (w1.heap[w.heap.size]?=Z (AT #[I qs,I qt,I qn,I qc] 32 (0,0))):=(al.block _ (by omega)).trans wB.out;have k1:w1.heap[w.heap.size+1]?=_:=(al.block _ (by omega)).trans kT;have p0:w1.cell? ⟨w.heap.size+1,0,Y⟩=Z (O J px):=af k1 0;have p1:w1.cell? ⟨w.heap.size+1,1,Y⟩=Z (O J py):=af k1 1;have p2:w1.cell? ⟨w.heap.size+1,2,Y⟩=Z (O J pz):=af k1 2;have p3:w1.cell? ⟨w.heap.size+1,3,Y⟩=Z (O J ph):=af k1 3;have p4:w1.cell? ⟨w.heap.size+1,4,Y⟩=Z (O J pq):=af k1 4;clear k1 kT al ez wB;by_cases h1:e1=0
 .have adl:Hid (e2≠0->A=⟨[],0,e2⟩):=my.out h1
  have adm:Hid (e2=0->A=AS):=AH.out h1;clear kD my AH;subst h1;have hBA:∀ob,Below w.heap.size w (w1.alloc ob):=λob=>aR.out.alloc (by omega) ob;have mG:Hid _:=hBA;clear hBA;go_wp2_with fail;refine(HC2.out _ (HS.out.below (mG.out _)) (HM.out.below (mG.out _)) (HW.out.below (mG.out _))).mono ?_;rintro e w2 ⟨rfl,aC⟩;have iZ:w1.heap.size+1<=w2.heap.size:=by have:=aC.size;simpa using this
  have bw:Hid (Below w.heap.size w w2):=(mG.out _).trans (aC.mono (by simp<;>omega));have k0:w2.heap[w.heap.size]?=Z (AT #[I qs,I qt,I qn,I qc] 32 (0,0)):=(aC.block _ (by simp<;>omega)).trans ((It _ _ _ (by omega)).trans K0.out);have k9:w2.heap[w1.heap.size]?=Z (AT (eQ here (U ps ns cs) (U pm nm cm) px py pz ph pq (U pw nw cw)) 137 (0,0)):=(aC.block _ (by simp)).trans (Ie w1 _);have q0:w2.cell? ⟨w.heap.size,0,Y⟩=Z (I qs):=af k0 0;have q1:w2.cell? ⟨w.heap.size,1,Y⟩=Z (I qt):=af k0 1;have q2:w2.cell? ⟨w.heap.size,2,Y⟩=Z (I qn):=af k0 2;have q3:w2.cell? ⟨w.heap.size,3,Y⟩=Z (I qc):=af k0 3;have d0:w2.cell? ⟨w1.heap.size,0,Y⟩=Z (I here):=af k9 0;have d1:w2.cell? ⟨w1.heap.size,1,Y⟩=Z (U ps ns cs):=af k9 1;have d2:w2.cell? ⟨w1.heap.size,2,Y⟩=Z (U pm nm cm):=af k9 2;have d3:w2.cell? ⟨w1.heap.size,3,Y⟩=Z (O J px):=af k9 3;have d4:w2.cell? ⟨w1.heap.size,4,Y⟩=Z (O J py):=af k9 4;have d5:w2.cell? ⟨w1.heap.size,5,Y⟩=Z (O J pz):=af k9 5;have d6:w2.cell? ⟨w1.heap.size,6,Y⟩=Z (O J ph):=af k9 6;have d7:w2.cell? ⟨w1.heap.size,7,Y⟩=Z (O J pq):=af k9 7;have d8:w2.cell? ⟨w1.heap.size,8,Y⟩=Z (U pw nw cw):=af k9 8;clear k0 k9 aC p0 p1 p2 p3 p4;by_cases h2:e2=0
  .have HR:Hid (A=AS):=adm.out h2
   have ahI:Hid _:=HC3.out h2;clear adl adm HC3;subst h2;go_wp2_with fail;refine Calls.mono (ahI.out _ (HS.out.below bw.out) (HM.out.below bw.out) (HW.out.below bw.out)) ?_;rintro e w3 ⟨v,rfl,ho,bf⟩;have da:Hid (Below w.heap.size w w3):=bw.out.trans (bf.mono (by omega));have eB:Hid (Rc.Own w.heap.size w3 v AS.rs):=ho.mono (by omega);clear ho bf;go_wp2_with fail;go_ret3
   exact⟨v,by rw[HR.out];rfl,by rw[HR.out];exact eB.out,da.out⟩
  .have HR:Hid (A=⟨[],0,e2⟩):=adl.out h2
   have yA:(e2 !=0)=true:=by simpa using h2
   go_wp2_with fail;go_ret3
   exact⟨U Y 0 0,by rw[HR.out];rfl,by rw[HR.out];exact Rc.bj _ _,bw.out⟩
 .have HR:Hid (A=⟨[],0,e1⟩):=kD.out h1
  have CR:(e1 !=0)=true:=by simpa using h1
  go_wp2_with fail;go_ret3
  exact⟨U Y 0 0,by rw[HR.out];rfl,by rw[HR.out];exact Rc.bj _ _,aR.out⟩
theorem rR{B:Nat}{w:World}{v:Value}{ms:List Rc.Rec}(h:Rc.Own B w v ms):∃p c,v=U p ms.length c:=by
 rcases h.2 with⟨hv,h0⟩|⟨g,c,cur,hv,_⟩
 .exact⟨Y,0,by rw[hv,h0]⟩
 .exact⟨_,c,hv⟩
end Go.Proofs.YtfidjlcdlakceaaGreatDoor
namespace Go.Proofs.YtfidjlcdlakceaaGreatDoor
open Go.RowKit Go.Lib
def pZ(t:ByteArray):Int:=match qL t with
 |none=>1
 |some M=>bn M.id M.code M.an M.R M.rs
theorem Pr{t:ByteArray}{M:Ms}(h:qL t=Z M)(hs:t.size<=1000):ue t M.id M.code M.an M.aB M.cut M.R M.rs:=⟨λg w hI=>by
 refine(N6 g t w hI hs).mono ?_;rintro e w' ⟨h1,⟨M',v,h2,_,h4,h5⟩|⟨h2,_⟩⟩
 .have e1:M'=M:=Option.some.inj (h2.symm.trans h)
  subst e1;exact⟨v,h4,h1,h5⟩
 .rw[h] at h2;cases h2⟩
theorem Ps(gs gm:Nat)(t:ByteArray)(w:World)(uf:w.heap[gs]?=Z (AT #[I t] 9 (0,0)))(kO:w.heap[gm]?=Z (AT aQ 43 (0,0)))(hs:t.size<=1000)(hE:pZ t≠0) :
 Calls be 51 #[If (Z ⟨gs,0,Y⟩),If (Z ⟨gm,0,Y⟩)] w λr w'=>r=dW (pZ t)/\Hid (Rd gm w w'):=by
 have HR:Hid (∀g W,dR g t 0 W->Calls be 52 #[If (Z ⟨g,0,Y⟩)] W (MsP g W (qL t))):=λg W hW=>N6 g t W hW hs;have HEN:Hid (qL t=Y->pZ t=1):=λh=>by unfold pZ;rw[h]
 have HES:Hid (∀M,qL t=Z M->pZ t=bn M.id M.code M.an M.R M.rs):=λM h=>by unfold pZ;rw[h]
 have cs:w.cell? ⟨gs,0,Y⟩=Z (I t):=af uf 0;have HE0:Hid (pZ t≠0):=hE;clear uf hE;have aL:gm<w.heap.size:=(Ia.1 kO).1;have HGM:Hid (w.heap[gm]?=Z (AT aQ 43 (0,0))):=kO;clear kO;generalize qL t=F at *;generalize pZ t=E at *;go_enter Tryz.func51,Tryz.ntmps51;go_wp2_with fail;have zQ:(w.alloc (AT #[I t,O J 0] 107)).heap[w.heap.size]?=Z (AT #[I t,O J 0] 107 (0,0)):=Ie w _;refine(HR.out w.heap.size _ ⟨af zQ 0,af zQ 1,frozenAt zQ 1,by simp⟩).mono ?_;rintro e w1 ⟨h2,⟨M,v,hM,⟨hMR,hMo⟩,rfl,ho⟩|⟨hM,rfl⟩⟩;rotate_left
 .have al:Below w.heap.size w w1:=((Ib _ _).alloc (By _) _).trans (h2.out.below (By _) (by simp))
  exact⟨rfl,by rw[HEN.out hM];rfl,Rd.fJ al (By _)⟩
 have CN:Hid (∀j,(M.rs.getD j Rc.dm).ok):=Rc.cB hMo;have ahJ:Hid (E=bn M.id M.code M.an M.R M.rs):=HES.out M hM;have HC:Hid (∀v W,Rc.Sl W v M.rs->Calls be 28 #[Im #[O J M.id,AI M.aB,AI M.cut,O J M.code,I M.R,O J M.an,v]] W λr w'=>r=dW E/\Below W.heap.size W w'):=λv W hv=>by
  have h:=k7 M.id M.code M.an M.aB M.cut M.R M.rs v W (by unfold maxLen;omega) hv;rw[<- ahJ.out] at h;exact h
 clear HES HEN hM hMo;have al:Below w.heap.size w w1:=((Ib _ _).alloc (By _) _).trans (h2.out.below (By _) (by simp));have jF:Hid (Rd gm w w1):=Rd.fJ al (By _);have j7:Hid (Rc.Own (w.heap.size+1) w1 v M.rs):=ho.out.mono (by simp<;>omega);obtain⟨av,lv,cv,pW⟩:∃a l c,v=U a l c:=by
  rcases j7.out.2 with⟨hv,_⟩|⟨gq,cq,_,hv,_⟩
  .exact⟨_,_,_,hv⟩
  .exact⟨_,_,_,hv⟩
 subst pW;have bb:w1.heap[gm]?=Z (AT aQ 43 (0,0)):=(al.block gm aL).trans HGM.out;have eY:gm<w1.heap.size:=(Ia.1 bb).1;have c0:w1.cell? ⟨gm,0,Y⟩=Z (O J 0):=af bb 0;have z0:w1.frozen? ⟨gm,0,Y⟩=false:=by simp[Ig,bb]
 have c1:w1.cell? ⟨gm,1,Y⟩=Z (AI false):=af bb 1;have z1:w1.frozen? ⟨gm,1,Y⟩=false:=by simp[Ig,bb]
 have c2:w1.cell? ⟨gm,2,Y⟩=Z (AI false):=af bb 2;have z2:w1.frozen? ⟨gm,2,Y⟩=false:=by simp[Ig,bb]
 have c3:w1.cell? ⟨gm,3,Y⟩=Z (O J 0):=af bb 3;have z3:w1.frozen? ⟨gm,3,Y⟩=false:=by simp[Ig,bb]
 have c4:w1.cell? ⟨gm,4,Y⟩=Z (I ⟨#[]⟩):=af bb 4;have z4:w1.frozen? ⟨gm,4,Y⟩=false:=by simp[Ig,bb]
 have c5:w1.cell? ⟨gm,5,Y⟩=Z (O J 0):=af bb 5;have z5:w1.frozen? ⟨gm,5,Y⟩=false:=by simp[Ig,bb]
 have c6:w1.cell? ⟨gm,6,Y⟩=Z (U Y 0 0):=af bb 6;have z6:w1.frozen? ⟨gm,6,Y⟩=false:=by simp[Ig,bb]
 have oq:Hid ((((((((w1.setCell ⟨gm,0,Y⟩ (O J M.id)).setCell ⟨gm,1,Y⟩ (AI M.aB)).setCell ⟨gm,2,Y⟩ (AI M.cut)).setCell ⟨gm,3,Y⟩ (O J M.code)).setCell ⟨gm,4,Y⟩ (I M.R)).setCell ⟨gm,5,Y⟩ (O J M.an)).setCell ⟨gm,6,Y⟩ (U av lv cv)).heap[gm]?=Z (AT #[O J M.id,AI M.aB,AI M.cut,O J M.code,I M.R,O J M.an,U av lv cv] 43 (0,0))):=(Is (i:=6) (Is (i:=5) (Is (i:=4) (Is (i:=3) (Is (i:=2) (Is (i:=1) (Is (i:=0) bb (O J M.id)) (AI M.aB)) (AI M.cut)) (O J M.code)) (I M.R)) (O J M.an)) (U av lv cv));have lQ:Hid (Rd gm w (((((((w1.setCell ⟨gm,0,Y⟩ (O J M.id)).setCell ⟨gm,1,Y⟩ (AI M.aB)).setCell ⟨gm,2,Y⟩ (AI M.cut)).setCell ⟨gm,3,Y⟩ (O J M.code)).setCell ⟨gm,4,Y⟩ (I M.R)).setCell ⟨gm,5,Y⟩ (O J M.an)).setCell ⟨gm,6,Y⟩ (U av lv cv))):=((((((((jF.out).here 0 _).here 1 _).here 2 _).here 3 _).here 4 _).here 5 _).here 6 _);have gv:Hid (Rc.Own (w.heap.size+1) (((((((w1.setCell ⟨gm,0,Y⟩ (O J M.id)).setCell ⟨gm,1,Y⟩ (AI M.aB)).setCell ⟨gm,2,Y⟩ (AI M.cut)).setCell ⟨gm,3,Y⟩ (O J M.code)).setCell ⟨gm,4,Y⟩ (I M.R)).setCell ⟨gm,5,Y⟩ (O J M.an)).setCell ⟨gm,6,Y⟩ (U av lv cv)) (U av lv cv) M.rs):=(aY (i:=6) (aY (i:=5) (aY (i:=4) (aY (i:=3) (aY (i:=2) (aY (i:=1) (aY (i:=0) j7.out (by omega)) (by omega)) (by omega)) (by omega)) (by omega)) (by omega)) (by omega));clear h2 ho al zQ bb jF;rw[eb HE0.out] at HC;go_wp2_with fail;refine(HC.out _ _ (gv.out.sl CN.out)).mono ?_;rintro e w2 ⟨rfl,aC⟩;exact⟨rfl,(eb HE0.out).symm,lQ.out.trans (Rd.fJ aC (By _))⟩
theorem T8(t:ByteArray)(w:World)(hl:t.size<=512)(hE:pZ t≠0) :
 Calls be 19 #[I t] w λe w'=>e=sh (Il #[Im aQ,O J 1])/\Below w.heap.size w w':=by
 have rC:Hid (∀(gs gm:Nat) (W:World),W.heap[gs]?=Z (AT #[I t] 9 (0,0))->W.heap[gm]?=Z (AT aQ 43 (0,0))->Calls be 51 #[If (Z ⟨gs,0,Y⟩),If (Z ⟨gm,0,Y⟩)] W λr w'=>r=dW (pZ t)/\Hid (Rd gm W w')):=λgs gm W uf kO=>Ps gs gm t W uf kO (by omega) hE;have ef:∀args W,(callFunc 51 args).run be W=.ok (.enter 51 args) W:=enters_of Tryz.func51 (by kernel_rfl) rfl;have G6:decide (512<(t.size:Int))=false:=by simp;omega
 have HE0:Hid (pZ t≠0):=hE;have hE2:(pZ t==0)=false:=by simpa using hE
 have hE3:(pZ t !=0)=true:=by simpa using hE
 clear hl hE;generalize pZ t=E at *;go_enter Tryz.func19,Tryz.ntmps19;go_wp2_with fail;obtain⟨w0,dJ⟩:∃w0,w0=((w.alloc (AT #[I t] 9)).alloc (AT aQ 43)).alloc (AT aQ 43):=⟨_,rfl⟩;rw[<- dJ];have X6:w0.heap.size=w.heap.size+1+1+1:=by rw[dJ];simp
 have dy:Hid (Below w.heap.size w w0):=(show Below _ _ _ by rw[dJ];exact(((Ib _ _).alloc (By _) _).alloc (by simp) _).alloc (by simp;omega) _);have uf:w0.heap[w.heap.size]?=Z (AT #[I t] 9 (0,0)):=by
  rw[dJ];exact(I9 _ _ _ (by simp;omega)).trans ((I9 _ _ _ (by simp)).trans (Ie w _))
 have Cv:w0.heap[w.heap.size+1]?=Z (AT aQ 43 (0,0)):=by
  rw[dJ];have h:=Ie (w.alloc (AT #[I t] 9)) (AT aQ 43);exact(I9 _ _ _ (by simp)).trans (by simpa using h)
 have kO:w0.heap[w.heap.size+1+1]?=Z (AT aQ 43 (0,0)):=by
  rw[dJ];have h:=Ie ((w.alloc (AT #[I t] 9)).alloc (AT aQ 43)) (AT aQ 43);simpa using h
 clear dJ;have j6:(w0.alloc (AT #[O J 0] 34)).heap[w0.heap.size]?=Z (AT #[O J 0] 34 (0,0)):=Ie w0 _;have fw:Hid (Calls be 26 #[.func (.func 51) #[] #[If (Z ⟨w.heap.size,0,Y⟩),If (Z ⟨w.heap.size+1+1,0,Y⟩)]] w0 λr w'=>r=sh (O J E)/\Hid (Rd (w.heap.size+1+1) w0 w')):=(show Calls _ _ _ _ _ by
  refine(tu 51 #[If (Z ⟨w.heap.size,0,Y⟩),If (Z ⟨w.heap.size+1+1,0,Y⟩)] E w0 (λW=>Rd (w.heap.size+1+1) (w0.alloc (AT #[O J 0] 34)) W) ef ?_).mono ?_
  .refine(rC.out w.heap.size (w.heap.size+1+1) _ ((I9 w0 _ _ (by omega)).trans uf) ((I9 w0 _ _ (by omega)).trans kO)).mono ?_
   rintro r w' ⟨rfl,hb⟩;have hk:w'.heap[w0.heap.size]?=Z (AT #[O J 0] 34 (0,0)):=(hb.out.block _ (by simp) (by omega)).trans j6;exact⟨eb HE0.out,hb.out,af hk 0,frozenAt hk 0,(Ia.1 hk).1⟩
  .rintro r w' ⟨rfl,w1,hR,_,hb⟩
   exact⟨rfl,(Rd.trans (Rd.ext ((World.Extends.refl w0).alloc _)) hR).Fy hb⟩)
 clear j6 uf kO rC ef;refine fw.out.mono ?_;rintro e w1 ⟨rfl,jF⟩;have aR:Hid (Below w.heap.size w w1):=dy.out.trans (jF.out.below (by omega) (by omega));have iw:w1.heap[w.heap.size+1]?=Z (AT aQ 43 (0,0)):=(jF.out.block _ (by omega) (by omega)).trans Cv;have q0:w1.cell? ⟨w.heap.size+1,0,Y⟩=Z (O J 0):=af iw 0;have y0:w1.frozen? ⟨w.heap.size+1,0,Y⟩=false:=frozenAt iw 0;have q1:w1.cell? ⟨w.heap.size+1,1,Y⟩=Z (AI false):=af iw 1;have y1:w1.frozen? ⟨w.heap.size+1,1,Y⟩=false:=frozenAt iw 1;have q2:w1.cell? ⟨w.heap.size+1,2,Y⟩=Z (AI false):=af iw 2;have y2:w1.frozen? ⟨w.heap.size+1,2,Y⟩=false:=frozenAt iw 2;have q3:w1.cell? ⟨w.heap.size+1,3,Y⟩=Z (O J 0):=af iw 3;have y3:w1.frozen? ⟨w.heap.size+1,3,Y⟩=false:=frozenAt iw 3;have q4:w1.cell? ⟨w.heap.size+1,4,Y⟩=Z (I ⟨#[]⟩):=af iw 4;have y4:w1.frozen? ⟨w.heap.size+1,4,Y⟩=false:=frozenAt iw 4;have q5:w1.cell? ⟨w.heap.size+1,5,Y⟩=Z (O J 0):=af iw 5;have y5:w1.frozen? ⟨w.heap.size+1,5,Y⟩=false:=frozenAt iw 5;have q6:w1.cell? ⟨w.heap.size+1,6,Y⟩=Z (U Y 0 0):=af iw 6;have y6:w1.frozen? ⟨w.heap.size+1,6,Y⟩=false:=frozenAt iw 6;clear fw dy jF iw Cv;go_wp2_with fail;refine Ix (v:=Il #[Im aQ,O J 1]) ?_ rfl ⟨rfl,?_⟩
 .simp[results,Tryz.results19,go_sem,q0,q1,q2,q3,q4,q5,q6]
 .exact(((((((aR.out.setCell (p:=⟨w.heap.size+1,0,Y⟩) (by simp) _).setCell (p:=⟨w.heap.size+1,1,Y⟩) (by simp) _).setCell (p:=⟨w.heap.size+1,2,Y⟩) (by simp) _).setCell (p:=⟨w.heap.size+1,3,Y⟩) (by simp) _).setCell (p:=⟨w.heap.size+1,4,Y⟩) (by simp) _).setCell (p:=⟨w.heap.size+1,5,Y⟩) (by simp) _).setCell (p:=⟨w.heap.size+1,6,Y⟩) (by simp) _)
end Go.Proofs.YtfidjlcdlakceaaGreatDoor
namespace Go.Proofs.YtfidjlcdlakceaaGreatDoor
namespace Rc
open Go.RowKit
end Rc
end Go.Proofs.YtfidjlcdlakceaaGreatDoor
namespace Go.Proofs.YtfidjlcdlakceaaGreatDoor
open Go.RowKit Go.Lib
theorem Hw(t:ByteArray)(w:World)(hl:¬ t.size<=512) :
 Calls be 19 #[I t] w λe w'=>e=sh (Il #[Im aQ,O J 2])/\Below w.heap.size w w':=by
 have G6:decide (512<(t.size:Int))=true:=by simp;omega
 clear hl;go_enter Tryz.func19,Tryz.ntmps19;go_wp2_with fail;refine Ix (v:=Il #[Im aQ,O J 2]) ?_ rfl ⟨rfl,?_⟩
 .simp[results,Tryz.results19,go_sem]
 .exact((Ib _ _).alloc (By _) _).alloc (by simp) _
abbrev RdP(t:ByteArray)(w:World)(e:Ending)(w':World):Prop:=
 Below w.heap.size w w'/\((∃M v,qL t=Z M/\t.size<=512/\bn M.id M.code M.an M.R M.rs=0/\e=sh (Il #[Im #[O J M.id,AI M.aB,AI M.cut,O J M.code,I M.R,O J M.an,v],O J 0])/\Hid (Rc.Own w.heap.size w' v M.rs))\/(∃E:Int,E=(if t.size<=512 then 1 else 2)/\(t.size<=512->pZ t≠0)/\e=sh (Il #[Im aQ,O J E])))
theorem Pt(t:ByteArray)(w:World):Calls be 19 #[I t] w (RdP t w):=by
 by_cases hl:t.size<=512
 .by_cases hE:pZ t=0
  .have h2:∃M,qL t=Z M/\bn M.id M.code M.an M.R M.rs=0:=by
    unfold pZ at hE;cases hM:qL t with
    |none=>rw[hM] at hE;simp at hE
    |some M=>rw[hM] at hE;exact⟨M,rfl,hE⟩
   obtain⟨M,hM,hc⟩:=h2;refine(AU M.id M.code M.an M.aB M.cut M.R t M.rs w (Pr hM (by omega)) hl hc).mono ?_;rintro e w' ⟨v,h1,h2,h3⟩;exact⟨h2,.inl ⟨M,v,hM,hl,hc,h1,h3⟩⟩
  .refine(T8 t w hl hE).mono ?_
   rintro e w' ⟨h1,h2⟩;exact⟨h2,.inr ⟨1,by rw[if_pos hl],λ_=>hE,h1⟩⟩
 .refine(Hw t w hl).mono ?_
  rintro e w' ⟨h1,h2⟩;exact⟨h2,.inr ⟨2,by rw[if_neg hl],λh=>absurd h hl,h1⟩⟩
end Go.Proofs.YtfidjlcdlakceaaGreatDoor
namespace Go.Proofs.YtfidjlcdlakceaaGreatDoor
open Go.RowKit
theorem yV{id code an:Int}{aB cut:Bool}{R:ByteArray}{rs:List Rc.Rec}(h:zO id code an aB cut R rs=0):bn id code an R rs=0/\(cL id code an aB cut R rs).length<=512/\ow id code an aB cut R rs=⟨(cL id code an aB cut R rs).toArray⟩:=by
 unfold zO at h;unfold ow;split at h
 .rename_i h1
  rw[if_pos h1];split at h
  .omega
  .rename_i h2
   exact⟨h1,by omega,by rw[if_neg h2]⟩
 .rename_i h1
  exact absurd h h1
theorem oz{id code an:Int}{aB cut:Bool}{R:ByteArray}{rs:List Rc.Rec}(h:zO id code an aB cut R rs=0)(W:World) :
 Calls be 19 #[I (ow id code an aB cut R rs)] W λe w'=>∃v,e=sh (Il #[Im #[O J id,AI aB,AI cut,O J code,I R,O J an,v],O J 0])/\Below W.heap.size W w'/\Hid (Rc.Own W.heap.size w' v rs):=by
 obtain⟨h1,h2,h3⟩:=yV h;rw[h3];exact AU id code an aB cut R _ rs W (wL h1 h2) (by simp[ByteArray.size];exact h2) h1
abbrev qT:Qu:=⟨⟨#[115]⟩,⟨#[]⟩,⟨#[]⟩,⟨#[]⟩⟩
abbrev sT:Sv.aI:=⟨⟨#[110]⟩,⟨#[105]⟩,⟨#[115]⟩,⟨#[]⟩,9,0,true,1,false⟩
theorem Pu:Pp qT 1 ⟨#[99]⟩ [sT] [] ⟨0,0,0,0,0⟩ []=⟨[⟨⟨#[115,46,115,101,114,118,105,99,101,46,109,101,115,104]⟩,1,0,9,⟨#[]⟩,0,⟨#[]⟩⟩],0,0⟩:=by kernel_rfl
theorem sE(w:World):Calls be 14 #[] w λe w'=>e=sh (AI true)/\Below w.heap.size w w':=by
 have HR:Hid (∀(W:World) (g:Nat),W.heap[g]?=Z (AT #[I ⟨#[110]⟩,I ⟨#[105]⟩,I ⟨#[115]⟩,I ⟨#[]⟩,O J 9,O J 0,AI true,O J 1,AI false] 52 (0,0))->Calls be 42 #[Im #[I ⟨#[115]⟩,I ⟨#[]⟩,I ⟨#[]⟩,I ⟨#[]⟩],O J 1,I ⟨#[99]⟩,U (Z ⟨g,0,Y⟩) 1 1,U Y 0 0,Im #[O J 0,O J 0,O J 0,O J 0,O J 0],U Y 0 0] W λe w'=>∃v,e=sh (Il #[v,O J 0,O J 0])/\Rc.Own W.heap.size w' v [⟨⟨#[115,46,115,101,114,118,105,99,101,46,109,101,115,104]⟩,1,0,9,⟨#[]⟩,0,⟨#[]⟩⟩]/\Below W.heap.size W w'):=λW g hg=>by
  have h:=A9 ⟨#[99]⟩ (Z ⟨g,0,Y⟩) Y Y 1 1 0 0 0 0 0 0 0 0 0 qT 1 [sT] [] [] W ⟨by decide,by decide,by decide,by decide⟩ (by decide) (Sv.qe W g 1 sT ⟨by decide,by decide,by decide,by decide⟩ hg) ⟨Y,0,rfl,λj=>by simp[dm],.inl rfl⟩ ⟨Y,0,rfl,λj=>by simpa using Wh.nU,.inl rfl⟩;rw[Pu] at h;exact h
 go_enter Tryz.func14,Tryz.ntmps14;go_wp2_with fail;refine Calls.mono (HR.out _ w.heap.size (Ie w _)) ?_;rintro e w1 ⟨v,rfl,ho,hb⟩;obtain⟨g,c,rfl⟩:=Rc.eL ho 0 (by simp);obtain⟨c0,c1,c2,c3,c4,c5,c6⟩:=Rc.dH ho 0 (by simp);have HB:Hid (Below w.heap.size w w1):=((Ib _ _).alloc (By _) _).trans (hb.mono (by simp));simp only[List.getD_cons_zero,Nat.zero_mul,Nat.zero_add,List.length_singleton] at c0 c1 c2 c3 c4 c5 c6 ⊢;clear ho hb;go_wp2_with fail;go_ret;exact⟨rfl,HB.out⟩
end Go.Proofs.YtfidjlcdlakceaaGreatDoor
