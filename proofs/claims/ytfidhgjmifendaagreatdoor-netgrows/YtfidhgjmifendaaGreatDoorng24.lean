import Derived.Test.YtfidhgjmifendaaGreatDoorng23
import Derived.OneCell
import Derived.Test.YtfidhgjmifendaaGreatDoorng17
set_option maxHeartbeats 12800000
set_option maxRecDepth 100000
open Go.Obj renaming cells→By
open Option renaming some→AI,none→be
open Go.Value renaming pointer→If,int→U,slice→J,string→Y,agg→Ik,bool→Ia,func→IP,ownBlock→Jx
open Go.IntKind renaming i64→O
open Array renaming getElem?_eq_some_iff→BY
open Go.RowKit.Below renaming refl→Ib,heap_setCell→IX
open Nat renaming le_refl→Ic,zero_add→ID
open Go renaming heap_alloc_new→Ii,maxLen→Io,TypeId→I4,bodyPost_ret→IL,ownsRow_setCell_other→Iu,redrawn→Iv
open Go.Ending renaming returned→AT
open Go.Proofs.Tryz renaming prog→AS,underlying40→J7
open Go.World renaming frozen?→Is,block_lt_of_cell?→Iy
open Go.RowKit renaming ownsRow_setCell_below→Il
open Go.Joins renaming block_setCell→IC
open Go.Sort renaming grow→Ij
open List renaming getD→Iq,getElem?_eq_getElem→Ie,any_eq_true→Qg,pairwise_iff_getElem→I5
namespace Go.Proofs.YtfidhgjmifendaaGreatDoor
open Go.RowKit
theorem Se{a b:Mem}(ha:a.e=0)(hb:b.e=0)(hn:a.name=b.name):bN a b=0:=by
 unfold bN;have h:aO [a] [b]=0:=by
  unfold aO;rw[jJ,jJ,if_pos ha,hb]
 rw[if_pos h,if_pos hn]
theorem lL{ms:List Mem}(h:bj ms=0):∀m∈ms,m.e=0:=by
 obtain⟨_,_,h3⟩:=af h;exact bb ms h3
theorem ki{rs:List bK}(h:dV rs=0):rs.length<=20/\(∀r∈rs,r.m.e=0)/\gR rs/\dI rs:=by
 unfold dV at h;split at h
 .cases h
 .rename_i hn
  split at h
  .rename_i h1
   split at h
   .rename_i h2
    split at h
    .rename_i h3
     refine⟨by omega,λr hr=>?_,h2,h3⟩;exact bb _ h1 r.m (List.mem_map.2 ⟨r,hr,rfl⟩)
    .cases h
   .cases h
  .rename_i h1;exact absurd h h1
theorem D4{ms:List Mem}{r:bK}(h:bj ms=0)(hr:r.m.e=0):dL ms r=fM ms r:=by
 unfold dL fM;rcases hf:cK ms r.m.name with _|k
 .rfl
 .have hk:=pc hf
  simp only;rw[Se hr (lL h k hk.1) hk.2.symm];simp
theorem D5{ms:List Mem}{rs:List bK}(h:bj ms=0)(hr:dV rs=0):rs.any (dL ms)=rs.any (fM ms):=by
 have h2:=(ki hr).2.1;clear hr;induction rs with
 |nil=>rfl
 |cons r l ih=>
  rw[List.any_cons,List.any_cons,D4 h (h2 r (by simp)),ih (λx hx=>h2 x (by simp[hx]))]
theorem tl(n:Nd)(b:Nat)(vm vr vs vg vw:Value)(w:World)(h:eT w n vm vr vs vg vw)(hg:w.heap[b]?=AI (By (dw n vm vr vs vg vw) 90 (0,0)))(hp:n.pE=0) :
 kt 56 #[If (AI ⟨b,0,be⟩)] w (U O n.wE):=by
 have yb:Hid n.mL:=Nd.parts hp;have hb:b<w.heap.size:=(BY.1 hg).1;have Pp:n.ms.length<=20:=(af yb.out.ms).1;have hrl:n.rs.length<=20:=(ki yb.out.rs).1;have rC:Hid (n.wE=match cK n.ms n.name with
  |none=>5
  |some m=>if m.state=2\/m.state=3 then 4 else if n.rs.any (dL n.ms)=true then 4 else 0):=by
  show n.wE=_;rw[D5 yb.out.ms yb.out.rs];rfl
 obtain⟨nm,ct,ms,rs,sv,gw,⟨px,py,pz,ph,pq⟩,wh⟩:=n;obtain⟨hU,nx,_,_,_,_,_⟩:=h;simp only at hU nx hg Pp hrl rC;generalize Nd.wE ⟨nm,ct,ms,rs,sv,gw,⟨px,py,pz,ph,pq⟩,wh⟩=res at *;obtain⟨am,cm,rfl,Hv,Hw⟩:=hU;have hU:Sl w (J am ms.length cm) ms:=⟨am,cm,rfl,Hv,Hw⟩;clear Hv Hw;have HX:Hid (∀W,Below w.heap.size w W->W.cell? ⟨b,0,be⟩=AI (Y nm)/\W.cell? ⟨b,2,be⟩=AI (J am ms.length cm)/\W.cell? ⟨b,3,be⟩=AI vr):=λW hW=>
  have uH:=(hW.block _ hb).trans hg
  ⟨ae uH 0,ae uH 2,ae uH 3⟩
 have D6:Hid (∀(W:World) (t:ByteArray),Below w.heap.size w W->kt 67 #[If (AI ⟨b,0,be⟩),Y t] W (.tuple #[Ik #[Y (fc ms t).name,U O (fc ms t).state,U O (fc ms t).aM,U O (fc ms t).addr,Ia (fc ms t).server],Ia (cK ms t).isSome])):=λW t hW=>
  iP b am ms.length cm ms t W (HX.out W hW).2.1 (hU.below hW) (by omega)
 have HCF:Hid (∀W,Below w.heap.size w W->kt 102 #[vr,IP (.func 103) #[If (AI ⟨b,0,be⟩)] #[]] W (Ia (rs.any (dL ms)))):=λW hW=>
  wW b am ms.length cm ms rs vr W (nx.below hW) (HX.out W hW).2.1 (hU.below hW) (by omega) (by omega)
 clear hU nx;generalize rs.any (dL ms)=ab at *;obtain⟨y0,y2,y3⟩:=HX.out w (Ib _ _);clear hg;go_enter Tryz.func56,Tryz.ntmps56;go_wp2_with fail;refine(D6.out _ nm (Ib _ _)).mono ?_;rintro e w1 ⟨rfl,aB⟩;have aY:Hid _:=aB;clear aB y0 y2 y3;rcases hf:cK ms nm with _|m
 .have HR:Hid _:=rC.out.trans (by rw[hf])
  have Hq:=tf hf;rw[Hq];clear hf Hq;go_wp2_with fail;go_ret;exact⟨ai HR.out.symm,aY.out.alloc aY.out.size _⟩
 .have HR:Hid _:=rC.out.trans (by rw[hf])
  have Hq:=kO hf;rw[Hq];clear hf Hq;obtain⟨mn,st,lf,ad,VK⟩:=m;simp only at HR;by_cases h2:st=2
  .subst h2
   have AZ:Hid (res=4):=HR.out.trans (by simp);go_wp2_with fail;go_ret;exact⟨ai AZ.out.symm,aY.out.alloc aY.out.size _⟩
  .by_cases h3:st=3
   .subst h3
    have AZ:Hid (res=4):=HR.out.trans (by simp);go_wp2_with fail;go_ret;exact⟨ai AZ.out.symm,aY.out.alloc aY.out.size _⟩
   .have AZ:Hid _:=HR.out.trans (if_neg (by omega))
    have Hx:(st==2)=false:=by simpa using h2
    have h3':(st==3)=false:=by simpa using h3
    clear h2 h3 HR;obtain⟨W2,bL⟩:∃W2,W2=w1.alloc (By #[Y mn,U O st,U O lf,U O ad,Ia VK] 50):=⟨_,rfl⟩;have bp:Hid (Below w.heap.size w W2):=by rw[bL];exact aY.out.alloc aY.out.size _
    obtain⟨y0,y2,y3⟩:=HX.out W2 bp.out;rw[bL] at y0 y2 y3;go_wp2_with fail;rw[<- bL];refine(HCF.out _ bp.out).mono ?_;rintro e w3 ⟨rfl,bU⟩;have cF:Hid _:=bp.out.trans (bU.mono bp.out.size);clear bU y0 y2 y3 bL;cases ab
    .go_wp2_with fail
     go_ret;exact⟨ai AZ.out.symm,cF.out⟩
    .go_wp2_with fail
     go_ret;exact⟨ai AZ.out.symm,cF.out⟩
theorem oo(n:Nd)(vm vr vs vg vw:Value)(w:World)(h:eT w n vm vr vs vg vw) :
 kt 36 #[Ik (dw n vm vr vs vg vw)] w (U O n.e):=by
 have HI:Hid _:=h;have HE:Hid (n.e=if n.pE=0 then n.wE else n.pE):=rfl;obtain⟨W,hW⟩:∃W,W=(w.alloc (By (dw n vm vr vs vg vw) 42)).alloc (By (dw n vm vr vs vg vw) 90):=⟨_,rfl⟩;have qV:Below w.heap.size w W:=by rw[hW];exact((Ib _ _).alloc (Ic _) _).alloc (by simp) _
 have hg:W.heap[w.heap.size+1]?=AI (By (dw n vm vr vs vg vw) 90 (0,0)):=by
  have h:=Ii (w.alloc (By (dw n vm vr vs vg vw) 42)) (By (dw n vm vr vs vg vw) 90);rw[hW];simpa using h
 have MH:W.heap.size=w.heap.size+2:=by rw[hW];simp
 have jA:Hid _:=qV;have HC:Hid (aF _ _ _ _):=tj n (w.heap.size+1) vm vr vs vg vw W (h.below qV) hg;have HD:Hid (n.pE=0->∀W1,Below W.heap.size W W1->kt 56 #[If (AI ⟨w.heap.size+1,0,be⟩)] W1 (U O n.wE)):=λhp W1 h1=>
  tl n (w.heap.size+1) vm vr vs vg vw W1 ((h.below qV).below h1) ((h1.block _ (by omega)).trans hg) hp
 obtain⟨nm,ct,ms,rs,sv,gw,⟨px,py,pz,ph,pq⟩,wh⟩:=n;obtain⟨⟨am,cm,rfl,_,_⟩,⟨ar,cr,rfl,_,_⟩,⟨aq,cq,rfl,_,_⟩,⟨ag,cg,rfl,_,_⟩,⟨aw,cw,rfl,_,_⟩,_,_⟩:=h;generalize Nd.e ⟨nm,ct,ms,rs,sv,gw,⟨px,py,pz,ph,pq⟩,wh⟩=res at *;generalize Nd.pE ⟨nm,ct,ms,rs,sv,gw,⟨px,py,pz,ph,pq⟩,wh⟩=pe at *;generalize Nd.wE ⟨nm,ct,ms,rs,sv,gw,⟨px,py,pz,ph,pq⟩,wh⟩=we at *;simp only[dw] at hW ⊢;clear hg qV;generalize ms.length=VL at *;generalize rs.length=VM at *;generalize sv.length=VN at *;generalize gw.length=VO at *;generalize wh.length=VP at *;go_enter Tryz.func36,Tryz.ntmps36;go_wp2_with fail;rw[<- hW];refine HC.out.mono ?_;rintro e w1 ⟨rfl,aB⟩;have aY:Hid _:=aB;have iM:Hid _:=jA.out.trans (aB.mono (by omega));clear aB;by_cases hp:pe=0
 .have TX:=HD.out hp w1 aY.out
  have HR:Hid _:=HE.out.trans (if_pos hp);subst hp;clear HD HE;go_wp2_with fail;refine TX.mono ?_;rintro e w2 ⟨rfl,aI⟩;have oS:Hid _:=iM.out.trans (aI.mono iM.out.size);clear aI;go_wp2_with fail;go_ret;exact⟨ai HR.out.symm,oS.out⟩
 .have hp':(pe !=0)=true:=by simpa using hp
  have HR:Hid _:=HE.out.trans (if_neg hp);clear hp HD HE;go_wp2_with fail;go_ret;exact⟨ai HR.out.symm,iM.out⟩
end Go.Proofs.YtfidhgjmifendaaGreatDoor
namespace Go.Proofs.YtfidhgjmifendaaGreatDoor
namespace Wh
open Go.RowKit
theorem eV(ms:List bJ)(v:Value)(w:World)(h:Sl w v ms)(hn:ms.length<=1000) :
 aF 61 #[v] w λe w'=>∃v',e=AT v'/\Own w.heap.size w' v' ms/\Below w.heap.size w w':=by
 obtain⟨a,cap,rfl,hs,h⟩:=h;obtain⟨i0,fW,dd,gY,gG⟩:=info_parts Tryz.np;cases a with
 |none=>
  have he:ms=[]:=by
   rcases h with h|⟨b,off,h,_⟩
   .exact h
   .cases h
  subst he;clear h hs;have gM:=λ(w:World)=>Lib.run_eql_slice_nil (P:=AS) w 40 116 be 0 cap 0 0 J7;simp only[List.length_nil,Option.isNone_none] at gM ⊢;go_enter Tryz.func61,Tryz.ntmps61;go_wp2_with fail;go_ret;exact⟨_,rfl,bX _ _,Ib _ _⟩
 |some a=>
  have gM:=λ(w:World)=>Lib.run_eql_slice_nil (P:=AS) w 40 116 (AI a) ms.length cap 0 0 J7;simp only[Option.isNone_some] at gM;have hnews:Hid (∀j u,(fl ms)[j]?=AI u->(w.alloc (By #[] 116)).cell? (a.add j)=AI u):=by
   intro j u hj;rcases h with h|⟨b,off,h,hb,hr⟩
   .subst h;simp[fl] at hj
   .cases h
    have RG:j<ms.length*6:=by rw[<- cM];exact(List.getElem?_eq_some_iff.1 hj).1
    have h1:=ec ms (j/6) (by omega) (j%6) (by omega);rw[show j/6*6+j%6=j by omega,hj] at h1;rw[Addr.add_lit,World.cell?_alloc_past (w:=w) _ b _ hb];obtain⟨c0,c1,c2,c3,c4,c5⟩:=hr (j/6) (by omega);have bZ:j%6=0\/j%6=1\/j%6=2\/j%6=3\/j%6=4\/j%6=5:=by omega
    rcases bZ with e|e|e|e|e|e
    .rw[show off+j=off+j/6*6 by omega,c0];rw[e] at h1;simpa[bJ.cs] using h1.symm
    .rw[show off+j=off+j/6*6+1 by omega,c1];rw[e] at h1;simpa[bJ.cs] using h1.symm
    .rw[show off+j=off+j/6*6+2 by omega,c2];rw[e] at h1;simpa[bJ.cs] using h1.symm
    .rw[show off+j=off+j/6*6+3 by omega,c3];rw[e] at h1;simpa[bJ.cs] using h1.symm
    .rw[show off+j=off+j/6*6+4 by omega,c4];rw[e] at h1;simpa[bJ.cs] using h1.symm
    .rw[show off+j=off+j/6*6+5 by omega,c5];rw[e] at h1;simpa[bJ.cs] using h1.symm
  have HO:Hid ((w.alloc (By #[] 116)).ownsRow w.heap.size 116 6 (J (AI ⟨w.heap.size,0,be⟩) 0 0) 0 []):=World.ownsRow_made w #[] 0 (Ic _) (by unfold Io;omega) rfl;clear h hs;go_enter Tryz.func61,Tryz.ntmps61;go_wp2_with (at_builtin;refine wpList_append_own _ rfl _ _ 40 rfl w.heap.size 116 i0 _ 6 56 J7 fW dd gY gG rfl (by omega) _ 0 [] rfl HO.out a ms.length cap (fl ms) rfl (cM ms) hnews.out (gJ ms) (by unfold Io;omega) (by omega) (by simp) ?_);intro v' w' r1 r2 r3;go_wp2_with fail;go_ret;refine⟨v',rfl,?_,?_⟩
  .simpa using r1
  .exact((Ib _ _).alloc (Ic _) _).grown r2 (by simp) (λk hk=>by simp[Jx] at hk;omega)
end Wh
end Go.Proofs.YtfidhgjmifendaaGreatDoor
namespace Go.Proofs.YtfidhgjmifendaaGreatDoor
open Go.RowKit
theorem bu{W:World}{b:Nat}{T:I4}{f:Nat×Nat}{c0 c1 c2 c3 c4 c5 c6 c7 c8 c9 c10 c11:Value}(h:W.heap[b]?=AI (By #[c0,c1,c2,c3,c4,c5,c6,c7,c8,c9,c10,c11] T f)):W.cell? ⟨b,0,be⟩=AI c0/\W.cell? ⟨b,1,be⟩=AI c1/\W.cell? ⟨b,2,be⟩=AI c2/\W.cell? ⟨b,3,be⟩=AI c3/\W.cell? ⟨b,4,be⟩=AI c4/\W.cell? ⟨b,5,be⟩=AI c5/\W.cell? ⟨b,6,be⟩=AI c6/\W.cell? ⟨b,7,be⟩=AI c7/\W.cell? ⟨b,8,be⟩=AI c8/\W.cell? ⟨b,9,be⟩=AI c9/\W.cell? ⟨b,10,be⟩=AI c10/\W.cell? ⟨b,11,be⟩=AI c11:=⟨ae h 0,ae h 1,ae h 2,ae h 3,ae h 4,ae h 5,ae h 6,ae h 7,ae h 8,ae h 9,ae h 10,ae h 11⟩
theorem jS{W:World}{b:Nat}{T:I4}{cs:Array Value}(h:W.heap[b]?=AI (By cs T (0,0))):W.frozen? ⟨b,0,be⟩=false/\W.frozen? ⟨b,1,be⟩=false/\W.frozen? ⟨b,2,be⟩=false/\W.frozen? ⟨b,3,be⟩=false/\W.frozen? ⟨b,4,be⟩=false/\W.frozen? ⟨b,5,be⟩=false/\W.frozen? ⟨b,6,be⟩=false/\W.frozen? ⟨b,7,be⟩=false/\W.frozen? ⟨b,8,be⟩=false/\W.frozen? ⟨b,9,be⟩=false/\W.frozen? ⟨b,10,be⟩=false/\W.frozen? ⟨b,11,be⟩=false:=by simp[Is,h]
theorem Hy{W:World}{b:Nat}{T:I4}{f:Nat×Nat}{c0 c1 c2 c3 c4 c5 c6 c7 c8:Value}(h:W.heap[b]?=AI (By #[c0,c1,c2,c3,c4,c5,c6,c7,c8] T f)):W.cell? ⟨b,0,be⟩=AI c0/\W.cell? ⟨b,1,be⟩=AI c1/\W.cell? ⟨b,2,be⟩=AI c2/\W.cell? ⟨b,3,be⟩=AI c3/\W.cell? ⟨b,4,be⟩=AI c4/\W.cell? ⟨b,5,be⟩=AI c5/\W.cell? ⟨b,6,be⟩=AI c6/\W.cell? ⟨b,7,be⟩=AI c7/\W.cell? ⟨b,8,be⟩=AI c8:=⟨ae h 0,ae h 1,ae h 2,ae h 3,ae h 4,ae h 5,ae h 6,ae h 7,ae h 8⟩
theorem fo{W:World}{b:Nat}{T:I4}{f:Nat×Nat}{c0 c1 c2 c3 c4 c5:Value}(h:W.heap[b]?=AI (By #[c0,c1,c2,c3,c4,c5] T f)):W.cell? ⟨b,0,be⟩=AI c0/\W.cell? ⟨b,1,be⟩=AI c1/\W.cell? ⟨b,2,be⟩=AI c2/\W.cell? ⟨b,3,be⟩=AI c3/\W.cell? ⟨b,4,be⟩=AI c4/\W.cell? ⟨b,5,be⟩=AI c5:=⟨ae h 0,ae h 1,ae h 2,ae h 3,ae h 4,ae h 5⟩
theorem Hz{W:World}{b:Nat}{T:I4}{cs:Array Value}(h:W.heap[b]?=AI (By cs T (0,0))):W.frozen? ⟨b,0,be⟩=false/\W.frozen? ⟨b,1,be⟩=false/\W.frozen? ⟨b,2,be⟩=false/\W.frozen? ⟨b,3,be⟩=false/\W.frozen? ⟨b,4,be⟩=false/\W.frozen? ⟨b,5,be⟩=false:=by simp[Is,h]
theorem iZ{W:World}{b:Nat}{T:I4}{f:Nat×Nat}{c0 c1 c2 c3 c4:Value}(h:W.heap[b]?=AI (By #[c0,c1,c2,c3,c4] T f)):W.cell? ⟨b,0,be⟩=AI c0/\W.cell? ⟨b,1,be⟩=AI c1/\W.cell? ⟨b,2,be⟩=AI c2/\W.cell? ⟨b,3,be⟩=AI c3/\W.cell? ⟨b,4,be⟩=AI c4:=⟨ae h 0,ae h 1,ae h 2,ae h 3,ae h 4⟩
theorem ade{W:World}{b:Nat}{T:I4}{cs:Array Value}(h:W.heap[b]?=AI (By cs T (0,0))):W.frozen? ⟨b,0,be⟩=false/\W.frozen? ⟨b,1,be⟩=false/\W.frozen? ⟨b,2,be⟩=false/\W.frozen? ⟨b,3,be⟩=false/\W.frozen? ⟨b,4,be⟩=false:=by simp[Is,h]
theorem mM{B b:Nat}{a w:World}(h:Below B a w)(hb:B<=b)(x0 x1 x2 x3 x4 x5 x6 x7 x8 x9 x10 x11:Value):Below B a ((((((((((((w.setCell ⟨b,0,be⟩ x0).setCell ⟨b,1,be⟩ x1).setCell ⟨b,2,be⟩ x2).setCell ⟨b,3,be⟩ x3).setCell ⟨b,4,be⟩ x4).setCell ⟨b,5,be⟩ x5).setCell ⟨b,6,be⟩ x6).setCell ⟨b,7,be⟩ x7).setCell ⟨b,8,be⟩ x8).setCell ⟨b,9,be⟩ x9).setCell ⟨b,10,be⟩ x10).setCell ⟨b,11,be⟩ x11):=((((((((((((h).setCell (p:=⟨b,0,be⟩) hb _).setCell (p:=⟨b,1,be⟩) hb _).setCell (p:=⟨b,2,be⟩) hb _).setCell (p:=⟨b,3,be⟩) hb _).setCell (p:=⟨b,4,be⟩) hb _).setCell (p:=⟨b,5,be⟩) hb _).setCell (p:=⟨b,6,be⟩) hb _).setCell (p:=⟨b,7,be⟩) hb _).setCell (p:=⟨b,8,be⟩) hb _).setCell (p:=⟨b,9,be⟩) hb _).setCell (p:=⟨b,10,be⟩) hb _).setCell (p:=⟨b,11,be⟩) hb _
theorem cV{base b n k:Nat}{T:I4}{w:World}{v:Value}{xs:List Value}(h:w.ownsRow base T k v n xs)(hb:b<base)(x0 x1 x2 x3 x4 x5 x6 x7 x8 x9 x10 x11:Value):((((((((((((w.setCell ⟨b,0,be⟩ x0).setCell ⟨b,1,be⟩ x1).setCell ⟨b,2,be⟩ x2).setCell ⟨b,3,be⟩ x3).setCell ⟨b,4,be⟩ x4).setCell ⟨b,5,be⟩ x5).setCell ⟨b,6,be⟩ x6).setCell ⟨b,7,be⟩ x7).setCell ⟨b,8,be⟩ x8).setCell ⟨b,9,be⟩ x9).setCell ⟨b,10,be⟩ x10).setCell ⟨b,11,be⟩ x11).ownsRow base T k v n xs:=Il (Il (Il (Il (Il (Il (Il (Il (Il (Il (Il (Il (h) (a:=⟨b,0,be⟩) hb _) (a:=⟨b,1,be⟩) hb _) (a:=⟨b,2,be⟩) hb _) (a:=⟨b,3,be⟩) hb _) (a:=⟨b,4,be⟩) hb _) (a:=⟨b,5,be⟩) hb _) (a:=⟨b,6,be⟩) hb _) (a:=⟨b,7,be⟩) hb _) (a:=⟨b,8,be⟩) hb _) (a:=⟨b,9,be⟩) hb _) (a:=⟨b,10,be⟩) hb _) (a:=⟨b,11,be⟩) hb _
structure cJ(B:Nat)(w:World)(n:Nd)(vm vr vs vg vw:Value):Prop where
 ms:Own B w vm n.ms
 rs:cE B w vr n.rs
 sv:Sv.Own B w vs n.sv
 gw:Gw.Own B w vg n.gw
 wh:Wh.Own B w vw n.wh
theorem aA{base n k:Nat}{T:I4}{w:World}{v:Value}{xs:List Value}(h:w.ownsRow base T k v n xs):∃a c,v=J a n c/\n<=c:=by
 rcases h.2 with⟨h1,h2⟩|⟨g,c,cur,h1,_,_,hn,_⟩
 .subst h2;exact⟨be,0,h1,Ic _⟩
 .exact⟨_,c,h1,hn⟩
theorem cJ.below{B:Nat}{w w':World}{n:Nd}{vm vr vs vg vw:Value}(h:cJ B w n vm vr vs vg vw)(hb:Below w.heap.size w w'):cJ B w' n vm vr vs vg vw:=⟨h.ms.below hb,h.rs.below hb,h.sv.below hb,h.gw.below hb,h.wh.below hb⟩
structure iq(n:Nd):Prop where
 ms:∀m∈n.ms,m.name.size<=Io
 rs:∀r∈n.rs,r.m.name.size<=Io
 sv:∀m∈n.sv,m.ok
 gw:∀m∈n.gw,m.ok
 wh:∀m∈n.wh,m.ok
 name:n.name.size<=Io
 aC:n.aC.size<=Io
theorem eT.ok{w:World}{n:Nd}{vm vr vs vg vw:Value}(h:eT w n vm vr vs vg vw):iq n:=by
 obtain⟨⟨_,_,_,h1,_⟩,⟨_,_,_,h2,_⟩,⟨_,_,_,h3,_⟩,⟨_,_,_,h4,_⟩,⟨_,_,_,h5,_⟩,h6,h7⟩:=h;exact⟨dt h1,MJ h2,Sv.dt h3,Gw.dt h4,Wh.dt h5,h6,h7⟩
theorem cJ.is{B:Nat}{w:World}{n:Nd}{vm vr vs vg vw:Value}(h:cJ B w n vm vr vs vg vw)(hk:iq n):eT w n vm vr vs vg vw:=
 ⟨h.ms.sl (cy hk.ms),h.rs.sl (MK hk.rs),h.sv.sl (Sv.cy hk.sv),h.gw.sl (Gw.cy hk.gw),h.wh.sl (Wh.cy hk.wh),hk.name,hk.aC⟩
theorem qw(n:Nd)(vm vr vs vg vw:Value)(w:World)(h:eT w n vm vr vs vg vw)(l1:n.ms.length<=1000)(l2:n.rs.length<=1000)(l3:n.sv.length<=1000)(l4:n.gw.length<=1000)(l5:n.wh.length<=1000) :
 aF 37 #[Ik (dw n vm vr vs vg vw)] w λe w'=>∃um ur us ug uw,e=AT (Ik (dw n um ur us ug uw))/\cJ w.heap.size w' n um ur us ug uw/\Below w.heap.size w w':=by
 obtain⟨nm,ct,ms,rs,sv,gw,⟨px,py,pz,ph,pq⟩,wh⟩:=n;obtain⟨hm,hr,hs,wF,hh,_,_⟩:=h;simp only at hm hr hs wF hh l1 l2 l3 l4 l5;have Hm:Hid (∀W,Below w.heap.size w W->aF _ _ _ _):=λW hW=>eV ms vm W (hm.below hW) l1;have Hr:Hid (∀W,Below w.heap.size w W->aF _ _ _ _):=λW hW=>gh rs vr W (hr.below hW) l2;have Hs:Hid (∀W,Below w.heap.size w W->aF _ _ _ _):=λW hW=>Sv.eV sv vs W (hs.below hW) l3;have Hg:Hid (∀W,Below w.heap.size w W->aF _ _ _ _):=λW hW=>Gw.eV gw vg W (wF.below hW) l4;have Hh:Hid (∀W,Below w.heap.size w W->aF _ _ _ _):=λW hW=>Wh.eV wh vw W (hh.below hW) l5;obtain⟨em,cm,rfl,_,_⟩:=hm;obtain⟨er,cr,rfl,_,_⟩:=hr;obtain⟨es,cs,rfl,_,_⟩:=hs;obtain⟨eg,cg,rfl,_,_⟩:=wF;obtain⟨eh,ch,rfl,_,_⟩:=hh;generalize hNm:ms.length=km at *;have HNm:Hid _:=hNm;clear hNm;generalize hNr:rs.length=kr at *;have HNr:Hid _:=hNr;clear hNr;generalize hNs:sv.length=ks at *;have ML:Hid _:=hNs;clear hNs;generalize hNg:gw.length=kg at *;have HNg:Hid _:=hNg;clear hNg;generalize hNh:wh.length=kh at *;have HNh:Hid _:=hNh;clear hNh;simp only[dw];obtain⟨W0,bA⟩:∃W0,W0=(w.alloc (By #[Y nm,Y ct,J em km cm,J er kr cr,J es ks cs,J eg kg cg,U O px,U O py,U O pz,U O ph,U O pq,J eh kh ch] 42)).alloc (By #[Y ⟨#[]⟩,Y ⟨#[]⟩,J be 0 0,J be 0 0,J be 0 0,J be 0 0,U O 0,U O 0,U O 0,U O 0,U O 0,J be 0 0] 42):=⟨_,rfl⟩;have bM:Below w.heap.size w W0:=by rw[bA];exact((Ib _ _).alloc (Ic _) _).alloc (by simp) _
 have dF:W0.heap[w.heap.size]?=AI (By #[Y nm,Y ct,J em km cm,J er kr cr,J es ks cs,J eg kg cg,U O px,U O py,U O pz,U O ph,U O pq,J eh kh ch] 42 (0,0)):=by
  rw[bA,Below.heap_alloc _ _ _ (by simp)];exact Ii w _
 have dd:W0.heap[w.heap.size+1]?=AI (By #[Y ⟨#[]⟩,Y ⟨#[]⟩,J be 0 0,J be 0 0,J be 0 0,J be 0 0,U O 0,U O 0,U O 0,U O 0,U O 0,J be 0 0] 42 (0,0)):=by
  have h:=Ii (w.alloc (By #[Y nm,Y ct,J em km cm,J er kr cr,J es ks cs,J eg kg cg,U O px,U O py,U O pz,U O ph,U O pq,J eh kh ch] 42)) (By #[Y ⟨#[]⟩,Y ⟨#[]⟩,J be 0 0,J be 0 0,J be 0 0,J be 0 0,U O 0,U O 0,U O 0,U O 0,U O 0,J be 0 0] 42);rw[bA];simpa using h
 have eE:w.heap.size+1<W0.heap.size:=by rw[bA];simp
 have cY:Hid _:=bM;have AM:Hid _:=dF;have nE:Hid _:=dd;clear bM dF dd;go_enter Tryz.func37,Tryz.ntmps37;go_wp2_with fail;rw[<- bA];clear bA;refine(Hm.out W0 cY.out).mono ?_;rintro e X1 ⟨v',rfl,ho,hx⟩;obtain⟨bm,D7,CT,_⟩:=aA ho;rw[HNm.out] at CT;subst CT;have hJ:=(hx.block _ (by omega)).trans AM.out;obtain⟨y0,y1,y2,y3,y4,y5,y6,y7,y8,y9,y10,y11⟩:=bu hJ;have z2:X1.frozen? ⟨w.heap.size,2,be⟩=false:=by simp[Is,hJ]
 have Gr:w.heap.size<X1.heap.size:=by have:=hx.size;omega
 obtain⟨W1,cQ⟩:∃W1,W1=X1.setCell ⟨w.heap.size,2,be⟩ (J bm km D7):=⟨_,rfl⟩;have uJ:Hid (W1.heap[w.heap.size]?=AI (By #[Y nm,Y ct,J bm km D7,J er kr cr,J es ks cs,J eg kg cg,U O px,U O py,U O pz,U O ph,U O pq,J eh kh ch] 42 (0,0))):=by rw[cQ];exact IC (i:=2) hJ _
 have Gs:Hid (W1.heap[w.heap.size+1]?=AI (By #[Y ⟨#[]⟩,Y ⟨#[]⟩,J be 0 0,J be 0 0,J be 0 0,J be 0 0,U O 0,U O 0,U O 0,U O 0,U O 0,J be 0 0] 42 (0,0))):=by rw[cQ];exact(IX _ _ _ _ (by simp)).trans ((hx.block _ (by omega)).trans nE.out)
 have adf:Hid (Own (w.heap.size+2) W1 (J bm km D7) ms):=by rw[cQ];exact Il (ho.mono (by omega)) (by simp) _
 have aY:Hid (Below w.heap.size w W1):=by rw[cQ];exact(cY.out.trans (hx.mono cY.out.size)).setCell (p:=⟨w.heap.size,2,be⟩) (by simp) _
 have fh:=(BY.1 Gs.out).1;clear ho hx hJ eE;go_wp2_with fail;rw[<- cQ];clear cQ y0 y1 y2 y3 y4 y5 y6 y7 y8 y9 y10 y11 z2 Gr;refine(Hr.out W1 aY.out).mono ?_;rintro e X2 ⟨v',rfl,ho,hx⟩;obtain⟨br,HQ,CT,_⟩:=aA ho;rw[HNr.out] at CT;subst CT;have hJ:=(hx.block _ (by omega)).trans uJ.out;obtain⟨y0,y1,y2,y3,y4,y5,y6,y7,y8,y9,y10,y11⟩:=bu hJ;have z3:X2.frozen? ⟨w.heap.size,3,be⟩=false:=by simp[Is,hJ]
 have Gr:w.heap.size<X2.heap.size:=by have:=hx.size;omega
 obtain⟨W2,bL⟩:∃W2,W2=X2.setCell ⟨w.heap.size,3,be⟩ (J br kr HQ):=⟨_,rfl⟩;have wC:Hid (W2.heap[w.heap.size]?=AI (By #[Y nm,Y ct,J bm km D7,J br kr HQ,J es ks cs,J eg kg cg,U O px,U O py,U O pz,U O ph,U O pq,J eh kh ch] 42 (0,0))):=by rw[bL];exact IC (i:=3) hJ _
 have ly:Hid (W2.heap[w.heap.size+1]?=AI (By #[Y ⟨#[]⟩,Y ⟨#[]⟩,J be 0 0,J be 0 0,J be 0 0,J be 0 0,U O 0,U O 0,U O 0,U O 0,U O 0,J be 0 0] 42 (0,0))):=by rw[bL];exact(IX _ _ _ _ (by simp)).trans ((hx.block _ (by omega)).trans Gs.out)
 have adg:Hid (cE (w.heap.size+2) W2 (J br kr HQ) rs):=by rw[bL];exact Il (ho.base (by omega)) (by simp) _
 have adh:Hid (Own (w.heap.size+2) W2 (J bm km D7) ms):=by rw[bL];exact Il (adf.out.below hx) (by simp) _
 have bp:Hid (Below w.heap.size w W2):=by rw[bL];exact(aY.out.trans (hx.mono aY.out.size)).setCell (p:=⟨w.heap.size,3,be⟩) (by simp) _
 have iU:=(BY.1 ly.out).1;clear ho hx hJ fh;go_wp2_with fail;rw[<- bL];clear bL y0 y1 y2 y3 y4 y5 y6 y7 y8 y9 y10 y11 z3 Gr;refine(Hs.out W2 bp.out).mono ?_;rintro e X3 ⟨v',rfl,ho,hx⟩;obtain⟨bs,MM,CT,_⟩:=aA ho;rw[ML.out] at CT;subst CT;have hJ:=(hx.block _ (by omega)).trans wC.out;obtain⟨y0,y1,y2,y3,y4,y5,y6,y7,y8,y9,y10,y11⟩:=bu hJ;have z4:X3.frozen? ⟨w.heap.size,4,be⟩=false:=by simp[Is,hJ]
 have Gr:w.heap.size<X3.heap.size:=by have:=hx.size;omega
 obtain⟨W3,ep⟩:∃W3,W3=X3.setCell ⟨w.heap.size,4,be⟩ (J bs ks MM):=⟨_,rfl⟩;have Sf:Hid (W3.heap[w.heap.size]?=AI (By #[Y nm,Y ct,J bm km D7,J br kr HQ,J bs ks MM,J eg kg cg,U O px,U O py,U O pz,U O ph,U O pq,J eh kh ch] 42 (0,0))):=by rw[ep];exact IC (i:=4) hJ _
 have pZ:Hid (W3.heap[w.heap.size+1]?=AI (By #[Y ⟨#[]⟩,Y ⟨#[]⟩,J be 0 0,J be 0 0,J be 0 0,J be 0 0,U O 0,U O 0,U O 0,U O 0,U O 0,J be 0 0] 42 (0,0))):=by rw[ep];exact(IX _ _ _ _ (by simp)).trans ((hx.block _ (by omega)).trans ly.out)
 have adi:Hid (Sv.Own (w.heap.size+2) W3 (J bs ks MM) sv):=by rw[ep];exact Il (ho.mono (by omega)) (by simp) _
 have adj:Hid (Own (w.heap.size+2) W3 (J bm km D7) ms):=by rw[ep];exact Il (adh.out.below hx) (by simp) _
 have adk:Hid (cE (w.heap.size+2) W3 (J br kr HQ) rs):=by rw[ep];exact Il (adg.out.below hx) (by simp) _
 have cF:Hid (Below w.heap.size w W3):=by rw[ep];exact(bp.out.trans (hx.mono bp.out.size)).setCell (p:=⟨w.heap.size,4,be⟩) (by simp) _
 have rI:=(BY.1 pZ.out).1;clear ho hx hJ iU;go_wp2_with fail;rw[<- ep];clear ep y0 y1 y2 y3 y4 y5 y6 y7 y8 y9 y10 y11 z4 Gr;refine(Hg.out W3 cF.out).mono ?_;rintro e X4 ⟨v',rfl,ho,hx⟩;obtain⟨bg,Sg,CT,_⟩:=aA ho;rw[HNg.out] at CT;subst CT;have hJ:=(hx.block _ (by omega)).trans Sf.out;obtain⟨y0,y1,y2,y3,y4,y5,y6,y7,y8,y9,y10,y11⟩:=bu hJ;have z5:X4.frozen? ⟨w.heap.size,5,be⟩=false:=by simp[Is,hJ]
 have Gr:w.heap.size<X4.heap.size:=by have:=hx.size;omega
 obtain⟨W4,nL⟩:∃W4,W4=X4.setCell ⟨w.heap.size,5,be⟩ (J bg kg Sg):=⟨_,rfl⟩;have L0:Hid (W4.heap[w.heap.size]?=AI (By #[Y nm,Y ct,J bm km D7,J br kr HQ,J bs ks MM,J bg kg Sg,U O px,U O py,U O pz,U O ph,U O pq,J eh kh ch] 42 (0,0))):=by rw[nL];exact IC (i:=5) hJ _
 have PA:Hid (W4.heap[w.heap.size+1]?=AI (By #[Y ⟨#[]⟩,Y ⟨#[]⟩,J be 0 0,J be 0 0,J be 0 0,J be 0 0,U O 0,U O 0,U O 0,U O 0,U O 0,J be 0 0] 42 (0,0))):=by rw[nL];exact(IX _ _ _ _ (by simp)).trans ((hx.block _ (by omega)).trans pZ.out)
 have adl:Hid (Gw.Own (w.heap.size+2) W4 (J bg kg Sg) gw):=by rw[nL];exact Il (ho.mono (by omega)) (by simp) _
 have adm:Hid (Own (w.heap.size+2) W4 (J bm km D7) ms):=by rw[nL];exact Il (adj.out.below hx) (by simp) _
 have adn:Hid (cE (w.heap.size+2) W4 (J br kr HQ) rs):=by rw[nL];exact Il (adk.out.below hx) (by simp) _
 have ado:Hid (Sv.Own (w.heap.size+2) W4 (J bs ks MM) sv):=by rw[nL];exact Il (adi.out.below hx) (by simp) _
 have fE:Hid (Below w.heap.size w W4):=by rw[nL];exact(cF.out.trans (hx.mono cF.out.size)).setCell (p:=⟨w.heap.size,5,be⟩) (by simp) _
 have D8:=(BY.1 PA.out).1;clear ho hx hJ rI;go_wp2_with fail;rw[<- nL];clear nL y0 y1 y2 y3 y4 y5 y6 y7 y8 y9 y10 y11 z5 Gr;refine(Hh.out W4 fE.out).mono ?_;rintro e X5 ⟨v',rfl,ho,hx⟩;obtain⟨bh,VQ,CT,_⟩:=aA ho;rw[HNh.out] at CT;subst CT;have hJ:=(hx.block _ (by omega)).trans L0.out;obtain⟨y0,y1,y2,y3,y4,y5,y6,y7,y8,y9,y10,y11⟩:=bu hJ;have z11:X5.frozen? ⟨w.heap.size,11,be⟩=false:=by simp[Is,hJ]
 have Gr:w.heap.size<X5.heap.size:=by have:=hx.size;omega
 obtain⟨W5,iV⟩:∃W5,W5=X5.setCell ⟨w.heap.size,11,be⟩ (J bh kh VQ):=⟨_,rfl⟩;have CU:Hid (W5.heap[w.heap.size]?=AI (By #[Y nm,Y ct,J bm km D7,J br kr HQ,J bs ks MM,J bg kg Sg,U O px,U O py,U O pz,U O ph,U O pq,J bh kh VQ] 42 (0,0))):=by rw[iV];exact IC (i:=11) hJ _
 have VR:Hid (W5.heap[w.heap.size+1]?=AI (By #[Y ⟨#[]⟩,Y ⟨#[]⟩,J be 0 0,J be 0 0,J be 0 0,J be 0 0,U O 0,U O 0,U O 0,U O 0,U O 0,J be 0 0] 42 (0,0))):=by rw[iV];exact(IX _ _ _ _ (by simp)).trans ((hx.block _ (by omega)).trans PA.out)
 have adp:Hid (Wh.Own (w.heap.size+2) W5 (J bh kh VQ) wh):=by rw[iV];exact Il (ho.mono (by omega)) (by simp) _
 have adq:Hid (Own (w.heap.size+2) W5 (J bm km D7) ms):=by rw[iV];exact Il (adm.out.below hx) (by simp) _
 have adr:Hid (cE (w.heap.size+2) W5 (J br kr HQ) rs):=by rw[iV];exact Il (adn.out.below hx) (by simp) _
 have ads:Hid (Sv.Own (w.heap.size+2) W5 (J bs ks MM) sv):=by rw[iV];exact Il (ado.out.below hx) (by simp) _
 have adt:Hid (Gw.Own (w.heap.size+2) W5 (J bg kg Sg) gw):=by rw[iV];exact Il (adl.out.below hx) (by simp) _
 have gX:Hid (Below w.heap.size w W5):=by rw[iV];exact(fE.out.trans (hx.mono fE.out.size)).setCell (p:=⟨w.heap.size,11,be⟩) (by simp) _
 have HU:=(BY.1 VR.out).1;have iY:=VR.out;have q0:=ae iY 0;have p0:=ae CU.out 0;have zz0:W5.frozen? ⟨w.heap.size+1,0,be⟩=false:=by simp[Is,iY]
 have q1:=ae iY 1;have p1:=ae CU.out 1;have zz1:W5.frozen? ⟨w.heap.size+1,1,be⟩=false:=by simp[Is,iY]
 have q2:=ae iY 2;have p2:=ae CU.out 2;have zz2:W5.frozen? ⟨w.heap.size+1,2,be⟩=false:=by simp[Is,iY]
 have q3:=ae iY 3;have p3:=ae CU.out 3;have zz3:W5.frozen? ⟨w.heap.size+1,3,be⟩=false:=by simp[Is,iY]
 have q4:=ae iY 4;have p4:=ae CU.out 4;have zz4:W5.frozen? ⟨w.heap.size+1,4,be⟩=false:=by simp[Is,iY]
 have q5:=ae iY 5;have p5:=ae CU.out 5;have zz5:W5.frozen? ⟨w.heap.size+1,5,be⟩=false:=by simp[Is,iY]
 have q6:=ae iY 6;have p6:=ae CU.out 6;have zz6:W5.frozen? ⟨w.heap.size+1,6,be⟩=false:=by simp[Is,iY]
 have q7:=ae iY 7;have p7:=ae CU.out 7;have zz7:W5.frozen? ⟨w.heap.size+1,7,be⟩=false:=by simp[Is,iY]
 have q8:=ae iY 8;have p8:=ae CU.out 8;have zz8:W5.frozen? ⟨w.heap.size+1,8,be⟩=false:=by simp[Is,iY]
 have q9:=ae iY 9;have p9:=ae CU.out 9;have zz9:W5.frozen? ⟨w.heap.size+1,9,be⟩=false:=by simp[Is,iY]
 have q10:=ae iY 10;have p10:=ae CU.out 10;have akq:W5.frozen? ⟨w.heap.size+1,10,be⟩=false:=by simp[Is,iY]
 have q11:=ae iY 11;have p11:=ae CU.out 11;have akr:W5.frozen? ⟨w.heap.size+1,11,be⟩=false:=by simp[Is,iY]
 clear ho hx hJ D8 iY;go_upto_region 6 with fail
 rw[<- iV];clear iV y0 y1 y2 y3 y4 y5 y6 y7 y8 y9 y10 y11 z11 Gr;go_wp2_with fail;refine IL (v:=Ik #[Y nm,Y ct,J bm km D7,J br kr HQ,J bs ks MM,J bg kg Sg,U O px,U O py,U O pz,U O ph,U O pq,J bh kh VQ]) ?_ rfl ⟨J bm km D7,J br kr HQ,J bs ks MM,J bg kg Sg,J bh kh VQ,rfl,⟨?_,?_,?_,?_,?_⟩,?_⟩
 .simp[results,Tryz.results37,go_sem,q0,q1,q2,q3,q4,q5,q6,q7,q8,q9,q10,q11]
 .exact Own.mono (cV (adq.out) (by simp) _ _ _ _ _ _ _ _ _ _ _ _) (by omega)
 .exact cE.base (cV (adr.out) (by simp) _ _ _ _ _ _ _ _ _ _ _ _) (by omega)
 .exact Sv.Own.mono (cV (ads.out) (by simp) _ _ _ _ _ _ _ _ _ _ _ _) (by omega)
 .exact Gw.Own.mono (cV (adt.out) (by simp) _ _ _ _ _ _ _ _ _ _ _ _) (by omega)
 .exact Wh.Own.mono (cV (adp.out) (by simp) _ _ _ _ _ _ _ _ _ _ _ _) (by omega)
 .exact mM gX.out (by simp) _ _ _ _ _ _ _ _ _ _ _ _
structure Sh(S:Nat->Prop)(w w':World):Prop where
 os:w'.os=w.os
 tape:w'.tape=w.tape
 output:w'.output=w.output
 size:w.heap.size<=w'.heap.size
 block:∀k,k<w.heap.size->¬ S k->w'.heap[k]?=w.heap[k]?
theorem Sh.refl(S:Nat->Prop)(w:World):Sh S w w:=⟨rfl,rfl,rfl,Ic _,λ_ _ _=>rfl⟩
theorem Sh.trans{S:Nat->Prop}{a b c:World}(h:Sh S a b)(k:Sh S b c):Sh S a c:=⟨k.os.trans h.os,k.tape.trans h.tape,k.output.trans h.output,Nat.le_trans h.size k.size,λi hi hn=>(k.block i (Nat.lt_of_lt_of_le hi h.size) hn).trans (h.block i hi hn)⟩
theorem Sh.of{S:Nat->Prop}{w w':World}(h:Below w.heap.size w w'):Sh S w w':=⟨h.os,h.tape,h.output,h.size,λk hk _=>h.block k hk⟩
theorem Sh.next{S:Nat->Prop}{a w w':World}(h:Sh S a w)(k:Below w.heap.size w w'):Sh S a w':=h.trans (.of k)
theorem Sh.alloc{S:Nat->Prop}{a w:World}(h:Sh S a w)(o:Obj):Sh S a (w.alloc o):=h.next ((Ib _ _).alloc (Ic _) _)
theorem Sh.setCell{S:Nat->Prop}{a w:World}(h:Sh S a w){b i:Nat}(hb:S b)(x:Value):Sh S a (w.setCell ⟨b,i,be⟩ x):=
 h.trans ⟨rfl,rfl,rfl,by simp[World.setCell],λk _ hn=>IX w _ x k (λe=>hn (by simp only at e;rw[e];exact hb))⟩
theorem Sh.below{S:Nat->Prop}{w w':World}{B:Nat}(h:Sh S w w')(hB:B<=w.heap.size)(hS:∀k,S k->B<=k):Below B w w':=⟨h.os,h.tape,h.output,h.size,λk hk=>h.block k (by omega) (λe=>by have:=hS k e;omega)⟩
theorem Sh.mono{S T:Nat->Prop}{w w':World}(h:Sh S w w')(hS:∀k,S k->T k):Sh T w w':=⟨h.os,h.tape,h.output,h.size,λk hk hn=>h.block k hk (λe=>hn (hS k e))⟩
theorem an{w:World}{b:Nat}{cs:Array Value}{T:I4}(h:w.heap[b]?=AI (By cs T (0,0)))(o:Nat):w.frozen? ⟨b,o,be⟩=false:=by simp[Is,h]
def Wk(L:Nat)(w:World)(b:Nat)(n:Nd):Prop:=∃vm vr vs vg vw,w.heap[b]?=AI (By (dw n vm vr vs vg vw) 90 (0,0))/\cJ L w n vm vr vs vg vw /\
 (vm.ownBlock≠AI b/\vr.ownBlock≠AI b/\vs.ownBlock≠AI b/\vg.ownBlock≠AI b/\vw.ownBlock≠AI b)/\iq n
theorem Wk.below{L b:Nat}{w w':World}{n:Nd}(h:Wk L w b n)(hb:Below w.heap.size w w'):Wk L w' b n:=by
 obtain⟨vm,vr,vs,vg,vw,h1,h2,h3,h4⟩:=h;exact⟨vm,vr,vs,vg,vw,(hb.block _ (BY.1 h1).1).trans h1,h2.below hb,h3,h4⟩
theorem Wk.lt{L b:Nat}{w:World}{n:Nd}(h:Wk L w b n):b<w.heap.size:=by
 obtain⟨vm,vr,vs,vg,vw,h1,_⟩:=h;exact(BY.1 h1).1
theorem Wk.H5{L b:Nat}{W w1:World}{n:Nd}(h:Wk L W b n)(hL:L<=W.heap.size)(hb:Below W.heap.size W w1){v:Value}{l:List Mem}(ho:Own W.heap.size w1 v l)(hl:(∀m∈l,m.name.size<=Io)):Wk L (w1.setCell ⟨b,2,be⟩ v) b { n with ms:=l }:=by
 obtain⟨vm,vr,vs,vg,vw,h1,h2,h3,h4⟩:=h;have aN:=(BY.1 h1).1;refine⟨v,vr,vs,vg,vw,?_,⟨Iu (ho.mono hL) (λe=>by have:=ho.lt b e;omega) _,Iu (h2.rs.below hb) h3.2.1 _,Iu (h2.sv.below hb) h3.2.2.1 _,Iu (h2.gw.below hb) h3.2.2.2.1 _,Iu (h2.wh.below hb) h3.2.2.2.2 _⟩,⟨λe=>by have:=ho.lt b e;omega,h3.2.1,h3.2.2.1,h3.2.2.2.1,h3.2.2.2.2⟩,⟨hl,h4.rs,h4.sv,h4.gw,h4.wh,h4.name,h4.aC⟩⟩;exact IC (i:=2) ((hb.block _ aN).trans h1) v
theorem Wk.H6{L b:Nat}{W w1:World}{n:Nd}(h:Wk L W b n)(hL:L<=W.heap.size)(hb:Below W.heap.size W w1){v:Value}{l:List bK}(ho:cE W.heap.size w1 v l)(hl:(∀r∈l,r.m.name.size<=Io)):Wk L (w1.setCell ⟨b,3,be⟩ v) b { n with rs:=l }:=by
 obtain⟨vm,vr,vs,vg,vw,h1,h2,h3,h4⟩:=h;have aN:=(BY.1 h1).1;refine⟨vm,v,vs,vg,vw,?_,⟨Iu (h2.ms.below hb) h3.1 _,Iu (ho.base hL) (λe=>by have:=ho.lt b e;omega) _,Iu (h2.sv.below hb) h3.2.2.1 _,Iu (h2.gw.below hb) h3.2.2.2.1 _,Iu (h2.wh.below hb) h3.2.2.2.2 _⟩,⟨h3.1,λe=>by have:=ho.lt b e;omega,h3.2.2.1,h3.2.2.2.1,h3.2.2.2.2⟩,⟨h4.ms,hl,h4.sv,h4.gw,h4.wh,h4.name,h4.aC⟩⟩;exact IC (i:=3) ((hb.block _ aN).trans h1) v
theorem Wk.Bm{L b:Nat}{W w1:World}{n:Nd}(h:Wk L W b n)(hL:L<=W.heap.size)(hb:Below W.heap.size W w1){v:Value}{l:List Sv.aW}(ho:Sv.Own W.heap.size w1 v l)(hl:(∀m∈l,m.ok)):Wk L (w1.setCell ⟨b,4,be⟩ v) b { n with sv:=l }:=by
 obtain⟨vm,vr,vs,vg,vw,h1,h2,h3,h4⟩:=h;have aN:=(BY.1 h1).1;refine⟨vm,vr,v,vg,vw,?_,⟨Iu (h2.ms.below hb) h3.1 _,Iu (h2.rs.below hb) h3.2.1 _,Iu (ho.mono hL) (λe=>by have:=ho.lt b e;omega) _,Iu (h2.gw.below hb) h3.2.2.2.1 _,Iu (h2.wh.below hb) h3.2.2.2.2 _⟩,⟨h3.1,h3.2.1,λe=>by have:=ho.lt b e;omega,h3.2.2.2.1,h3.2.2.2.2⟩,⟨h4.ms,h4.rs,hl,h4.gw,h4.wh,h4.name,h4.aC⟩⟩;exact IC (i:=4) ((hb.block _ aN).trans h1) v
theorem Wk.H7{L b:Nat}{W w1:World}{n:Nd}(h:Wk L W b n)(hL:L<=W.heap.size)(hb:Below W.heap.size W w1){v:Value}{l:List Gw.bC}(ho:Gw.Own W.heap.size w1 v l)(hl:(∀m∈l,m.ok)):Wk L (w1.setCell ⟨b,5,be⟩ v) b { n with gw:=l }:=by
 obtain⟨vm,vr,vs,vg,vw,h1,h2,h3,h4⟩:=h;have aN:=(BY.1 h1).1;refine⟨vm,vr,vs,v,vw,?_,⟨Iu (h2.ms.below hb) h3.1 _,Iu (h2.rs.below hb) h3.2.1 _,Iu (h2.sv.below hb) h3.2.2.1 _,Iu (ho.mono hL) (λe=>by have:=ho.lt b e;omega) _,Iu (h2.wh.below hb) h3.2.2.2.2 _⟩,⟨h3.1,h3.2.1,h3.2.2.1,λe=>by have:=ho.lt b e;omega,h3.2.2.2.2⟩,⟨h4.ms,h4.rs,h4.sv,hl,h4.wh,h4.name,h4.aC⟩⟩;exact IC (i:=5) ((hb.block _ aN).trans h1) v
theorem Wk.Si{L b:Nat}{W w1:World}{n:Nd}(h:Wk L W b n)(hL:L<=W.heap.size)(hb:Below W.heap.size W w1){v:Value}{l:List Wh.bJ}(ho:Wh.Own W.heap.size w1 v l)(hl:(∀m∈l,m.ok)):Wk L (w1.setCell ⟨b,11,be⟩ v) b { n with wh:=l }:=by
 obtain⟨vm,vr,vs,vg,vw,h1,h2,h3,h4⟩:=h;have aN:=(BY.1 h1).1;refine⟨vm,vr,vs,vg,v,?_,⟨Iu (h2.ms.below hb) h3.1 _,Iu (h2.rs.below hb) h3.2.1 _,Iu (h2.sv.below hb) h3.2.2.1 _,Iu (h2.gw.below hb) h3.2.2.2.1 _,Iu (ho.mono hL) (λe=>by have:=ho.lt b e;omega) _⟩,⟨h3.1,h3.2.1,h3.2.2.1,h3.2.2.2.1,λe=>by have:=ho.lt b e;omega⟩,⟨h4.ms,h4.rs,h4.sv,h4.gw,hl,h4.name,h4.aC⟩⟩;exact IC (i:=11) ((hb.block _ aN).trans h1) v
theorem Wk.VS{L b:Nat}{W:World}{n:Nd}(h:Wk L W b n)(q:Pl):Wk L (((((W.setCell ⟨b,6,be⟩ (U O q.x)).setCell ⟨b,7,be⟩ (U O q.y)).setCell ⟨b,8,be⟩ (U O q.z)).setCell ⟨b,9,be⟩ (U O q.h)).setCell ⟨b,10,be⟩ (U O q.s)) b { n with p:=q }:=by
 obtain⟨vm,vr,vs,vg,vw,h1,h2,h3,h4⟩:=h;have e:∀{base k m:Nat} {T:I4} {v:Value} {xs:List Value},W.ownsRow base T k v m xs->v.ownBlock≠AI b->(((((W.setCell ⟨b,6,be⟩ (U O q.x)).setCell ⟨b,7,be⟩ (U O q.y)).setCell ⟨b,8,be⟩ (U O q.z)).setCell ⟨b,9,be⟩ (U O q.h)).setCell ⟨b,10,be⟩ (U O q.s)).ownsRow base T k v m xs:=λh hn=>Iu (Iu (Iu (Iu (Iu h hn _) hn _) hn _) hn _) hn _;refine⟨vm,vr,vs,vg,vw,?_,⟨e h2.ms h3.1,e h2.rs h3.2.1,e h2.sv h3.2.2.1,e h2.gw h3.2.2.2.1,e h2.wh h3.2.2.2.2⟩,h3,⟨h4.ms,h4.rs,h4.sv,h4.gw,h4.wh,h4.name,h4.aC⟩⟩;exact IC (i:=10) (IC (i:=9) (IC (i:=8) (IC (i:=7) (IC (i:=6) h1 _) _) _) _) _
end Go.Proofs.YtfidhgjmifendaaGreatDoor
namespace Go.Proofs.YtfidhgjmifendaaGreatDoor
namespace Wh
open Go.RowKit
theorem lM{a b:List bJ}(gH:a.length<=20)(gE:b.length<=20)(k:Nat):(dE a b k).length<=40:=by
 unfold dE;split
 .simp
 .split
  .omega
  .have:=df b a;omega
structure Bn(w:World)(pb:Nat)(a b:List bJ)(k:Nat)(l:List bJ)(pk:Option Addr)(ck:Nat):Prop where
 cell:w.cell? ⟨pb,k,be⟩=AI (J pk l.length ck)
 row:l=[]\/∃b off,pk=AI ⟨b,off,be⟩/\b<w.heap.size/\Row w b off l
 H8:∀m∈l,(m).ok
 len:l.length<=20
 Bo:(dE a b k).length<=20
 tm:bl (dE a b k)
 Bp:∀m∈dE a b k,(m).ok
 step:dE a b (k+1)=av (dE a b k) l
theorem oq{a b:List bJ}{va vb:Value}{pb:Nat}{w:World}(ha:Sl w va a)(hb:Sl w vb b)(hc0:w.cell? ⟨pb,0,be⟩=AI va)(hc1:w.cell? ⟨pb,1,be⟩=AI vb)(gH:a.length<=20)(gE:b.length<=20)(ra:bl a)(k:Nat)(hk:k<2) :
 ∃l pk ck,Bn w pb a b k l pk ck:=by
 obtain⟨pa,ca,rfl,Ka,ha⟩:=ha;obtain⟨pv,cb,rfl,Sj,hb⟩:=hb;have gi:k=0\/k=1:=by omega
 rcases gi with rfl|rfl
 .exact⟨a,pa,ca,hc0,ha,dt Ka,gH,by simp[dE],by simp[dE],by simp[dE],(iu a ra).symm⟩
 .exact⟨b,pv,cb,hc1,hb,dt Sj,gE,gH,ra,dt Ka,rfl⟩
theorem iv(a b:List bJ)(va vb:Value)(pb cap:Nat)(w:World)(ha:Sl w va a)(hb:Sl w vb b)(hpb:pb<w.heap.size)(hc0:w.cell? ⟨pb,0,be⟩=AI va)(hc1:w.cell? ⟨pb,1,be⟩=AI vb)(gH:a.length<=20)(gE:b.length<=20)(ra:bl a) :
 Calls AS 238 #[IP (.func 112) #[] #[],IP (.func 237) #[] #[],J (AI ⟨pb,0,be⟩) 2 cap] w λe w'=>∃v',e=AT v'/\Own w.heap.size w' v' (av a b)/\Below w.heap.size w w':=by
 have HK:Hid (∀k,k<2->∃l pk ck,Bn w pb a b k l pk ck):=λk hk=>oq ha hb hc0 hc1 gH gE ra k hk;have uG:Hid (∀k,(dE a b k).length<=40):=lM gH gE;clear ha hb hc0 hc1 gH gE ra;go_enter Tryz.func238,Tryz.ntmps238;go_wp2_with fail;go_loopw [7,16] (λkn i w'=>∃k:Nat,k<=2/\i=U O k/\Below w.heap.size w w'/\Hid (Own w.heap.size w' kn (dE a b k))) (λ_ i _=>2-(intOf i).toNat)
 case atStart=>exact⟨0,by omega,rfl,Ib _ _,bX _ _⟩
 case round=>
  obtain⟨k,hk,rfl,aN,HO⟩:=hrel;obtain⟨eG,nt⟩:=cj aN;have cC:=aN.size;by_cases jd:k<2
  .obtain⟨l,pk,ck,ot⟩:=HK.out k jd
   have ou:Hid (Bn w pb a b k l pk ck):=ot;have fS:=ot.cell;clear ot;generalize qW:l.length=nl at *;have jZ:Hid (l.length=nl):=qW;clear qW;have Kb:nl<=20:=by have:=ou.out.len;have:=jZ.out;omega
   have Sk:(k:Int)<2:=by omega
   go_wp2_with fail;go_loopw [7,22] (λkn j w'=>∃q:Nat,q<=nl/\j=U O q/\Below w.heap.size w w'/\Hid (Own w.heap.size w' kn (av (dE a b k) (l.take q)))) (λ_ j _=>nl-(intOf j).toNat)
   case atStart=>exact⟨0,Nat.zero_le _,rfl,aN,HO⟩
   case round=>
    clear eG nt cC aN HO fS;obtain⟨q,hq,rfl,aN,HO⟩:=hrel;obtain⟨eG,nt⟩:=cj aN;have cC:=aN.size;by_cases aR:q<nl
    .obtain⟨b2,off,Bq,PC,cO⟩:∃wY off,pk=AI ⟨wY,off,be⟩/\wY<w.heap.size/\Row w wY off l:=by
      rcases ou.out.row with h|h
      .have:=jZ.out;rw[h] at this;simp at this;omega
      .exact h
     subst Bq;obtain⟨c0,c1,c2,c3,c4,c5⟩:=cO q (by rw[jZ.out];exact aR);clear cO;have HJ:Hid (av (dE a b k) (l.take (q+1))=aQ (av (dE a b k) (l.take q)) (l.getD q dm)):=gj (dE a b k) l q (by rw[jZ.out];exact aR);have HR:Hid (bl (av (dE a b k) (l.take q))):=dD _ _ ou.out.tm;have ML:Hid (∀j,((av (dE a b k) (l.take q)).getD j dm).ok):=cy (iJ _ _ ou.out.Bp (λx hx=>ou.out.H8 x (List.mem_of_mem_take hx)));have HL:Hid ((av (dE a b k) (l.take q)).length<=40):=by
      have h1:=df (l.take q) (dE a b k);have h2:(l.take q).length<=q:=List.length_take_le _ _;have h3:=ou.out.Bo;show(av (dE a b k) (l.take q)).length<=40;omega
     generalize l.getD q dm=m at *;generalize av (dE a b k) (l.take q)=known at *;have D9:known.length<=40:=HL.out;obtain⟨W1,cQ,aB,fh,cI⟩:=bV wr #[Y m.node,U O m.x,U O m.y,U O m.z,U O m.h,U O m.s] 116;have lz:Hid (Own w.heap.size W1 u7 known):=HO.out.below aB;have HF:Hid (Calls AS 111 #[u7,Ik #[Y m.node,U O m.x,U O m.y,U O m.z,U O m.h,U O m.s],IP (.func 112) #[] #[]] W1 λe w'=>∃(p:Nat) (f:Bool),e=AT (.tuple #[U O p,Ia f])/\Below W1.heap.size W1 w'/\At known m p f):=
      fm known u7 m W1 (lz.out.sl ML.out) HL.out HR.out
     have aY:Hid (Below w.heap.size w W1):=aN.trans (aB.mono cC);have HT:Hid (As W1 wr.heap.size 0 m):=⟨ae cI 0,ae cI 1,ae cI 2,ae cI 3,ae cI 4,ae cI 5⟩;have nV:Hid _:=cQ;have uP:w.heap.size<=W1.heap.size:=by omega
     clear cI aB HO HL HR cQ;go_wp2_with fail;rw[<- nV.out];refine HF.out.mono ?_;rintro e w2 ⟨p,f,rfl,aI,cH⟩;have fb:Hid _:=cH;have Sm:=cH.le;have Sn:=aI.size;have gZ:Hid (Own _ _ _ _):=lz.out.below aI;have bp:Hid _:=aY.out.trans (aI.mono uP);have wM:Hid (As w2 wr.heap.size 0 m):=HT.out.eq (λo=>aI.cell (p:=⟨wr.heap.size,o,be⟩) (by show wr.heap.size<W1.heap.size;omega));obtain⟨t0,t1,t2,t3,t4,t5⟩:w2.cell? ⟨wr.heap.size,0,be⟩=AI (Y m.node)/\w2.cell? ⟨wr.heap.size,1,be⟩=AI (U O m.x)/\w2.cell? ⟨wr.heap.size,2,be⟩=AI (U O m.y)/\w2.cell? ⟨wr.heap.size,3,be⟩=AI (U O m.z)/\w2.cell? ⟨wr.heap.size,4,be⟩=AI (U O m.h)/\w2.cell? ⟨wr.heap.size,5,be⟩=AI (U O m.s):=wM.out;have iU:w.heap.size<=w2.heap.size:=by omega
     have Br:wr.heap.size<w2.heap.size:=by omega
     clear cH HF eG nt c0 c1 c2 c3 c4 c5 aI lz aY HT;cases f
     .have aT:Hid (u7.ownBlock≠AI w2.heap.size):=λe=>by have:=gZ.out.lt _ e;omega
      have dY:Hid (Own w.heap.size (w2.alloc (By #[Y m.node,U O m.x,U O m.y,U O m.z,U O m.h,U O m.s] 116)) u7 known):=gZ.out.below ((Ib _ _).alloc (Ic _) _);have o5:Hid ((w2.alloc (By #[Y m.node,U O m.x,U O m.y,U O m.z,U O m.h,U O m.s] 116)).heap[w2.heap.size]?=AI (By m.cs.toArray 116 (0,0))):=Ii w2 _;go_wp2_with (go_at_call 113;refine(fk w.heap.size p w2.heap.size u7 known m _ dY.out fb.out.le (by omega) (by simp;omega) o5.out aT.out).mono ?_;rintro e w4 ⟨v',rfl,g1,g2⟩);go_roundw
      case rel=>
       have ja:∃ov:Nat,ov<=nl/\U O ((q:Int)+1)=U O ov/\Below w.heap.size w w4/\Hid (Own w.heap.size w4 v' (av (dE a b k) (l.take ov))):=⟨q+1,by omega,by go_num,fe (bp.out.alloc iU _) dY.out g2 (by simp;omega),by rw[HJ.out,da known m p false fb.out];exact g1⟩;first|exact ja|((repeat apply Exists.intro);exact⟨ja,rfl⟩)
      case measure=>simp[intOf];omega
     .have hp:p<known.length:=(fb.out.is.1 rfl).1
      obtain⟨g,c,hu⟩:=jH gZ.out p hp;subst hu;have F:=(ez gZ.out p hp).re;have di:=gZ.out.lt g rfl;have MN:g<w2.heap.size:=di.2;generalize hm:known.getD p dm=m2 at *;have Hm:Hid _:=hm;clear hm;have hN:∀d os,Calls AS 237 #[Ik #[Y m.node,U O m.x,U O m.y,U O m.z,U O m.h,U O m.s],Ik #[Y m2.node,U O m2.x,U O m2.y,U O m2.z,U O m2.h,U O m2.s]] (Ij (Iv w2 d) os) λe fD=>e=AT (Ia (bN m m2))/\∃p:Regrown,fD=Ij (Iv w2 p.d) p.os:=λd os=>Calls.regrown_of (gk m m2 _);have G:=wM.out.re;simp only[As,ID] at F G;have qT:∀o,w2.frozen? ⟨g,o,be⟩=false:=λo=>World.ownsRow.frozenAt gZ.out o;have TR:Hid _:=qT;clear qT t0 t1 t2 t3 t4 t5;generalize Kc:bN m m2=nw at *;have Kd:Hid _:=Kc;clear Kc;go_wp2_with fail;refine wp_region_quiet_below (by kernel_rfl) (by kernel_rfl) ?_;repeat(quiet_step (exact hN _ _))
      refine bE λdq gT dR=>?_;clear hN F G;cases nw
      .go_wp2_with fail
       go_roundw
       case rel=>
        have ja:∃ov:Nat,ov<=nl/\U O ((q:Int)+1)=U O ov/\Below w.heap.size w (Ij (Iv w2 dq) gT)/\Hid (Own w.heap.size (Ij (Iv w2 dq) gT) (J (AI ⟨g,0,be⟩) known.length c) (av (dE a b k) (l.take ov))):=⟨q+1,by omega,by go_num,bp.out.trans (dR.out.mono iU),by rw[HJ.out,da known m p true fb.out,if_pos rfl,Hm.out,if_neg (λh=>Bool.false_ne_true (Kd.out.symm.trans h))];exact gZ.out.below dR.out⟩;first|exact ja|((repeat apply Exists.intro);exact⟨ja,rfl⟩)
       case measure=>simp[intOf];omega
      .generalize Ij (Iv w2 dq) gT=w3 at *
       have dY:Hid (Own _ _ _ _):=gZ.out.below dR.out;obtain⟨c0,c1,c2,c3,c4,c5⟩:=ez dY.out p hp;rw[Hm.out] at c0 c1 c2 c3 c4 c5;have lh:=(dY.out.lt g rfl).2;have qT:∀o,w3.frozen? ⟨g,o,be⟩=false:=λo=>World.ownsRow.frozenAt dY.out o;obtain⟨s0,s1,s2,s3,s4,s5⟩:w3.cell? ⟨wr.heap.size,0,be⟩=AI (Y m.node)/\w3.cell? ⟨wr.heap.size,1,be⟩=AI (U O m.x)/\w3.cell? ⟨wr.heap.size,2,be⟩=AI (U O m.y)/\w3.cell? ⟨wr.heap.size,3,be⟩=AI (U O m.z)/\w3.cell? ⟨wr.heap.size,4,be⟩=AI (U O m.h)/\w3.cell? ⟨wr.heap.size,5,be⟩=AI (U O m.s):=wM.out.eq (λo=>dR.out.cell (p:=⟨wr.heap.size,o,be⟩) Br);go_wp2_with fail;refine⟨⟨q+1,by omega,by go_num,?_,?_⟩,by simp[intOf];omega⟩
       .exact(((((((bp.out.trans (dR.out.mono iU)).setCell (p:=⟨g,p*6,be⟩) di.1 (Y m.node)).setCell (p:=⟨g,p*6+1,be⟩) di.1 (U O m.x)).setCell (p:=⟨g,p*6+2,be⟩) di.1 (U O m.y)).setCell (p:=⟨g,p*6+3,be⟩) di.1 (U O m.z)).setCell (p:=⟨g,p*6+4,be⟩) di.1 (U O m.h)).setCell (p:=⟨g,p*6+5,be⟩) di.1 (U O m.s))
       .rw[HJ.out,da known m p true fb.out,if_pos rfl,Hm.out,if_pos Kd.out]
        exact lq dY.out hp m
    .have Ea:q=nl:=by omega
     subst Ea;have dY:Hid (Own w.heap.size wr u7 (dE a b (k+1))):=by
      have h:=HO.out;rw[List.take_of_length_le (by rw[jZ.out];exact Ic _)] at h;rw[ou.out.step];exact h
     go_wp2_with fail;go_roundw
     case rel=>exact⟨k+1,by omega,by go_num,aN,dY⟩
     case measure=>simp[intOf];omega
  .have jw:k=2:=by omega
   subst jw;go_wp2_with fail;go_ret;exact⟨_,rfl,HO.out,aN⟩
end Wh
end Go.Proofs.YtfidhgjmifendaaGreatDoor
namespace Go.Proofs.YtfidhgjmifendaaGreatDoor
open Go.RowKit
def uQ(wh:List Wh.bJ)(x:Wh.bJ):List Wh.bJ:=if(wh.any λy=>decide (y.node=x.node))=true\/20<=wh.length then wh else Wh.aQ wh x
def Bs(wh l:List Wh.bJ):List Wh.bJ:=l.foldl uQ wh
theorem Ke(wh l:List Wh.bJ)(k:Nat)(hk:k<l.length):Bs wh (l.take (k+1))=uQ (Bs wh (l.take k)) (l.getD k Wh.dm):=by
 unfold Bs;rw[List.take_succ_eq_append_getElem hk,List.foldl_append];simp[Iq,Ie hk]
structure Wh.ow(wh:List Wh.bJ):Prop where
 Eb:Wh.bl wh
 len:wh.length<=20
 ok:∀m∈wh,m.ok
theorem Ec{wh:List Wh.bJ}{x:Wh.bJ}(h:Wh.ow wh)(hx:x.ok):Wh.ow (uQ wh x):=by
 unfold uQ;split
 .exact h
 .rename_i hn
  have h2:=(Wh.kP wh x).2;exact⟨Wh.iw wh x h.Eb,by omega,Wh.pt h.ok hx⟩
theorem yY{wh l:List Wh.bJ}(h:Wh.ow wh)(hl:∀m∈l,m.ok):Wh.ow (Bs wh l):=by
 unfold Bs;induction l generalizing wh with
 |nil=>exact h
 |cons x r ih=>exact ih (Ec h (hl x (by simp))) (λm hm=>hl m (by simp[hm]))
theorem Sq{wh:List Wh.bJ}{x:Wh.bJ}{p:Nat}{f:Bool}(hr:Wh.bl wh)(h:Wh.At wh x p f):(wh.any λy=>decide (y.node=x.node))=f:=by
 have ho:∀y:Wh.bJ,Wh.ord y x=0↔y.node=x.node:=λy=>bR _ _;cases f
 .rcases hh:(wh.any λy=>decide (y.node=x.node)) with _|_
  .rfl
  .obtain⟨y,hy,he⟩:=Qg.1 hh
   obtain⟨j,hj,rfl⟩:=List.getElem_of_mem hy;have he:wh[j].node=x.node:=by simpa using he
   have e:wh.getD j Wh.dm=wh[j]:=by simp[Iq,Ie hj]
   have h2:Wh.At wh x j true:=by
    refine⟨by omega,λi hi=>?_,λi hi hl=>?_,⟨λ_=>⟨hj,by rw[e];exact(ho _).2 he⟩,λ_=>rfl⟩⟩
    .have hp:=I5.1 hr i j (by omega) hj hi
     rw[show wh.getD i Wh.dm=wh[i]'(by omega) by simp[Iq,Ie (show i<wh.length by omega)]];show bO _ _<0;rw[<- he];exact hp
    .rw[show wh.getD i Wh.dm=wh[i]'hl by simp[Iq,Ie hl]]
     rcases Nat.lt_or_eq_of_le hi with h3|rfl
     .have hp:=I5.1 hr j i hj hl h3
      have vC:bO wh[j].node wh[i].node<0:=hp;have h4:0<bO wh[i].node wh[j].node:=by rw[mW];rw[fC] at vC;exact vC
      show 0<=bO wh[i].node x.node;rw[<- he];omega
     .show 0<=bO wh[j].node x.node
      rw[(bR _ _).2 he];omega
   have:=(Wh.ed h h2).2;cases this
 .obtain⟨h1,h2⟩:=h.is.1 rfl
  rw[Qg];refine⟨wh[p],List.getElem_mem h1,?_⟩;rw[show wh.getD p Wh.dm=wh[p] by simp[Iq,Ie h1]] at h2;simpa using(ho _).1 h2
theorem wZ{B B' k k' n n':Nat}{T T':I4}{w:World}{v v':Value}{xs xs':List Value}(h:w.ownsRow B T k v n xs)(h':w.ownsRow B' T' k' v' n' xs')(hT:T≠T'):v.ownBlock=be\/v.ownBlock≠v'.ownBlock:=by
 rcases h.2 with⟨rfl,_⟩|⟨g,c,cur,rfl,_,hg,_⟩
 .exact .inl rfl
 .refine .inr λe=>?_
  rcases h'.2 with⟨rfl,_⟩|⟨g',c',dP,rfl,_,uH,_⟩
  .cases e
  .have:g=g':=by simpa[Jx] using e
   subst this;rw[hg] at uH;injection uH with e1;injection e1 with _ e2;exact hT e2
theorem eL{B k n b:Nat}{T T':I4}{w:World}{v:Value}{xs:List Value}{cs:Array Value}(h:w.ownsRow B T k v n xs)(hb:w.heap[b]?=AI (By cs T' (0,0)))(hT:T≠T'):v.ownBlock≠AI b:=by
 rcases h.2 with⟨rfl,_⟩|⟨g,c,cur,rfl,_,hg,_⟩
 .intro e;cases e
 .intro e
  have:g=b:=by simpa[Jx] using e
  subst this;rw[hg] at hb;injection hb with e1;injection e1 with _ e2;exact hT e2
theorem Wk.ins{L b:Nat}{W w1:World}{n:Nd}{vm vr vs vg vw v:Value}{l:List Wh.bJ}(h1:W.heap[b]?=AI (By (dw n vm vr vs vg vw) 90 (0,0)))(h2:cJ L W n vm vr vs vg vw)(h3:vm.ownBlock≠AI b/\vr.ownBlock≠AI b/\vs.ownBlock≠AI b/\vg.ownBlock≠AI b/\vw.ownBlock≠AI b)(h4:iq n)(hg:W.grownBy w1 vw.ownBlock)(ho:Wh.Own L w1 v l)(hl:∀m∈l,m.ok):Wk L (w1.setCell ⟨b,11,be⟩ v) b { n with wh:=l }:=by
 have aN:=(BY.1 h1).1;have aB:=(hg.block b aN (λe=>h3.2.2.2.2 e.symm)).trans h1;have hv:=eL ho aB (by decide);refine⟨vm,vr,vs,vg,v,IC (i:=11) aB v,⟨?_,?_,?_,?_,Iu ho hv _⟩,⟨h3.1,h3.2.1,h3.2.2.1,h3.2.2.2.1,hv⟩,⟨h4.ms,h4.rs,h4.sv,h4.gw,hl,h4.name,h4.aC⟩⟩
 .exact Iu (h2.ms.kept hg (wZ h2.ms h2.wh (by decide))) h3.1 _
 .exact Iu (h2.rs.kept hg (wZ h2.rs h2.wh (by decide))) h3.2.1 _
 .exact Iu (h2.sv.kept hg (wZ h2.sv h2.wh (by decide))) h3.2.2.1 _
 .exact Iu (h2.gw.kept hg (wZ h2.gw h2.wh (by decide))) h3.2.2.2.1 _
theorem Sr(g nb o n cap j:Nat)(x0 x1:ByteArray)(a2 a3 a4 a5 a11:Option Addr)(n2 k2 n3 k3 n4 k4 n5 k5 n11 k11:Nat)(x6 x7 x8 x9 x10:Int)(w:World)(g0:w.cell? ⟨g,0,be⟩=AI (J (AI ⟨nb,o,be⟩) n cap))(g3:w.cell? ⟨g,3,be⟩=AI (U O (j:Int)))(hj:j<n)(c0:w.cell? ⟨nb,o+j*12,be⟩=AI (Y x0))(c1:w.cell? ⟨nb,o+j*12+1,be⟩=AI (Y x1))(c2:w.cell? ⟨nb,o+j*12+2,be⟩=AI (J a2 n2 k2))(c3:w.cell? ⟨nb,o+j*12+3,be⟩=AI (J a3 n3 k3))(c4:w.cell? ⟨nb,o+j*12+4,be⟩=AI (J a4 n4 k4))(c5:w.cell? ⟨nb,o+j*12+5,be⟩=AI (J a5 n5 k5))(c6:w.cell? ⟨nb,o+j*12+6,be⟩=AI (U O x6))(c7:w.cell? ⟨nb,o+j*12+7,be⟩=AI (U O x7))(c8:w.cell? ⟨nb,o+j*12+8,be⟩=AI (U O x8))(c9:w.cell? ⟨nb,o+j*12+9,be⟩=AI (U O x9))(c10:w.cell? ⟨nb,o+j*12+10,be⟩=AI (U O x10))(c11:w.cell? ⟨nb,o+j*12+11,be⟩=AI (J a11 n11 k11)) :
 Calls AS 85 #[If (AI ⟨g,0,be⟩)] w λe w'=>e=AT (Ik #[Y x0,Y x1,J a2 n2 k2,J a3 n3 k3,J a4 n4 k4,J a5 n5 k5,U O x6,U O x7,U O x8,U O x9,U O x10,J a11 n11 k11])/\Below w.heap.size w w':=by
 have di:g<w.heap.size:=Iy w _ g0;have aN:nb<w.heap.size:=Iy w _ c0;obtain⟨W0,bA,bM,-,dF⟩:=bV w #[Y ⟨#[]⟩,Y ⟨#[]⟩,J be 0 0,J be 0 0,J be 0 0,J be 0 0,U O 0,U O 0,U O 0,U O 0,U O 0,J be 0 0] 42;have Ss:w.heap.size≠g:=by omega
 have Su:w.heap.size≠nb:=by omega
 have aR:(j:Int)<(n:Int):=by omega
 have yC:(0:Int)<=(j:Int):=by omega
 have DW:((j:Int)).toNat=j:=by omega
 have e0:=(bM.cell (p:=⟨g,0,be⟩) di).trans g0;have e3:=(bM.cell (p:=⟨g,3,be⟩) di).trans g3;have d0:=(bM.cell (p:=⟨nb,o+j*12,be⟩) aN).trans c0;have d1:=(bM.cell (p:=⟨nb,o+j*12+1,be⟩) aN).trans c1;have d2:=(bM.cell (p:=⟨nb,o+j*12+2,be⟩) aN).trans c2;have d3:=(bM.cell (p:=⟨nb,o+j*12+3,be⟩) aN).trans c3;have d4:=(bM.cell (p:=⟨nb,o+j*12+4,be⟩) aN).trans c4;have d5:=(bM.cell (p:=⟨nb,o+j*12+5,be⟩) aN).trans c5;have d6:=(bM.cell (p:=⟨nb,o+j*12+6,be⟩) aN).trans c6;have d7:=(bM.cell (p:=⟨nb,o+j*12+7,be⟩) aN).trans c7;have d8:=(bM.cell (p:=⟨nb,o+j*12+8,be⟩) aN).trans c8;have d9:=(bM.cell (p:=⟨nb,o+j*12+9,be⟩) aN).trans c9;have d10:=(bM.cell (p:=⟨nb,o+j*12+10,be⟩) aN).trans c10;have d11:=(bM.cell (p:=⟨nb,o+j*12+11,be⟩) aN).trans c11;obtain⟨q0,q1,q2,q3,q4,q5,q6,q7,q8,q9,q10,q11⟩:=bu dF;obtain⟨vI,vJ,xa,xb,xc,xd,CV,CW,CX,CY,pA,pB⟩:=jS dF;obtain⟨W1,cQ⟩:∃W1,W1=World.drew (aD w.heap.size [Y x0,Y x1,J a2 n2 k2,J a3 n3 k3,J a4 n4 k4,J a5 n5 k5,U O x6,U O x7,U O x8,U O x9,U O x10,J a11 n11 k11] 0 W0):=⟨_,rfl⟩;have aB:Below w.heap.size w W1:=by rw[cQ];exact cA (aP (Ic _) _ _ bM)
 have cI:W1.heap[w.heap.size]?=AI (By #[Y x0,Y x1,J a2 n2 k2,J a3 n3 k3,J a4 n4 k4,J a5 n5 k5,U O x6,U O x7,U O x8,U O x9,U O x10,J a11 n11 k11] 42 (0,0)):=by rw[cQ,dA];exact kK dF _ _ _ _ _ _ _ _ _ _ _ _
 obtain⟨r0,r1,r2,r3,r4,r5,r6,r7,r8,r9,r10,r11⟩:=bu cI;have aY:Hid _:=aB;clear bM dF aB cI di aN g0 g3 c0 c1 c2 c3 c4 c5 c6 c7 c8 c9 c10 c11;go_enter Tryz.func85,Tryz.ntmps85;go_upto_region 1 with fail
 rw[<- bA];clear bA;go_region_held3 (λw'=>w'.cell? ⟨g,0,be⟩=AI (J (AI ⟨nb,o,be⟩) n cap)/\w'.cell? ⟨g,3,be⟩=AI (U O (j:Int))/\w'.cell? ⟨nb,o+j*12,be⟩=AI (Y x0)/\w'.cell? ⟨nb,o+j*12+1,be⟩=AI (Y x1)/\w'.cell? ⟨nb,o+j*12+2,be⟩=AI (J a2 n2 k2)/\w'.cell? ⟨nb,o+j*12+3,be⟩=AI (J a3 n3 k3)/\w'.cell? ⟨nb,o+j*12+4,be⟩=AI (J a4 n4 k4)/\w'.cell? ⟨nb,o+j*12+5,be⟩=AI (J a5 n5 k5)/\w'.cell? ⟨nb,o+j*12+6,be⟩=AI (U O x6)/\w'.cell? ⟨nb,o+j*12+7,be⟩=AI (U O x7)/\w'.cell? ⟨nb,o+j*12+8,be⟩=AI (U O x8)/\w'.cell? ⟨nb,o+j*12+9,be⟩=AI (U O x9)/\w'.cell? ⟨nb,o+j*12+10,be⟩=AI (U O x10)/\w'.cell? ⟨nb,o+j*12+11,be⟩=AI (J a11 n11 k11)) (simp only[World.cell?_setCell_far,World.cell?_drew,ne_eq,Ss,Su,not_false_eq_true,e0,e3,d0,d1,d2,d3,d4,d5,d6,d7,d8,d9,d10,d11,and_self]) (fail)
 go_wp2_with fail;simp only[aD,ID,Nat.reduceAdd] at cQ;rw[<- cQ];clear cQ;exact IL (v:=Ik #[Y x0,Y x1,J a2 n2 k2,J a3 n3 k3,J a4 n4 k4,J a5 n5 k5,U O x6,U O x7,U O x8,U O x9,U O x10,J a11 n11 k11]) (by simp[results,Tryz.results85,go_sem,r0,r1,r2,r3,r4,r5,r6,r7,r8,r9,r10,r11]) rfl ⟨rfl,aY.out⟩
end Go.Proofs.YtfidhgjmifendaaGreatDoor
