import Derived.Test.YtfidhgjmifendaaGreatDoornt32
import Derived.Shelf.SlSortCmp.SmallK
import Derived.Shelf.SlSortFunc.HeapSort
set_option maxHeartbeats 25600000
set_option maxRecDepth 100000
open Go.Ending renaming returned→By
open Go.Value renaming tuple→Ik,agg→Ij,string→Y,bool→Ia,slice→J,int→U,pointer→Ie
open Go.IntKind renaming i64→O
open Option renaming none→be,some→AI
open Go.Obj renaming cells→AT
open Go.RowKit.Below renaming refl→Ib
open Nat renaming le_refl→Ic,zero_le→II,zero_add→IC
open Array renaming getElem?_eq_some_iff→BY,getElem?_modify→OU
open Go.RowKit renaming ownsRow_setCell_below→Ii
open Go.Proofs.Tryz renaming prog→AS,underlying0→QQ,zeroValue0→Q7,underlying3→ID,isAgg3→OG,sizeOf3→Oj,zeroValue3→O1,underlying4→JK,isAgg4→Qh,sizeOf4→OW,zeroValue4→O2,underlying5→OM,isAgg5→Q8,sizeOf5→QL,zeroValue5→O3,underlying9→Ja,isAgg9→Qi,sizeOf9→OX,zeroValue9→O4,underlying34→JP,underlying129→ON,isAgg129→QW,sizeOf129→QG,zeroValue129→O8,underlying165→OO,isAgg165→QX,sizeOf165→QH,zeroValue165→O9,underlying167→OP,zeroValue167→QA
open List renaming length_set→IS,getD→Ip,getElem?_set_self→Of,getElem?_set_ne→JR,getElem?_eq_none→IZ,length_take→IA,range→JD,getElem?_take_of_lt→IL,getElem?_eq_getElem→If
open Go.World renaming block_lt_of_cell?→Ix,cell?_setCell_far→JQ
open Go.World.ownsRow renaming frozenAt→I7,stored→IG,lt→OL,cellAt→Oz
open Go.Value.slice renaming injEq→I1
open Option.some renaming injEq→It
open Go.Sort renaming ahead→J0
namespace Go.Proofs.YtfidhgjmifendaaGreatDoor
open Go.RowKit
def jE(n:Nd)(ne:Int)(w:World)(e:Ending)(w':World):Prop:=Below w.heap.size w w' /\
 ((ne≠0/\e=By (Ik #[Ij #[Y ⟨#[]⟩,Ia false,J be 0 0,J be 0 0,J be 0 0,J be 0 0],U O ne])) \/
 (ne=0/\∃um us ug uw,e=By (Ik #[Ij #[Y n.name,Ia true,um,us,ug,uw],U O 0])/\Own w.heap.size w' um n.ms/\Sv.Own w.heap.size w' us n.sv/\Gw.Own w.heap.size w' ug n.gw/\Wh.Own w.heap.size w' uw n.wh))
theorem vV(n:Nd)(vm vr vs vg vw:Value)(w:World)(h:eS w n vm vr vs vg vw) :
 aF 23 #[Ij (dt n vm vr vs vg vw)] w λe w'=>jE n n.e w e w':=by
 have nN:Hid (∀W,Below w.heap.size w W->aF _ _ _ _):=λW hW=>ov n vm vr vs vg vw W (h.below hW);have Ku:Hid (n.e=0->∀W,Below w.heap.size w W->aF 37 #[Ij (dt n vm vr vs vg vw)] W λe w'=>∃um ur us ug uw,e=By (Ij (dt n um ur us ug uw))/\cL W.heap.size w' n um ur us ug uw/\Below W.heap.size W w'):=λhe W hW=>by
  have hp:=Nd.parts (Nd.aU he).1;have l1:=(af hp.ms).1;have l2:=(lL hp.rs).1;have l3:=(Sv.af hp.sv).1;have l4:=(Gw.af hp.gw).1;have l5:=(Wh.af hp.wh).1;exact qE n vm vr vs vg vw W (h.below hW) (by omega) (by omega) (by omega) (by omega) (by omega)
 obtain⟨nm,ct,ms,rs,sv,gw,⟨px,py,pz,ph,pq⟩,wh⟩:=n;obtain⟨⟨em,cm,rfl,_,_⟩,⟨qL,cr,rfl,_,_⟩,⟨es,qM,rfl,_,_⟩,⟨qN,cg,rfl,_,_⟩,⟨eh,ch,rfl,_,_⟩,_,_⟩:=h;simp only[dt] at nN Ku ⊢;generalize zt:ms.length=km at *;have Hkm:Hid _:=zt;generalize AU:rs.length=kr at *;have Hkr:Hid _:=AU;generalize SD:sv.length=ks at *;have Hks:Hid _:=SD;generalize Ry:gw.length=kg at *;have Hkg:Hid _:=Ry;generalize Wo:wh.length=kh at *;have Hkh:Hid _:=Wo;clear zt AU SD Ry Wo;generalize Nd.e ⟨nm,ct,ms,rs,sv,gw,⟨px,py,pz,ph,pq⟩,wh⟩=ne at *;obtain⟨W0,bJ⟩:∃W0,W0=(w.alloc (AT #[Y nm,Y ct,J em km cm,J qL kr cr,J es ks qM,J qN kg cg,U O px,U O py,U O pz,U O ph,U O pq,J eh kh ch] 42)).alloc (AT #[Y ⟨#[]⟩,Ia false,J be 0 0,J be 0 0,J be 0 0,J be 0 0] 53):=⟨_,rfl⟩;have bM:Below w.heap.size w W0:=by rw[bJ];exact((Ib _ _).alloc (Ic _) _).alloc (by simp) _
 have dG:W0.heap[w.heap.size]?=AI (AT #[Y nm,Y ct,J em km cm,J qL kr cr,J es ks qM,J qN kg cg,U O px,U O py,U O pz,U O ph,U O pq,J eh kh ch] 42 (0,0)):=by
  rw[bJ,Below.heap_alloc _ _ _ (by simp)];exact heap_alloc_new w _
 have dh:W0.heap[w.heap.size+1]?=AI (AT #[Y ⟨#[]⟩,Ia false,J be 0 0,J be 0 0,J be 0 0,J be 0 0] 53 (0,0)):=by
  have h:=heap_alloc_new (w.alloc (AT #[Y nm,Y ct,J em km cm,J qL kr cr,J es ks qM,J qN kg cg,U O px,U O py,U O pz,U O ph,U O pq,J eh kh ch] 42)) (AT #[Y ⟨#[]⟩,Ia false,J be 0 0,J be 0 0,J be 0 0,J be 0 0] 53);rw[bJ];simpa using h
 have eE:W0.heap.size=w.heap.size+2:=by rw[bJ];simp
 have da:Hid _:=bM;have AM:Hid _:=dG;have nI:Hid _:=dh;clear bM dG dh;go_enter Tryz.func23,Tryz.ntmps23;go_wp2_with fail;rw[<- bJ];clear bJ;refine(nN.out W0 da.out).mono ?_;rintro e w1 ⟨rfl,aB⟩;have cK:=(aB.block _ (by omega)).trans AM.out;have cZ:=(aB.block _ (by omega)).trans nI.out;have aV:Hid _:=da.out.trans (aB.mono (by omega));have fg:=(BY.1 cZ).1;obtain⟨q0,q1,q2,q3,q4,q5⟩:=fm cZ;obtain⟨vK,vL,xc,xd,xe,xf⟩:=Hj cZ;obtain⟨p0,p1,p2,p3,p4,p5,p6,p7,p8,p9,p10,p11⟩:=bA cK;have Gi:Hid _:=cZ;have uS:Hid _:=cK;clear aB cK cZ;by_cases aM:ne=0;rotate_left
 .have SE:(ne !=0)=true:=by simpa using aM
  have HNZ:Hid _:=aM;clear aM;go_wp2_with fail;refine bodyPost_ret (v:=Ik #[Ij #[Y ⟨#[]⟩,Ia false,J be 0 0,J be 0 0,J be 0 0,J be 0 0],U O ne]) ?_ rfl ?_
  .simp[results,Tryz.results23,go_sem,q0,q1,q2,q3,q4,q5]
  .unfold jE
   exact⟨((((((aV.out).setCell (p:=⟨w.heap.size+1,0,be⟩) (by simp) _).setCell (p:=⟨w.heap.size+1,1,be⟩) (by simp) _).setCell (p:=⟨w.heap.size+1,2,be⟩) (by simp) _).setCell (p:=⟨w.heap.size+1,3,be⟩) (by simp) _).setCell (p:=⟨w.heap.size+1,4,be⟩) (by simp) _).setCell (p:=⟨w.heap.size+1,5,be⟩) (by simp) _,.inl ⟨HNZ.out,rfl⟩⟩
 subst aM;have Em:=Ku.out rfl w1 aV.out;clear Ku nN;go_wp2_with fail;refine Em.mono ?_;rintro e w2 ⟨um,ur,us,ug,uw,rfl,fA,aJ⟩;obtain⟨im,jm,nJ,_⟩:=aA fA.ms;obtain⟨ir,jr,uX,_⟩:=aA fA.rs;obtain⟨is_,js,tK,_⟩:=aA fA.sv;obtain⟨ig,jg,zC,_⟩:=aA fA.gw;obtain⟨ih,jh,Ez,_⟩:=aA fA.wh;simp only at nJ uX tK zC Ez;rw[Hkm.out] at nJ;rw[Hkr.out] at uX;rw[Hks.out] at tK;rw[Hkg.out] at zC;rw[Hkh.out] at Ez;subst nJ uX tK zC Ez;have gY:=aJ.size;have dQ:=(aJ.block _ (by omega)).trans uS.out;have lB:Hid _:=(aJ.block _ (by omega)).trans Gi.out;have bp:Hid _:=aV.out.trans (aJ.mono (by omega));clear p0 p1 p2 p3 p4 p5 p6 p7 p8 p9 p10 p11 q0 vK q1 vL q2 xc q3 xd q4 xe q5 xf;obtain⟨p0,p1,p2,p3,p4,p5,p6,p7,p8,p9,p10,p11⟩:=bA dQ;obtain⟨pz0,pz1,pz2,pz3,pz4,pz5,pz6,pz7,pz8,pz9,akE,akF⟩:=jT dQ;have mW:w.heap.size<w2.heap.size:=by omega
 have nF:=lB.out;obtain⟨q0,q1,q2,q3,q4,q5⟩:=fm nF;obtain⟨vK,vL,xc,xd,xe,xf⟩:=Hj nF;have rT:w.heap.size+1<w2.heap.size:=by omega
 have HOm:Hid (Own (w.heap.size+2) w2 (J im km jm) ms):=fA.ms.mono (by omega);have HOs:Hid (Sv.Own (w.heap.size+2) w2 (J is_ ks js) sv):=fA.sv.mono (by omega);have HOg:Hid (Gw.Own (w.heap.size+2) w2 (J ig kg jg) gw):=fA.gw.mono (by omega);have HOh:Hid (Wh.Own (w.heap.size+2) w2 (J ih kh jh) wh):=fA.wh.mono (by omega);clear fA aJ dQ nF Em;go_wp2_with fail;refine bodyPost_ret (v:=Ik #[Ij #[Y nm,Ia true,J im km jm,J is_ ks js,J ig kg jg,J ih kh jh],U O 0]) ?_ rfl ?_
 .simp[results,Tryz.results23,go_sem,q0,q1,q2,q3,q4,q5]
 .unfold jE
  refine⟨((((((mO bp.out (by omega) _ _ _ _ _ _ _ _ _ _ _ _).setCell (p:=⟨w.heap.size+1,0,be⟩) (by simp) _).setCell (p:=⟨w.heap.size+1,1,be⟩) (by simp) _).setCell (p:=⟨w.heap.size+1,2,be⟩) (by simp) _).setCell (p:=⟨w.heap.size+1,3,be⟩) (by simp) _).setCell (p:=⟨w.heap.size+1,4,be⟩) (by simp) _).setCell (p:=⟨w.heap.size+1,5,be⟩) (by simp) _,.inr ⟨rfl,_,_,_,_,rfl,?_,?_,?_,?_⟩⟩
  .exact Own.mono (Ii (Ii (Ii (Ii (Ii (Ii (cX (HOm.out) (by omega) _ _ _ _ _ _ _ _ _ _ _ _) (a:=⟨w.heap.size+1,0,be⟩) (by simp only;omega) _) (a:=⟨w.heap.size+1,1,be⟩) (by simp only;omega) _) (a:=⟨w.heap.size+1,2,be⟩) (by simp only;omega) _) (a:=⟨w.heap.size+1,3,be⟩) (by simp only;omega) _) (a:=⟨w.heap.size+1,4,be⟩) (by simp only;omega) _) (a:=⟨w.heap.size+1,5,be⟩) (by simp only;omega) _) (by omega)
  .exact Sv.Own.mono (Ii (Ii (Ii (Ii (Ii (Ii (cX (HOs.out) (by omega) _ _ _ _ _ _ _ _ _ _ _ _) (a:=⟨w.heap.size+1,0,be⟩) (by simp only;omega) _) (a:=⟨w.heap.size+1,1,be⟩) (by simp only;omega) _) (a:=⟨w.heap.size+1,2,be⟩) (by simp only;omega) _) (a:=⟨w.heap.size+1,3,be⟩) (by simp only;omega) _) (a:=⟨w.heap.size+1,4,be⟩) (by simp only;omega) _) (a:=⟨w.heap.size+1,5,be⟩) (by simp only;omega) _) (by omega)
  .exact Gw.Own.mono (Ii (Ii (Ii (Ii (Ii (Ii (cX (HOg.out) (by omega) _ _ _ _ _ _ _ _ _ _ _ _) (a:=⟨w.heap.size+1,0,be⟩) (by simp only;omega) _) (a:=⟨w.heap.size+1,1,be⟩) (by simp only;omega) _) (a:=⟨w.heap.size+1,2,be⟩) (by simp only;omega) _) (a:=⟨w.heap.size+1,3,be⟩) (by simp only;omega) _) (a:=⟨w.heap.size+1,4,be⟩) (by simp only;omega) _) (a:=⟨w.heap.size+1,5,be⟩) (by simp only;omega) _) (by omega)
  .exact Wh.Own.mono (Ii (Ii (Ii (Ii (Ii (Ii (cX (HOh.out) (by omega) _ _ _ _ _ _ _ _ _ _ _ _) (a:=⟨w.heap.size+1,0,be⟩) (by simp only;omega) _) (a:=⟨w.heap.size+1,1,be⟩) (by simp only;omega) _) (a:=⟨w.heap.size+1,2,be⟩) (by simp only;omega) _) (a:=⟨w.heap.size+1,3,be⟩) (by simp only;omega) _) (a:=⟨w.heap.size+1,4,be⟩) (by simp only;omega) _) (a:=⟨w.heap.size+1,5,be⟩) (by simp only;omega) _) (by omega)
end Go.Proofs.YtfidhgjmifendaaGreatDoor
namespace Go.Proofs
open Go.Shelf
def Tryz.EB:Go.Shelf.Ren:=⟨fun|6=>47|15=>71|14=>76|28=>123|29=>124|20=>132|21=>133|22=>134|23=>135|24=>136|25=>137|26=>138|27=>139|46=>194|47=>195|48=>196|49=>197|50=>198|57=>230|n=>n,fun|22=>34|24=>50|25=>99|3=>3|39=>129|0=>0|53=>165|55=>167|4=>4|46=>174|45=>173|50=>153|5=>5|9=>9|66=>225|70=>229|76=>262|77=>263|n=>n,fun|n=>n⟩
theorem Tryz.Wq:Go.Proofs.SlLaysF0.n6 AS Tryz.EB:={
 mixed:=by kernel_rfl
 f6:=⟨Tryz.f47.name,by decide,Tryz.func47.trans (congrArg AI (by kernel_rfl))⟩
 f14:=⟨Tryz.f76.name,by decide,Tryz.func76.trans (congrArg AI (by kernel_rfl))⟩
 f15:=Tryz.func71.trans (congrArg AI (by kernel_rfl))
 f20:=⟨Tryz.f132.name,by decide,Tryz.func132.trans (congrArg AI (by kernel_rfl))⟩
 f21:=⟨Tryz.f133.name,by decide,Tryz.func133.trans (congrArg AI (by kernel_rfl))⟩
 f22:=⟨Tryz.f134.name,by decide,Tryz.func134.trans (congrArg AI (by kernel_rfl))⟩
 f23:=⟨Tryz.f135.name,by decide,Tryz.func135.trans (congrArg AI (by kernel_rfl))⟩
 f24:=⟨Tryz.f136.name,by decide,Tryz.func136.trans (congrArg AI (by kernel_rfl))⟩
 f25:=⟨Tryz.f137.name,by decide,Tryz.func137.trans (congrArg AI (by kernel_rfl))⟩
 f26:=⟨Tryz.f138.name,by decide,Tryz.func138.trans (congrArg AI (by kernel_rfl))⟩
 f27:=⟨Tryz.f139.name,by decide,Tryz.func139.trans (congrArg AI (by kernel_rfl))⟩
 f28:=Tryz.func123.trans (congrArg AI (by kernel_rfl))
 f29:=Tryz.func124.trans (congrArg AI (by kernel_rfl))
 f46:=⟨Tryz.f194.name,by decide,Tryz.func194.trans (congrArg AI (by kernel_rfl))⟩
 f47:=Tryz.func195.trans (congrArg AI (by kernel_rfl))
 f48:=Tryz.func196.trans (congrArg AI (by kernel_rfl))
 f49:=⟨Tryz.f197.name,by decide,Tryz.func197.trans (congrArg AI (by kernel_rfl))⟩
 f50:=⟨Tryz.f198.name,by decide,Tryz.func198.trans (congrArg AI (by kernel_rfl))⟩
 f57:=⟨Tryz.f230.name,by decide,Tryz.func230.trans (congrArg AI (by kernel_rfl))⟩
 t0:=QQ
 a0:=Tryz.isAgg0
 z0:=Tryz.sizeOf0
 v0:=Q7
 t3:=ID
 a3:=OG
 z3:=Oj
 v3:=O1
 t4:=JK
 a4:=Qh
 z4:=OW
 v4:=O2
 t5:=OM
 a5:=Q8
 z5:=QL
 v5:=O3
 t9:=Ja
 a9:=Qi
 z9:=OX
 v9:=O4
 t22:=JP
 a22:=Tryz.isAgg34
 z22:=Tryz.sizeOf34
 v22:=Tryz.zeroValue34
 t25:=Tryz.underlying99
 a25:=Tryz.isAgg99
 z25:=Tryz.sizeOf99
 v25:=Tryz.zeroValue99
 t39:=ON
 a39:=QW
 z39:=QG
 v39:=O8
 t45:=Tryz.underlying173
 a45:=Tryz.isAgg173
 z45:=Tryz.sizeOf173
 v45:=Tryz.zeroValue173
 t46:=Tryz.underlying174
 a46:=Tryz.isAgg174
 z46:=Tryz.sizeOf174
 v46:=Tryz.zeroValue174
 t50:=Tryz.underlying153
 a50:=Tryz.isAgg153
 z50:=Tryz.sizeOf153
 v50:=Tryz.zeroValue153
 t53:=OO
 a53:=QX
 z53:=QH
 v53:=O9
 t55:=OP
 a55:=Tryz.isAgg167
 z55:=Tryz.sizeOf167
 v55:=QA
 t66:=Tryz.underlying225
 a66:=Tryz.isAgg225
 z66:=Tryz.sizeOf225
 v66:=Tryz.zeroValue225
 t70:=Tryz.underlying229
 a70:=Tryz.isAgg229
 z70:=Tryz.sizeOf229
 v70:=Tryz.zeroValue229
 t76:=Tryz.underlying262
 a76:=Tryz.isAgg262
 z76:=Tryz.sizeOf262
 v76:=Tryz.zeroValue262
 t77:=Tryz.underlying263
 a77:=Tryz.isAgg263
 z77:=Tryz.sizeOf263
 v77:=Tryz.zeroValue263 }
end Go.Proofs
namespace Go.Proofs.YtfidhgjmifendaaGreatDoor
open Go.RowKit
def qO(rs:List bL)(v:Value):Prop:=∀w,mJ w v rs->Calls AS 73 #[v] w λe w'=>∃(g c:Nat) (ord:List Nat),e=By (J (AI ⟨g,0,be⟩) rs.length c)/\iR rs ord/\(∀j,j<rs.length->w'.cell? ⟨g,j,be⟩=AI (U O (ord.getD j 0:Nat)))/\rs.length<=c/\w.heap.size<=g/\Below w.heap.size w w'
theorem Kw{rs:List bL}{p:Nat}(hp:p<rs.length)(t:Int):(eQ rs).set (p*6+5) (U O t)=eQ (rs.set p ⟨(rs.getD p dr).m,t⟩):=by
 apply List.ext_getElem?;intro k;by_cases hk:k<rs.length*6
 .have h2:=lN (rs.set p ⟨(rs.getD p dr).m,t⟩) (k/6) (by rw[IS];omega) (k%6) (by omega)
  rw[show k/6*6+k%6=k by omega] at h2;have h4:=lN rs (k/6) (by omega) (k%6) (by omega);rw[show k/6*6+k%6=k by omega] at h4;rw[h2];by_cases hkp:k/6=p
  .rw[show(rs.set p ⟨(rs.getD p dr).m,t⟩).getD (k/6) dr=⟨(rs.getD p dr).m,t⟩ by rw[hkp];simp[Ip,Of hp]]
   rw[hkp] at h4;by_cases h5:k%6=5
   .rw[show p*6+5=k by omega,Of (by rw[dX];omega),h5]
    rfl
   .rw[JR (by omega),h4]
    have h6:k%6<5:=by omega
    generalize k%6=q at h6
    match q,h6 with
    |0,_=>rfl
    |1,_=>rfl
    |2,_=>rfl
    |3,_=>rfl
    |4,_=>rfl
  .rw[show(rs.set p ⟨(rs.getD p dr).m,t⟩).getD (k/6) dr=rs.getD (k/6) dr by simp[Ip,JR (Ne.symm hkp)],JR (by omega),h4]
 .rw[IZ (by rw[IS,dX];omega),IZ (by rw[dX,IS];omega)]
theorem EC{n a b:Int}(h:within n a b=true):a<=n/\n<=b:=by simpa[within] using h
theorem ED{base:Nat}{w:World}{v:Value}{L:List Mem}{m:Mem}(h:w.ownsRow base 50 5 v (L.length+1) (fl L++m.cs)):Own base w v (L++[m]):=by
 have e:fl (L++[m])=fl L++m.cs:=by rw[cG,aZ];simp[fl]
 show w.ownsRow base 50 5 v (L++[m]).length (fl (L++[m]));rw[e,List.length_append];exact h
theorem Own.slice{base:Nat}{w:World}{v:Value}{ms:List Mem}(h:Own base w v ms):∃a c,v=J a ms.length c:=by
 rcases h.2 with⟨rfl,h0⟩|⟨g,c,cur,rfl,_⟩
 .exact⟨be,0,by rw[h0]⟩
 .exact⟨_,c,rfl⟩
theorem EE(rs:List bL)(v:Value)(most times:Int)(w:World)(hv:mJ w v rs)(h0:dW rs=0)(hm:within most 1 20=true)(ht:within times 1 100=true)(Wr:0<rs.length)(hT:qO rs v) :
 Calls AS 46 #[v,U O most,U O times] w λe w'=>∃(v1 v2:Value) (ord:List Nat),e=By (Ik #[v1,v2,U O 0])/\iR rs ord/\Own w.heap.size w' v1 (gv rs ord (min most.toNat rs.length))/\cH w.heap.size w' v2 ((bump rs ord (min most.toNat rs.length)).filter (ei times))/\Below w.heap.size w w':=by
 obtain⟨j0,ML,uT,SD,Vk⟩:=info_parts Tryz.oh;have HV:Hid (mJ w v rs):=hv;have HTT:Hid (qO rs v):=hT;have pF:1<=most/\most<=20:=by simp[within] at hm;omega
 obtain⟨pF,hm2⟩:=pF;obtain⟨A7,_,zE,_⟩:=fD h0;have MC:Hid (gQ rs):=zE;have jQ:=λ(w:World) (h:mJ w v rs)=>fW rs v w h;rw[h0] at jQ;clear h0 hT zE;obtain⟨pa,ca,rfl,_,_⟩:=hv;generalize hN:rs.length=n at *;have HN:Hid _:=hN;clear hN;have rO:Below w.heap.size w (w.alloc (AT #[U O times] 3)):=(Ib _ _).alloc (Ic _) _;go_enter Tryz.func46,Tryz.ntmps46;go_wp2_with fail;refine(jQ _ (HV.out.below rO)).mono ?_;rintro e w1 ⟨rfl,aB⟩;have c1:w1.cell? ⟨w.heap.size,0,be⟩=AI (U O times):=by
  rw[aB.cell (p:=⟨w.heap.size,0,be⟩) (by simp)];exact cT rfl
 have aV:Hid _:=rO.trans (aB.mono (by simp));have cZ:w.heap.size<w1.heap.size:=by have:=aB.size;simp at this;omega
 clear aB rO jQ;go_wp2_with (go_at_call 54;refine(cy _ _ _ _).mono ?_;rintro e w' ⟨rfl,rfl⟩;first|rw[hm]|rw[ht]);refine(fX rs _ _ (HV.out.below aV.out) (by rw[HN.out];omega)).mono ?_;rintro e w3 ⟨v3,rfl,lh,bV⟩;have dY:Hid (cH _ _ _ _):=lh.base cZ;have c3:w3.cell? ⟨w.heap.size,0,be⟩=AI (U O times):=by
  rw[bV.cell (p:=⟨w.heap.size,0,be⟩) (by simp only;omega)];exact c1
 have cj:Hid _:=aV.out.trans (bV.mono aV.out.size);have qi:w.heap.size<w3.heap.size:=by have:=bV.size;omega
 clear bV lh c1;go_wp2_with fail;refine(HTT.out _ (HV.out.below cj.out)).mono ?_;rintro e w4 ⟨gt,ct,ord,rfl,Ws,Hd,hcc,akM,eO⟩;have vf:Hid _:=Ws;have SF:Hid _:=Hd;have eP:Hid (Below w.heap.size w w4):=cj.out.trans (eO.mono cj.out.size);have C4:Hid (w4.cell? ⟨w.heap.size,0,be⟩=AI (U O times)):=by
  have h:=eO.cell (p:=⟨w.heap.size,0,be⟩) (by simp only;omega);exact h.trans c3
 have nH:Hid (cH _ _ _ _):=dY.out.below eO;have RQ:Hid (∀k,v3.ownBlock=AI k->k<w3.heap.size):=λk hk=>(dY.out.lt k hk).2;have mu:=eO.size;clear eO c3 dY Hd Ws;obtain⟨g,c,zd⟩:∃g c,v3=J (AI ⟨g,0,be⟩) n c:=by
  rcases nH.out.2 with⟨_,h0⟩|⟨g,c,cur,h,_⟩
  .have:=HN.out;omega
  .exact⟨g,c,by rw[h,HN.out]⟩
 subst zd;obtain⟨dn,hgh⟩:=nH.out.lt g rfl;have ji:=RQ.out g rfl;rw[HN.out] at hcc ⊢;have HGT:Hid _:=Ix w4 ⟨gt,0,be⟩ (SF.out 0 (by rw[HN.out];exact Wr));obtain⟨q,hq⟩:∃q:Nat,q=min most.toNat n:=⟨_,rfl⟩;have ad5:min most (n:Int)=(q:Int):=by omega
 have Eg:q<=n:=by omega
 go_wp2_with fail;go_loopw [11,37] (λo i wr=>∃k:Nat,k<=q/\i=U O k/\Hid (Own w4.heap.size wr o (gv rs ord k))/\Hid (cH (w.heap.size+1) wr (J (AI ⟨g,0,be⟩) n c) (bump rs ord k))/\Hid (wr.cell? ⟨w.heap.size,0,be⟩=AI (U O times))/\Hid (∀j,j<rs.length->wr.cell? ⟨gt,j,be⟩=AI (U O (ord.getD j 0:Nat)))/\Hid (Below w.heap.size w wr)/\w4.heap.size<=wr.heap.size) (λ_ i _=>q-(intOf i).toNat)
 case atStart=>exact⟨0,II _,rfl,(by rw[Bj];exact bY _ _),(by rw[Eb];exact nH.out),C4,SF,eP,Ic _⟩
 case round=>
  obtain⟨k,hk,rfl,EF,Wt,HCC,SG,HB,cF⟩:=hrel;by_cases aW:k<q
  .have fQ:k<rs.length:=by rw[HN.out];omega
   have oc:=SG.out k fQ;have cv:ord.getD k 0<n:=by have:=vf.out.lt fQ;rwa [HN.out] at this
   have aN:(bump rs ord k).length=n:=by rw[tm];exact HN.out
   obtain⟨d0,d1,d2,d3,d4,d5⟩:=pI Wt.out (ord.getD k 0) (by rw[aN];exact cv);rw[ow vf.out fQ] at d0 d1 d2 d3 d4 d5;have hRO:wr.ownsRow (w.heap.size+1) 111 6 (J (AI ⟨g,0,be⟩) n c) n (eQ (bump rs ord k)):=by
    have h2:wr.ownsRow (w.heap.size+1) 111 6 (J (AI ⟨g,0,be⟩) n c) (bump rs ord k).length (eQ (bump rs ord k)):=Wt.out;rw[aN] at h2;exact h2
   have rf:∀o,wr.frozen? ⟨g,o,be⟩=false:=λo=>I7 hRO o;have zE:=MC.out _ (vf.out.lt fQ);obtain⟨ht3,ht4⟩:=EC zE;have SH:Hid (cH (w.heap.size+1) (wr.setCell ⟨g,ord.getD k 0*6+5,be⟩ (U O ((rs.getD (ord.getD k 0) dr).told+1))) (J (AI ⟨g,0,be⟩) n c) (bump rs ord (k+1))):=by
    have h3:=(IG hRO (ord.getD k 0*6+5) (U O ((rs.getD (ord.getD k 0) dr).told+1))).1;rw[Kw (by rw[aN];exact cv),ow vf.out fQ] at h3;show World.ownsRow _ _ _ _ _ (bump rs ord (k+1)).length _;rw[tm,HN.out,Ec (by rw[vf.out.len];exact fQ),eK,ow vf.out fQ];exact h3
   have HTS:Hid (gv rs ord (k+1)=gv rs ord k++[(rs.getD (ord.getD k 0) dr).m]):=Bk (by rw[vf.out.len];exact fQ);have htl:(gv rs ord k).length<=20:=by unfold gv;rw[List.length_map,IA];omega
   obtain⟨oa,ocp,hvo⟩:=EF.out.slice;subst hvo;clear hRO zE;generalize ord.getD k 0=PN at *;generalize hrk:rs.getD PN dr=rk at *;clear hrk;obtain⟨⟨nm,st,lf,ad,sv⟩,td⟩:=rk;simp only at d0 d1 d2 d3 d4 d5 ht3 ht4 SH HTS;simp only[IC] at d0 d1 d2 d3 d4 d5;generalize gv rs ord k=TL at *;have HOT:Hid (∀ob,((wr.setCell ⟨g,PN*6+5,be⟩ (U O (td+1))).alloc ob).ownsRow w4.heap.size 50 5 (J oa TL.length ocp) TL.length (fl TL)):=λob=>
    Own.below (ms:=TL) (Ii EF.out (a:=⟨g,PN*6+5,be⟩) hgh _) ((Ib _ _).alloc (Ic _) ob)
   have LG:Hid (∀j,(J oa TL.length ocp).ownBlock=AI j->w4.heap.size<=j):=λj hj=>(EF.out.lt j hj).1;clear EF Wt;go_wp2_with (at_builtin;refine wpList_append_own _ rfl _ _ 34 rfl w4.heap.size 50 j0 _ 5 48 JP ML uT SD Vk rfl (by omega) _ TL.length (fl TL) rfl ?hown ⟨wr.heap.size,0,be⟩ 1 1 (Mem.mk nm st lf ad sv).cs rfl rfl ?hnews (df _) ?h63 ?hbytes ?hbase ?_)
   case hown=>exact HOT.out _
   case hnews=>(intro j u hj;rw[Addr.add_lit];exact(cT (by simp)).trans (by simpa[Mem.cs] using hj))
   case h63=>(unfold maxLen;omega)
   case hbytes=>omega
   case hbase=>(simp;omega)
   intro v' w5 r1 r2 r3;have jB:Below w4.heap.size (wr.setCell ⟨g,PN*6+5,be⟩ (U O (td+1))) w5:=
    ((Ib w4.heap.size (wr.setCell ⟨g,PN*6+5,be⟩ (U O (td+1)))).alloc (by simpa using cF) _).grown r2 (by simp;omega) (λj hj=>LG.out j hj)
   have R1:Hid (Own _ _ _ _):=ED r1;have LN:=(jB.block g hgh).symm;have R2:Hid (cH (w.heap.size+1) w5 (J (AI ⟨g,0,be⟩) n c) (bump rs ord (k+1))):=by
    obtain⟨h1,h2⟩:=SH.out;refine⟨h1,?_⟩;rcases h2 with h2|⟨g',c',cur,hv,ev,hg,hr⟩
    .exact .inl h2
    .have Vl:g'=g:=by simp only[I1,It,Addr.mk.injEq,and_true] at hv;exact hv.1.symm
     subst Vl;exact .inr ⟨g',c',cur,hv,ev,by rw[<- LN];exact hg,hr⟩
   have R3:Hid (w5.cell? ⟨w.heap.size,0,be⟩=AI (U O times)):=by
    have h1:=jB.cell (p:=⟨w.heap.size,0,be⟩) (by simp only;omega);have h2:(wr.setCell ⟨g,PN*6+5,be⟩ (U O (td+1))).cell? ⟨w.heap.size,0,be⟩=wr.cell? ⟨w.heap.size,0,be⟩:=JQ _ _ _ _ (by simp only;omega);exact h1.trans (h2.trans HCC.out)
   have R4:Hid (∀j,j<rs.length->w5.cell? ⟨gt,j,be⟩=AI (U O (ord.getD j 0:Nat))):=λj hj=>by
    have h1:=jB.cell (p:=⟨gt,j,be⟩) HGT.out;have h2:(wr.setCell ⟨g,PN*6+5,be⟩ (U O (td+1))).cell? ⟨gt,j,be⟩=wr.cell? ⟨gt,j,be⟩:=JQ _ _ _ _ (by simp only;omega);exact h1.trans (h2.trans (SG.out j hj))
   have R5:Hid _:=(HB.out.setCell (p:=⟨g,PN*6+5,be⟩) (by simp only;omega) _).trans (jB.mono (by omega));have We:w4.heap.size<=w5.heap.size:=by have:=jB.size;simp at this;omega
   clear r1 r2 r3 jB LN SH HOT LG d0 d1 d2 d3 d4 d5 oc;go_wp2_with fail;exact⟨⟨k+1,by omega,by go_num,(by rw[HTS.out];exact R1.out),R2.out,R3.out,R4.out,R5.out,We⟩,by simp[intOf];omega⟩
  .have hkq:k=q:=by omega
   subst hkq;have aN:(bump rs ord k).length=n:=by rw[tm];exact HN.out
   clear SG;go_wp2_with fail;refine(tl (bump rs ord k) n g c w.heap.size (w.heap.size+1) times _ aN (by omega) Wt.out (by omega) (by omega) HCC.out).mono ?_;rintro e w6 ⟨m,rfl,Wf,rR,hf6⟩;have S1:Hid (Own w.heap.size w6 u11 (gv rs ord k)):=by
    obtain⟨h1,h2⟩:=EF.out;refine⟨h1,?_⟩;rcases h2 with h2|⟨g',c',cur,hv,ev,hg,hr⟩
    .exact .inl h2
    .exact .inr ⟨g',c',cur,hv,by omega,by rw[hf6.2 g' (BY.1 hg).1 (by omega)];exact hg,hr⟩
   have S2:Hid (cH w.heap.size w6 (J (AI ⟨g,0,be⟩) m c) ((bump rs ord k).filter (ei times))):=Wf.base (by omega);have S3:Hid _:=HB.out.trans (rR.mono (by omega));clear Wf rR hf6 EF Wt HCC;go_wp2_with fail;go_ret3
   exact⟨_,_,ord,rfl,vf.out,by rw[<- hq];exact S1.out,by rw[<- hq];exact S2.out,S3.out⟩
end Go.Proofs.YtfidhgjmifendaaGreatDoor
namespace Go.Proofs
open Go.Shelf
def Tryz.vW:Go.Shelf.Ren:=⟨fun|6=>127|15=>71|14=>192|28=>123|29=>124|20=>222|21=>223|22=>224|23=>225|24=>226|25=>227|26=>228|27=>229|46=>256|47=>195|48=>196|49=>257|50=>258|57=>283|n=>n,fun|22=>131|24=>3|25=>51|3=>3|39=>129|0=>0|53=>165|55=>167|4=>4|46=>174|45=>173|50=>153|5=>5|9=>9|66=>225|70=>229|76=>262|77=>263|n=>n,fun|n=>n⟩
theorem Tryz.PO:Go.Proofs.SlLaysF.n6 AS Tryz.vW:={
 mixed:=by kernel_rfl
 f6:=⟨Tryz.f127.name,by decide,Tryz.func127.trans (congrArg AI (by kernel_rfl))⟩
 f14:=⟨Tryz.f192.name,by decide,Tryz.func192.trans (congrArg AI (by kernel_rfl))⟩
 f15:=Tryz.func71.trans (congrArg AI (by kernel_rfl))
 f20:=⟨Tryz.f222.name,by decide,Tryz.func222.trans (congrArg AI (by kernel_rfl))⟩
 f21:=⟨Tryz.f223.name,by decide,Tryz.func223.trans (congrArg AI (by kernel_rfl))⟩
 f22:=⟨Tryz.f224.name,by decide,Tryz.func224.trans (congrArg AI (by kernel_rfl))⟩
 f23:=⟨Tryz.f225.name,by decide,Tryz.func225.trans (congrArg AI (by kernel_rfl))⟩
 f24:=⟨Tryz.f226.name,by decide,Tryz.func226.trans (congrArg AI (by kernel_rfl))⟩
 f25:=⟨Tryz.f227.name,by decide,Tryz.func227.trans (congrArg AI (by kernel_rfl))⟩
 f26:=⟨Tryz.f228.name,by decide,Tryz.func228.trans (congrArg AI (by kernel_rfl))⟩
 f27:=⟨Tryz.f229.name,by decide,Tryz.func229.trans (congrArg AI (by kernel_rfl))⟩
 f28:=Tryz.func123.trans (congrArg AI (by kernel_rfl))
 f29:=Tryz.func124.trans (congrArg AI (by kernel_rfl))
 f46:=⟨Tryz.f256.name,by decide,Tryz.func256.trans (congrArg AI (by kernel_rfl))⟩
 f47:=Tryz.func195.trans (congrArg AI (by kernel_rfl))
 f48:=Tryz.func196.trans (congrArg AI (by kernel_rfl))
 f49:=⟨Tryz.f257.name,by decide,Tryz.func257.trans (congrArg AI (by kernel_rfl))⟩
 f50:=⟨Tryz.f258.name,by decide,Tryz.func258.trans (congrArg AI (by kernel_rfl))⟩
 f57:=⟨Tryz.f283.name,by decide,Tryz.func283.trans (congrArg AI (by kernel_rfl))⟩
 t0:=QQ
 a0:=Tryz.isAgg0
 z0:=Tryz.sizeOf0
 v0:=Q7
 t3:=ID
 a3:=OG
 z3:=Oj
 v3:=O1
 t4:=JK
 a4:=Qh
 z4:=OW
 v4:=O2
 t5:=OM
 a5:=Q8
 z5:=QL
 v5:=O3
 t9:=Ja
 a9:=Qi
 z9:=OX
 v9:=O4
 t22:=Tryz.underlying131
 a22:=Tryz.isAgg131
 z22:=Tryz.sizeOf131
 v22:=Tryz.zeroValue131
 a24:=OG
 z24:=Oj
 t25:=Tryz.underlying51
 a25:=Tryz.isAgg51
 z25:=Tryz.sizeOf51
 v25:=Tryz.zeroValue51
 t39:=ON
 a39:=QW
 z39:=QG
 v39:=O8
 t45:=Tryz.underlying173
 a45:=Tryz.isAgg173
 z45:=Tryz.sizeOf173
 v45:=Tryz.zeroValue173
 t46:=Tryz.underlying174
 a46:=Tryz.isAgg174
 z46:=Tryz.sizeOf174
 v46:=Tryz.zeroValue174
 t50:=Tryz.underlying153
 a50:=Tryz.isAgg153
 z50:=Tryz.sizeOf153
 v50:=Tryz.zeroValue153
 t53:=OO
 a53:=QX
 z53:=QH
 v53:=O9
 t55:=OP
 a55:=Tryz.isAgg167
 z55:=Tryz.sizeOf167
 v55:=QA
 t66:=Tryz.underlying225
 a66:=Tryz.isAgg225
 z66:=Tryz.sizeOf225
 v66:=Tryz.zeroValue225
 t70:=Tryz.underlying229
 a70:=Tryz.isAgg229
 z70:=Tryz.sizeOf229
 v70:=Tryz.zeroValue229
 t76:=Tryz.underlying262
 a76:=Tryz.isAgg262
 z76:=Tryz.sizeOf262
 v76:=Tryz.zeroValue262
 t77:=Tryz.underlying263
 a77:=Tryz.isAgg263
 z77:=Tryz.sizeOf263
 v77:=Tryz.zeroValue263 }
end Go.Proofs
namespace Go.Proofs.YtfidhgjmifendaaGreatDoor
open Go.RowKit Go.Sort Go.Shelf Go.Lib
theorem Dj(rs:List bL)(i k:Nat):cfR rs i k<0↔(rs.getD i dr).told<(rs.getD k dr).told\/((rs.getD i dr).told=(rs.getD k dr).told/\k<i):=by
 unfold cfR Ps th;generalize(rs.getD i dr).told=a;generalize(rs.getD k dr).told=b
 repeat' split
 all_goals omega
def PQ(rs:List bL)(m:Nat)(x y:Fin (m+1)):Int:=cfR rs x.val y.val
theorem ltF(rs:List bL)(m:Nat)(x y:Fin (m+1)):ltOf (PQ rs m) x y=true↔(rs.getD x.val dr).told<(rs.getD y.val dr).told\/((rs.getD x.val dr).told=(rs.getD y.val dr).told/\y.val<x.val):=by
 unfold ltOf PQ;rw[decide_eq_true_iff,Dj]
theorem qP(rs:List bL)(m:Nat)(x y:Fin (m+1)):ltOf (PQ rs m) x y=false↔¬ ((rs.getD x.val dr).told<(rs.getD y.val dr).told\/((rs.getD x.val dr).told=(rs.getD y.val dr).told/\y.val<x.val)):=by
 rw[<- ltF,Bool.not_eq_true]
theorem ad8(rs:List bL)(m:Nat):SWO (ltOf (PQ rs m)) where
 irrefl x:=by rw[qP];omega
 trans x y z h1 h2:=by rw[ltF] at *;omega
 ntrans x y z h1 h2:=by rw[qP] at *;omega
def qQ(m:Nat)(x:Fin (m+1)):Value:=U O (x.val:Nat)
def kW(m:Nat):Array (Fin (m+1)):=Array.ofFn (λx=>x)
theorem gC(m:Nat):(kW m).size=m+1:=by simp[kW]
theorem zF(m j:Nat)(hj:j<m+1):(kW m)[j]! = ⟨j,hj⟩:=by
 rw[getElem!_pos _ j (by rw[gC];exact hj)];simp[kW]
theorem EH(m:Nat):(kW m).toList.map (·.val)=JD (m+1):=by
 apply List.ext_getElem
 .simp[kW]
 .intro j h1 h2
  rw[List.getElem_map,List.getElem_range,Array.getElem_toList];simp only[kW,Array.getElem_ofFn]
theorem BN(W:World)(o:Obj):(W.alloc o).drew=grow (W.drewN 1) #[o]:=by
 simp only[grow,World.alloc,World.drew,World.drewN,Array.push_eq_append]
theorem ad9(rs:List bL)(m lb b off ca g:Nat)(w:World)(hn:rs.length=m+1)(hr:mK w b off rs)(hl:w.cell? ⟨lb,0,be⟩=AI (J (AI ⟨b,off,be⟩) (m+1) ca))(h1:lb≠g)(h2:b≠g)(hb:b<w.heap.size) :
 CmpLays1 AS 128 #[Ie (AI ⟨lb,0,be⟩)] (qQ m) (PQ rs m) g 0 (kW m).size w:=by
 intro q os dk hs x y;have kK:=Ix w _ hl;have c1:=(cell?_sortWorld_other (qQ m) w g 0 q dk os ⟨lb,0,be⟩ h1 kK).trans hl;have c2:=(cell?_sortWorld_other (qQ m) w g 0 q dk os ⟨b,off+x.val*6+5,be⟩ h2 hb).trans (hr x.val (by rw[hn];exact x.isLt)).2.2.2.2.2;have c3:=(cell?_sortWorld_other (qQ m) w g 0 q dk os ⟨b,off+y.val*6+5,be⟩ h2 hb).trans (hr y.val (by rw[hn];exact y.isLt)).2.2.2.2.2;refine(D9 _ _ lb b off (m+1) ca x.val y.val _ c1 x.isLt y.isLt c2 c3).mono ?_;rintro e w' ⟨rfl,rfl⟩;exact⟨rfl,1,_,BN _ _⟩
theorem Kx{rs:List bL}{m:Nat}{d':Array (Fin (m+1))}(hn:rs.length=m+1)(hp:PermIn 0 (kW m).size (kW m) d')(hs:SortedIn (ltOf (PQ rs m)) 0 (kW m).size d'):iR rs (d'.toList.map (·.val)):=by
 obtain⟨cF,_,PR⟩:=hp;rw[Array.extract_size,show d'.extract 0 (kW m).size=d' by rw[<- cF,Array.extract_size]] at PR;have hP:(d'.toList.map (·.val)).Perm (JD rs.length):=by
  rw[hn,<- EH];exact PR.map _
 have hlen:(d'.toList.map (·.val)).length=m+1:=by rw[hP.length_eq,hn];simp
 have LO:=hP.nodup_iff.2 List.nodup_range;refine⟨hP,λi j iY hj=>?_⟩;have hds:d'.size=m+1:=by rw[cF,gC]
 have Ea:j<d'.size:=by rw[hds];omega
 have Wu:i<d'.size:=by omega
 have e1:(d'.toList.map (·.val)).getD i 0=d'[i].val:=by rw[pJ (by omega)];simp
 have e2:(d'.toList.map (·.val)).getD j 0=d'[j].val:=by rw[pJ hj];simp
 have aM:=List.pairwise_iff_getElem.1 LO i j (by omega) hj iY;simp only[List.getElem_map,Array.getElem_toList] at aM;have h:=hs i j (by omega) iY (by rw[gC];omega);rw[getElem!_pos d' j Ea,getElem!_pos d' i Wu,qP] at h;rw[e1,e2,Dj];omega
abbrev zG(k:Nat):List Value:=(JD k).map (λj=>Value.int O (j:Nat))
theorem EI(k:Nat):zG (k+1)=zG k++[U O (k:Nat)]:=by simp[zG,List.range_succ]
theorem rU{m:Nat}{B:Nat}{w:World}{g off n:Nat}{d:Array (Fin (m+1))}{os:Array Obj}(hg:B<=g)(hB:B<=w.heap.size):Below B w (sortWorld (qQ m) w g off n d os):=by
 refine⟨rfl,rfl,rfl,by simp[sortWorld,putRow,mapBlock,J0,grow],λk hk=>?_⟩;unfold sortWorld;rw[Go.Sort.heap_grow_old _ _ (by simp[putRow,mapBlock,J0];omega)]
 have:g≠k:=by omega
 simp[putRow,mapBlock,J0,OU,this]
theorem BO(rs:List bL)(v:Value)(m:Nat)(hn:rs.length=m+1)(yZ:m<1000):qO rs v:=by
 intro w hv;obtain⟨i0,fL,dh,gW,gG⟩:=info_parts Tryz.Wv;obtain⟨pa,ca,rfl,_,ha⟩:=hv;obtain⟨b,off,Mf,kK,hr⟩:∃b off,pa=AI ⟨b,off,be⟩/\b<w.heap.size/\mK w b off rs:=by
  rcases ha with h|h
  .rw[h] at hn;simp at hn
  .exact h
 subst Mf;have HR:Hid (mK w b off rs):=hr;have HN:Hid _:=hn;rw[hn];clear ha hr hn;have eg:=enters_of Tryz.func128 (by kernel_rfl) rfl;have HEG:Hid _:=eg;clear eg;go_enter Tryz.func73,Tryz.ntmps73;go_wp2_with fail;go_loopw [3,7] (λo i wr=>∃k:Nat,k<=m+1/\i=U O k/\Hid (wr.ownsRow (w.heap.size+1) 3 1 o k (zG k))/\Hid (Below (w.heap.size+1) (w.alloc (AT #[J (AI ⟨b,off,be⟩) (m+1) ca] 35)) wr)) (λ_ i _=>m+1-(intOf i).toNat)
 case atStart=>exact⟨0,II _,rfl,World.ownsRow_nil _ _ _ _,Ib _ _⟩
 case round=>
  obtain⟨k,hk,rfl,HO,HB⟩:=hrel;have cF:w.heap.size+1<=wr.heap.size:=by have:=HB.out.size;simpa using this
  by_cases aW:k<m+1
  .have gX:Hid (∀ob,(wr.alloc ob).ownsRow (w.heap.size+1) 3 1 u3 k (zG k)):=λob=>by
    obtain⟨h1,h2⟩:=HO.out;refine⟨h1,?_⟩;rcases h2 with h2|⟨g,c,cur,hv,ev,hg,hr⟩
    .exact .inl h2
    .exact .inr ⟨g,c,cur,hv,ev,by rw[((Ib wr.heap.size wr).alloc (Ic _) ob).block g (BY.1 hg).1];exact hg,hr⟩
   have LG:Hid (∀j,u3.ownBlock=AI j->w.heap.size+1<=j):=λj hj=>(OL HO.out j hj).1;clear HO;go_wp2_with (at_builtin;refine wpList_append_own _ rfl _ _ 131 rfl (w.heap.size+1) 3 i0 _ 1 8 Tryz.underlying131 fL dh gW gG rfl (by omega) _ k (zG k) rfl ?hown ⟨wr.heap.size,0,be⟩ 1 1 [U O k] rfl rfl ?hnews (by simp[Value.oneCell']) ?h63 ?hbytes ?hbase ?_)
   case hown=>exact gX.out _
   case hnews=>(intro j u hj;rw[Addr.add_lit];exact(cT rfl).trans (by simpa using hj))
   case h63=>(unfold maxLen;omega)
   case hbytes=>omega
   case hbase=>(simp;omega)
   intro v' w2 r1 r2 r3;have R1:Hid (w2.ownsRow (w.heap.size+1) 3 1 v' (k+1) (zG (k+1))):=by rw[EI];exact r1
   have R2:Hid (Below (w.heap.size+1) (w.alloc (AT #[J (AI ⟨b,off,be⟩) (m+1) ca] 35)) w2):=
    (HB.out.alloc cF _).grown r2 (by simp;omega) (λj hj=>LG.out j hj)
   clear r1 r2 r3;go_wp2_with fail;exact⟨⟨k+1,by omega,by go_num,R1.out,R2.out⟩,by simp[intOf];omega⟩
  .have fQ:k=m+1:=by omega
   subst fQ;obtain⟨g,c,hu3,ev,dO,fM,rf⟩:∃g c,u3=J (AI ⟨g,0,be⟩) (m+1) c/\w.heap.size+1<=g/\m+1<=c/\(∀j,j<m+1->wr.cell? ⟨g,j,be⟩=AI (U O (j:Nat)))/\(∀j,wr.frozen? ⟨g,j,be⟩=false):=by
    have hO:=HO.out;rcases HO.out.2 with⟨_,h0⟩|⟨g,c,cur,hv,ev,hg,fG,dO,b9,bf⟩
    .omega
    .subst hv
     refine⟨g,c,rfl,ev,fG,λj hj=>?_,λj=>I7 hO j⟩;rw[Oz hO j (by omega)];simp[zG,hj]
   subst hu3;have wM:=Ix wr ⟨g,0,be⟩ (fM 0 (by omega));have aeb:wr.cell? ⟨w.heap.size,0,be⟩=AI (J (AI ⟨b,off,be⟩) (m+1) ca):=by
    rw[HB.out.cell (p:=⟨w.heap.size,0,be⟩) (by simp only;omega)];exact cT rfl
   have cQ:=(HR.out.below ((Ib w.heap.size w).alloc (Ic _) _) kK).below HB.out (by omega);have pS:=Any.slices_SortFunc Tryz.PO (qQ m) (λ_=>rfl) (PQ rs m) (ad8 rs m) 128 #[Ie (AI ⟨w.heap.size,0,be⟩)] g 0 c (kW m) wr HEG.out (ad9 rs m w.heap.size b off ca g wr HN.out cQ aeb (by omega) (by omega) (by omega)) (λj hj=>by
    rw[gC] at hj;rw[zF m j hj,IC];exact⟨fM j hj,rf j⟩) wM (by rw[gC];omega)
   have Ww:Calls AS 127 #[J (AI ⟨g,0,be⟩) (m+1) c,.func (.func 128) #[] #[Ie (AI ⟨w.heap.size,0,be⟩)]] wr λe w'=>e=By (Ik #[])/\∃d' n os,PermIn 0 (kW m).size (kW m) d'/\SortedIn (ltOf (PQ rs m)) 0 (kW m).size d'/\w'=sortWorld (qQ m) wr g 0 n d' os:=by
    have h:=pS;rw[show J (AI ⟨g,0,be⟩) (kW m).size c=J (AI ⟨g,0,be⟩) (m+1) c by rw[gC]] at h;exact h
   have HHH:Hid (Holds (qQ m) wr g 0 (kW m)):=λj hj=>by
    rw[gC] at hj;rw[zF m j hj,IC];exact⟨fM j hj,rf j⟩
   clear pS fM rf cQ HO;go_wp2_with fail;refine Ww.mono ?_;rintro e w2 ⟨rfl,d',nd,os,hp,hs,tn⟩;have vf:Hid _:=Kx HN.out hp hs;have hds:d'.size=m+1:=by rw[hp.1,gC]
   have SF:Hid (∀j,j<m+1->w2.cell? ⟨g,j,be⟩=AI (U O ((d'.toList.map (·.val)).getD j 0:Nat))):=λj hj=>by
    have h1:=cell?_putRow (qQ m) (J0 wr nd) g 0 (kW m) d' (show Holds (qQ m) (J0 wr nd) g 0 (kW m) from HHH.out) hp.1 j (by omega);have h2:w2.cell? ⟨g,0+j,be⟩=(putRow (qQ m) (J0 wr nd) g 0 d').cell? ⟨g,0+j,be⟩:=by
     rw[tn];exact cell?_grow _ _ _ (by
      have h3:=Ix (putRow (qQ m) (J0 wr nd) g 0 d') ⟨g,0+j,be⟩ h1;exact h3)
    rw[IC] at h1 h2;rw[h2,h1,getElem!_pos d' j (by omega)];simp[qQ,Ip,hds,hj]
   have LL:Hid (Below w.heap.size w w2):=by
    rw[tn];exact(((Ib w.heap.size w).alloc (Ic _) _).trans (HB.out.mono (Nat.le_succ _))).trans (rU (by omega) (by omega))
   clear HHH hp hs tn;go_wp2_with fail;go_ret;exact⟨g,c,d'.toList.map (·.val),rfl,vf.out,SF.out,dO,by omega,LL.out⟩
end Go.Proofs.YtfidhgjmifendaaGreatDoor
namespace Go.Proofs.YtfidhgjmifendaaGreatDoor
open Go.RowKit Go.Sort Go.Lib
def SI(a b:Mem):Int:=bO a.name b.name
theorem EJ(x y:Mem)(W:World):aF 48 #[Ij #[Y x.name,U O x.state,U O x.aI,U O x.addr,Ia x.server],Ij #[Y y.name,U O y.state,U O y.aI,U O y.addr,Ia y.server]] W λe w'=>e=By (U O (SI x y))/\∃q os',w'=grow (W.drewN q) os':=by
 unfold SI;go_enter Tryz.func48,Tryz.ntmps48;go_wp2_with (go_at_call 49;refine(gn _ _ _).mono ?_;rintro e w' ⟨rfl,rfl⟩);go_ret;exact⟨rfl,0,_,by rw[alloc_eq_grow,alloc_eq_grow,grow_grow];rfl⟩
theorem Ky[Inhabited Mem](blk off size:Nat)(w:World):CmpLays AS 48 #[] Mem.cs 5 SI blk off size w:=λ_ _ _ _ x y=>EJ x y _
theorem aec:SWO (ltOf SI) where
 irrefl x:=by simp[ltOf,SI,(bT x.name x.name).2 rfl]
 trans x y z:=by
  simp only[ltOf,SI,decide_eq_true_eq,fB];exact λh1 h2=>fU h1 h2
 ntrans x y z:=by
  intro h1 h2;have h1:=of_decide_eq_false h1;have h2:=of_decide_eq_false h2;refine decide_eq_false λh3=>?_;have h3:bO x.name z.name<0:=h3;rcases Int.lt_trichotomy (bO x.name y.name) 0 with h|h|h
  .exact h1 h
  .have e:x.name=y.name:=(bT _ _).1 h
   rw[e] at h3;exact h2 h3
  .have h4:=(nf _ _).1 h
   exact h2 ((fB _ _).2 (fU h4 ((fB _ _).1 h3)))
theorem EK[Inhabited Mem]{base:Nat}{w:World}{g c:Nat}{l:List Mem}(h:Own base w (J (AI ⟨g,0,be⟩) l.length c) l):HoldsK Mem.cs 5 w g 0 l.toArray:=by
 rcases h.2 with⟨h1,_⟩|⟨g',c',cur,h1,ev,hg,fG,dO,b9,bf⟩
 .cases h1
 .simp only[I1,It,Addr.mk.injEq] at h1
  obtain⟨⟨rfl,_,_⟩,_,_⟩:=h1;intro j hj;rw[size_flatK] at hj;have Ea:j<l.length*5:=by simpa using hj
  refine⟨?_,an hg _⟩;rw[ae hg,IC,get_flatK Mem.cs 5 l.toArray j (by simpa using Ea)];have e1:=eb l (j/5) (by omega) (j%5) (by omega);rw[show j/5*5+j%5=j by omega] at e1;have e2:cur[j]?=(fl l)[j]?:=by rw[<- bf,IL (by omega)];simp
  rw[e2,e1];have e3:l.toArray[j/5]! = l.getD (j/5) dm:=by
   have aW:j/5<l.length:=by omega
   simp[Ip,aW]
  rw[e3];have hl:j%5<(l.getD (j/5) dm).cs.length:=by rw[bB];omega
  rw[If hl,getElem!_pos (l.getD (j/5) dm).cs (j%5) hl];rfl
theorem zH[Inhabited Mem]{w:World}{g m:Nat}{d:Array Mem}{os:Array Obj}{cur:Array Value}{T:TypeId}{fr:Nat×Nat}(hg:w.heap[g]?=AI (AT cur T fr)) : (sortWorldK Mem.cs 5 w g 0 m d os).heap[g]?=AI (AT (putCells id 0 (flatK Mem.cs 5 d) cur) T fr):=by
 have aW:=(BY.1 hg).1;have mW:g<(putRowK Mem.cs 5 (Sort.ahead w m) g 0 d).heap.size:=by
  show g<(putRow id (Sort.ahead w m) g 0 _).heap.size;rw[size_putRow];exact aW
 show((putRowK Mem.cs 5 (Sort.ahead w m) g 0 d).heap++os)[g]?=_;rw[Array.getElem?_append_left mW];show(w.heap.modify g (onCells (putCells id 0 (flatK Mem.cs 5 d))))[g]?=_;rw[OU,if_pos rfl,hg];rfl
theorem BP[Inhabited Mem]{base:Nat}{w:World}{g c m:Nat}{l:List Mem}{os:Array Obj}(h:Own base w (J (AI ⟨g,0,be⟩) l.length c) l)(d:Array Mem)(hs:d.size=l.length) :
 Own base (sortWorldK Mem.cs 5 w g 0 m d os) (J (AI ⟨g,0,be⟩) l.length c) d.toList:=by
 rcases h.2 with⟨h1,_⟩|⟨g',c',cur,h1,ev,hg,fG,dO,b9,bf⟩
 .cases h1
 .simp only[I1,It,Addr.mk.injEq] at h1
  obtain⟨⟨rfl,_,_⟩,_,rfl⟩:=h1;have hl:d.toList.length=l.length:=by simpa using hs
  have ho:Own base (sortWorldK Mem.cs 5 w g 0 m d os) (J (AI ⟨g,0,be⟩) d.toList.length c) d.toList:=by
   refine ib ev (zH hg) (by simp[putCells,b9]) (by omega) dO ?_;apply List.ext_getElem?;intro t;by_cases ht:t<d.toList.length*5
   .have htc:t<cur.size:=by rw[b9];have:l.length*5<=c*5:=Nat.mul_le_mul_right 5 fG;omega
    rw[IL ht];have e1:=eb d.toList (t/5) (by omega) (t%5) (by omega);rw[show t/5*5+t%5=t by omega] at e1;rw[e1];have cF:t<d.size*5:=by simpa using ht
    have e2:(putCells id 0 (flatK Mem.cs 5 d) cur).toList[t]?=AI (flatK Mem.cs 5 d)[t]! := by
     simp only[putCells,Array.getElem?_toList,Array.getElem?_mapIdx,Array.getElem?_eq_getElem htc,Option.map_some];rw[if_pos ⟨II _,by rw[size_flatK];omega⟩];rfl
    rw[e2,get_flatK Mem.cs 5 d t cF];have e3:d[t/5]! = d.toList.getD (t/5) dm:=by
     have aW:t/5<d.size:=by omega
     simp[Ip,aW]
    rw[e3];have mB:t%5<(d.toList.getD (t/5) dm).cs.length:=by rw[bB];omega
    rw[If mB,getElem!_pos (d.toList.getD (t/5) dm).cs (t%5) mB]
   .rw[IZ (by rw[IA];omega),IZ (by rw[cP];omega)]
  rw[<- hl];exact ho
end Go.Proofs.YtfidhgjmifendaaGreatDoor
