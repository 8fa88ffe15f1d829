import Derived.Test.YtfidhgjmifendaaGreatDoorns27
import Derived.Shelf.SlSortCmp.SmallK
import Derived.Shelf.SlSortFunc.HeapSort
set_option maxHeartbeats 25600000
set_option maxRecDepth 100000
open Go.Ending renaming returned→AT
open Go.Value renaming tuple→Ik,agg→Ij,string→Y,bool→Ia,slice→J,int→U,pointer→Ie
open Go.IntKind renaming i64→O
open Option renaming none→be,some→AI
open Go.Obj renaming cells→By
open Go.RowKit.Below renaming refl→Ib
open Nat renaming le_refl→Ic,zero_le→IP,zero_add→IC
open Array renaming getElem?_eq_some_iff→BY,getElem?_modify→OU
open Go.RowKit renaming ownsRow_setCell_below→Ii
open Go.Proofs.Tryz renaming prog→AS,underlying0→QS,zeroValue0→Ua,underlying3→ID,isAgg3→OT,sizeOf3→OE,zeroValue3→OZ,underlying4→JU,isAgg4→Qz,sizeOf4→Qi,zeroValue4→O0,underlying5→OL,isAgg5→Ub,sizeOf5→QM,zeroValue5→O1,underlying9→Jb,isAgg9→QA,sizeOf9→Qj,zeroValue9→O2,underlying34→JP,underlying129→OM,isAgg129→QY,sizeOf129→QH,zeroValue129→O7,underlying165→ON,isAgg165→QZ,sizeOf165→QI,zeroValue165→O8,underlying167→OO,zeroValue167→QB
open List renaming length_set→IM,getD→Ip,getElem?_set_self→Of,getElem?_set_ne→JQ,getElem?_eq_none→I1,length_take→IA,range→Jx,getElem?_take_of_lt→IN,getElem?_eq_getElem→If
open Go.World renaming block_lt_of_cell?→Iy,cell?_setCell_far→JO
open Go.World.ownsRow renaming frozenAt→I7,stored→II,lt→OK,cellAt→Oy
open Go.Value.slice renaming injEq→I0
open Option.some renaming injEq→It
open Go.Sort renaming ahead→J0
namespace Go.Proofs.YtfidhgjmifendaaGreatDoor
open Go.RowKit
def jO(n:Nd)(ne:Int)(w:World)(e:Ending)(w':World):Prop:=Below w.heap.size w w' /\
 ((ne≠0/\e=AT (Ik #[Ij #[Y ⟨#[]⟩,Ia false,J be 0 0,J be 0 0,J be 0 0,J be 0 0],U O ne])) \/
 (ne=0/\∃um us ug uw,e=AT (Ik #[Ij #[Y n.name,Ia true,um,us,ug,uw],U O 0])/\Own w.heap.size w' um n.ms/\Sv.Own w.heap.size w' us n.sv/\Gw.Own w.heap.size w' ug n.gw/\Wh.Own w.heap.size w' uw n.wh))
theorem wH(n:Nd)(vm vr vs vg vw:Value)(w:World)(h:eY w n vm vr vs vg vw) :
 aI 23 #[Ij (dv n vm vr vs vg vw)] w λe w'=>jO n n.e w e w':=by
 have oq:Hid (∀W,Below w.heap.size w W->aI _ _ _ _):=λW hW=>oR n vm vr vs vg vw W (h.below hW);have KN:Hid (n.e=0->∀W,Below w.heap.size w W->aI 37 #[Ij (dv n vm vr vs vg vw)] W λe w'=>∃um ur us ug uw,e=AT (Ij (dv n um ur us ug uw))/\cP W.heap.size w' n um ur us ug uw/\Below W.heap.size W w'):=λhe W hW=>by
  have hp:=Nd.parts (Nd.aN he).1;have l1:=(af hp.ms).1;have l2:=(lY hp.rs).1;have l3:=(Sv.af hp.sv).1;have l4:=(Gw.af hp.gw).1;have l5:=(Wh.af hp.wh).1;exact rf n vm vr vs vg vw W (h.below hW) (by omega) (by omega) (by omega) (by omega) (by omega)
 obtain⟨nm,ct,ms,rs,sv,gw,⟨px,py,pz,ph,pq⟩,wh⟩:=n;obtain⟨⟨em,cm,rfl,_,_⟩,⟨rm,cr,rfl,_,_⟩,⟨es,rn,rfl,_,_⟩,⟨rq,cg,rfl,_,_⟩,⟨eh,ch,rfl,_,_⟩,_,_⟩:=h;simp only[dv] at oq KN ⊢;generalize tQ:ms.length=km at *;have Hkm:Hid _:=tQ;generalize Bo:rs.length=kr at *;have Hkr:Hid _:=Bo;generalize SQ:sv.length=ks at *;have Hks:Hid _:=SQ;generalize Sq:gw.length=kg at *;have Hkg:Hid _:=Sq;generalize WG:wh.length=kh at *;have Hkh:Hid _:=WG;clear tQ Bo SQ Sq WG;generalize Nd.e ⟨nm,ct,ms,rs,sv,gw,⟨px,py,pz,ph,pq⟩,wh⟩=ne at *;obtain⟨W0,bN⟩:∃W0,W0=(w.alloc (By #[Y nm,Y ct,J em km cm,J rm kr cr,J es ks rn,J rq kg cg,U O px,U O py,U O pz,U O ph,U O pq,J eh kh ch] 42)).alloc (By #[Y ⟨#[]⟩,Ia false,J be 0 0,J be 0 0,J be 0 0,J be 0 0] 53):=⟨_,rfl⟩;have bO:Below w.heap.size w W0:=by rw[bN];exact((Ib _ _).alloc (Ic _) _).alloc (by simp) _
 have dI:W0.heap[w.heap.size]?=AI (By #[Y nm,Y ct,J em km cm,J rm kr cr,J es ks rn,J rq kg cg,U O px,U O py,U O pz,U O ph,U O pq,J eh kh ch] 42 (0,0)):=by
  rw[bN,Below.heap_alloc _ _ _ (by simp)];exact heap_alloc_new w _
 have di:W0.heap[w.heap.size+1]?=AI (By #[Y ⟨#[]⟩,Ia false,J be 0 0,J be 0 0,J be 0 0,J be 0 0] 53 (0,0)):=by
  have h:=heap_alloc_new (w.alloc (By #[Y nm,Y ct,J em km cm,J rm kr cr,J es ks rn,J rq kg cg,U O px,U O py,U O pz,U O ph,U O pq,J eh kh ch] 42)) (By #[Y ⟨#[]⟩,Ia false,J be 0 0,J be 0 0,J be 0 0,J be 0 0] 53);rw[bN];simpa using h
 have eK:W0.heap.size=w.heap.size+2:=by rw[bN];simp
 have db:Hid _:=bO;have Bf:Hid _:=dI;have nY:Hid _:=di;clear bO dI di;go_enter Tryz.func23,Tryz.ntmps23;go_wp2_with fail;rw[<- bN];clear bN;refine(oq.out W0 db.out).mono ?_;rintro e w1 ⟨rfl,aB⟩;have cO:=(aB.block _ (by omega)).trans Bf.out;have da:=(aB.block _ (by omega)).trans nY.out;have ba:Hid _:=db.out.trans (aB.mono (by omega));have ft:=(BY.1 da).1;obtain⟨q0,q1,q2,q3,q4,q5⟩:=fx da;obtain⟨wi,wj,xA,xB,xC,xD⟩:=H8 da;obtain⟨p0,p1,p2,p3,p4,p5,p6,p7,p8,p9,p10,p11⟩:=bB cO;have GK:Hid _:=da;have vp:Hid _:=cO;clear aB cO da;by_cases aQ:ne=0;rotate_left
 .have SR:(ne !=0)=true:=by simpa using aQ
  have HNZ:Hid _:=aQ;clear aQ;go_wp2_with fail;refine bodyPost_ret (v:=Ik #[Ij #[Y ⟨#[]⟩,Ia false,J be 0 0,J be 0 0,J be 0 0,J be 0 0],U O ne]) ?_ rfl ?_
  .simp[results,Tryz.results23,go_sem,q0,q1,q2,q3,q4,q5]
  .unfold jO
   exact⟨((((((ba.out).setCell (p:=⟨w.heap.size+1,0,be⟩) (by simp) _).setCell (p:=⟨w.heap.size+1,1,be⟩) (by simp) _).setCell (p:=⟨w.heap.size+1,2,be⟩) (by simp) _).setCell (p:=⟨w.heap.size+1,3,be⟩) (by simp) _).setCell (p:=⟨w.heap.size+1,4,be⟩) (by simp) _).setCell (p:=⟨w.heap.size+1,5,be⟩) (by simp) _,.inl ⟨HNZ.out,rfl⟩⟩
 subst aQ;have EN:=KN.out rfl w1 ba.out;clear KN oq;go_wp2_with fail;refine EN.mono ?_;rintro e w2 ⟨um,ur,us,ug,uw,rfl,fK,aK⟩;obtain⟨im,jm,od,_⟩:=aA fK.ms;obtain⟨ir,jr,vA,_⟩:=aA fK.rs;obtain⟨is_,js,uc,_⟩:=aA fK.sv;obtain⟨ig,jg,zO,_⟩:=aA fK.gw;obtain⟨ih,jh,EU,_⟩:=aA fK.wh;simp only at od vA uc zO EU;rw[Hkm.out] at od;rw[Hkr.out] at vA;rw[Hks.out] at uc;rw[Hkg.out] at zO;rw[Hkh.out] at EU;subst od vA uc zO EU;have iv:=aK.size;have dS:=(aK.block _ (by omega)).trans vp.out;have lP:Hid _:=(aK.block _ (by omega)).trans GK.out;have bu:Hid _:=ba.out.trans (aK.mono (by omega));clear p0 p1 p2 p3 p4 p5 p6 p7 p8 p9 p10 p11 q0 wi q1 wj q2 xA q3 xB q4 xC q5 xD;obtain⟨p0,p1,p2,p3,p4,p5,p6,p7,p8,p9,p10,p11⟩:=bB dS;obtain⟨pz0,pz1,pz2,pz3,pz4,pz5,pz6,pz7,pz8,pz9,alI,alJ⟩:=kd dS;have vC:w.heap.size<w2.heap.size:=by omega
 have nW:=lP.out;obtain⟨q0,q1,q2,q3,q4,q5⟩:=fx nW;obtain⟨wi,wj,xA,xB,xC,xD⟩:=H8 nW;have zQ:w.heap.size+1<w2.heap.size:=by omega
 have HOm:Hid (Own (w.heap.size+2) w2 (J im km jm) ms):=fK.ms.mono (by omega);have HOs:Hid (Sv.Own (w.heap.size+2) w2 (J is_ ks js) sv):=fK.sv.mono (by omega);have HOg:Hid (Gw.Own (w.heap.size+2) w2 (J ig kg jg) gw):=fK.gw.mono (by omega);have HOh:Hid (Wh.Own (w.heap.size+2) w2 (J ih kh jh) wh):=fK.wh.mono (by omega);clear fK aK dS nW EN;go_wp2_with fail;refine bodyPost_ret (v:=Ik #[Ij #[Y nm,Ia true,J im km jm,J is_ ks js,J ig kg jg,J ih kh jh],U O 0]) ?_ rfl ?_
 .simp[results,Tryz.results23,go_sem,q0,q1,q2,q3,q4,q5]
 .unfold jO
  refine⟨((((((mV bu.out (by omega) _ _ _ _ _ _ _ _ _ _ _ _).setCell (p:=⟨w.heap.size+1,0,be⟩) (by simp) _).setCell (p:=⟨w.heap.size+1,1,be⟩) (by simp) _).setCell (p:=⟨w.heap.size+1,2,be⟩) (by simp) _).setCell (p:=⟨w.heap.size+1,3,be⟩) (by simp) _).setCell (p:=⟨w.heap.size+1,4,be⟩) (by simp) _).setCell (p:=⟨w.heap.size+1,5,be⟩) (by simp) _,.inr ⟨rfl,_,_,_,_,rfl,?_,?_,?_,?_⟩⟩
  .exact Own.mono (Ii (Ii (Ii (Ii (Ii (Ii (cX (HOm.out) (by omega) _ _ _ _ _ _ _ _ _ _ _ _) (a:=⟨w.heap.size+1,0,be⟩) (by simp only;omega) _) (a:=⟨w.heap.size+1,1,be⟩) (by simp only;omega) _) (a:=⟨w.heap.size+1,2,be⟩) (by simp only;omega) _) (a:=⟨w.heap.size+1,3,be⟩) (by simp only;omega) _) (a:=⟨w.heap.size+1,4,be⟩) (by simp only;omega) _) (a:=⟨w.heap.size+1,5,be⟩) (by simp only;omega) _) (by omega)
  .exact Sv.Own.mono (Ii (Ii (Ii (Ii (Ii (Ii (cX (HOs.out) (by omega) _ _ _ _ _ _ _ _ _ _ _ _) (a:=⟨w.heap.size+1,0,be⟩) (by simp only;omega) _) (a:=⟨w.heap.size+1,1,be⟩) (by simp only;omega) _) (a:=⟨w.heap.size+1,2,be⟩) (by simp only;omega) _) (a:=⟨w.heap.size+1,3,be⟩) (by simp only;omega) _) (a:=⟨w.heap.size+1,4,be⟩) (by simp only;omega) _) (a:=⟨w.heap.size+1,5,be⟩) (by simp only;omega) _) (by omega)
  .exact Gw.Own.mono (Ii (Ii (Ii (Ii (Ii (Ii (cX (HOg.out) (by omega) _ _ _ _ _ _ _ _ _ _ _ _) (a:=⟨w.heap.size+1,0,be⟩) (by simp only;omega) _) (a:=⟨w.heap.size+1,1,be⟩) (by simp only;omega) _) (a:=⟨w.heap.size+1,2,be⟩) (by simp only;omega) _) (a:=⟨w.heap.size+1,3,be⟩) (by simp only;omega) _) (a:=⟨w.heap.size+1,4,be⟩) (by simp only;omega) _) (a:=⟨w.heap.size+1,5,be⟩) (by simp only;omega) _) (by omega)
  .exact Wh.Own.mono (Ii (Ii (Ii (Ii (Ii (Ii (cX (HOh.out) (by omega) _ _ _ _ _ _ _ _ _ _ _ _) (a:=⟨w.heap.size+1,0,be⟩) (by simp only;omega) _) (a:=⟨w.heap.size+1,1,be⟩) (by simp only;omega) _) (a:=⟨w.heap.size+1,2,be⟩) (by simp only;omega) _) (a:=⟨w.heap.size+1,3,be⟩) (by simp only;omega) _) (a:=⟨w.heap.size+1,4,be⟩) (by simp only;omega) _) (a:=⟨w.heap.size+1,5,be⟩) (by simp only;omega) _) (by omega)
end Go.Proofs.YtfidhgjmifendaaGreatDoor
namespace Go.Proofs
open Go.Shelf
def Tryz.EY:Go.Shelf.Ren:=⟨fun|6=>47|15=>71|14=>76|28=>123|29=>124|20=>132|21=>133|22=>134|23=>135|24=>136|25=>137|26=>138|27=>139|46=>194|47=>195|48=>196|49=>197|50=>198|57=>230|n=>n,fun|22=>34|24=>50|25=>99|3=>3|39=>129|0=>0|53=>165|55=>167|4=>4|46=>174|45=>173|50=>153|5=>5|9=>9|66=>225|70=>229|76=>262|77=>263|n=>n,fun|n=>n⟩
theorem Tryz.WI:Go.Proofs.SlLaysF0.n6 AS Tryz.EY:={
 mixed:=by kernel_rfl
 f6:=⟨Tryz.f47.name,by decide,Tryz.func47.trans (congrArg AI (by kernel_rfl))⟩
 f14:=⟨Tryz.f76.name,by decide,Tryz.func76.trans (congrArg AI (by kernel_rfl))⟩
 f15:=Tryz.func71.trans (congrArg AI (by kernel_rfl))
 f20:=⟨Tryz.f132.name,by decide,Tryz.func132.trans (congrArg AI (by kernel_rfl))⟩
 f21:=⟨Tryz.f133.name,by decide,Tryz.func133.trans (congrArg AI (by kernel_rfl))⟩
 f22:=⟨Tryz.f134.name,by decide,Tryz.func134.trans (congrArg AI (by kernel_rfl))⟩
 f23:=⟨Tryz.f135.name,by decide,Tryz.func135.trans (congrArg AI (by kernel_rfl))⟩
 f24:=⟨Tryz.f136.name,by decide,Tryz.func136.trans (congrArg AI (by kernel_rfl))⟩
 f25:=⟨Tryz.f137.name,by decide,Tryz.func137.trans (congrArg AI (by kernel_rfl))⟩
 f26:=⟨Tryz.f138.name,by decide,Tryz.func138.trans (congrArg AI (by kernel_rfl))⟩
 f27:=⟨Tryz.f139.name,by decide,Tryz.func139.trans (congrArg AI (by kernel_rfl))⟩
 f28:=Tryz.func123.trans (congrArg AI (by kernel_rfl))
 f29:=Tryz.func124.trans (congrArg AI (by kernel_rfl))
 f46:=⟨Tryz.f194.name,by decide,Tryz.func194.trans (congrArg AI (by kernel_rfl))⟩
 f47:=Tryz.func195.trans (congrArg AI (by kernel_rfl))
 f48:=Tryz.func196.trans (congrArg AI (by kernel_rfl))
 f49:=⟨Tryz.f197.name,by decide,Tryz.func197.trans (congrArg AI (by kernel_rfl))⟩
 f50:=⟨Tryz.f198.name,by decide,Tryz.func198.trans (congrArg AI (by kernel_rfl))⟩
 f57:=⟨Tryz.f230.name,by decide,Tryz.func230.trans (congrArg AI (by kernel_rfl))⟩
 t0:=QS
 a0:=Tryz.isAgg0
 z0:=Tryz.sizeOf0
 v0:=Ua
 t3:=ID
 a3:=OT
 z3:=OE
 v3:=OZ
 t4:=JU
 a4:=Qz
 z4:=Qi
 v4:=O0
 t5:=OL
 a5:=Ub
 z5:=QM
 v5:=O1
 t9:=Jb
 a9:=QA
 z9:=Qj
 v9:=O2
 t22:=JP
 a22:=Tryz.isAgg34
 z22:=Tryz.sizeOf34
 v22:=Tryz.zeroValue34
 t25:=Tryz.underlying99
 a25:=Tryz.isAgg99
 z25:=Tryz.sizeOf99
 v25:=Tryz.zeroValue99
 t39:=OM
 a39:=QY
 z39:=QH
 v39:=O7
 t45:=Tryz.underlying173
 a45:=Tryz.isAgg173
 z45:=Tryz.sizeOf173
 v45:=Tryz.zeroValue173
 t46:=Tryz.underlying174
 a46:=Tryz.isAgg174
 z46:=Tryz.sizeOf174
 v46:=Tryz.zeroValue174
 t50:=Tryz.underlying153
 a50:=Tryz.isAgg153
 z50:=Tryz.sizeOf153
 v50:=Tryz.zeroValue153
 t53:=ON
 a53:=QZ
 z53:=QI
 v53:=O8
 t55:=OO
 a55:=Tryz.isAgg167
 z55:=Tryz.sizeOf167
 v55:=QB
 t66:=Tryz.underlying225
 a66:=Tryz.isAgg225
 z66:=Tryz.sizeOf225
 v66:=Tryz.zeroValue225
 t70:=Tryz.underlying229
 a70:=Tryz.isAgg229
 z70:=Tryz.sizeOf229
 v70:=Tryz.zeroValue229
 t76:=Tryz.underlying262
 a76:=Tryz.isAgg262
 z76:=Tryz.sizeOf262
 v76:=Tryz.zeroValue262
 t77:=Tryz.underlying263
 a77:=Tryz.isAgg263
 z77:=Tryz.sizeOf263
 v77:=Tryz.zeroValue263 }
end Go.Proofs
namespace Go.Proofs.YtfidhgjmifendaaGreatDoor
open Go.RowKit
def ru(rs:List bE)(v:Value):Prop:=∀w,mR w v rs->Calls AS 73 #[v] w λe w'=>∃(g c:Nat) (ord:List Nat),e=AT (J (AI ⟨g,0,be⟩) rs.length c)/\gL rs ord/\(∀j,j<rs.length->w'.cell? ⟨g,j,be⟩=AI (U O (ord.getD j 0:Nat)))/\rs.length<=c/\w.heap.size<=g/\Below w.heap.size w w'
theorem KP{rs:List bE}{p:Nat}(hp:p<rs.length)(t:Int):(eW rs).set (p*6+5) (U O t)=eW (rs.set p ⟨(rs.getD p dr).m,t⟩):=by
 apply List.ext_getElem?;intro k;by_cases hk:k<rs.length*6
 .have h2:=ma (rs.set p ⟨(rs.getD p dr).m,t⟩) (k/6) (by rw[IM];omega) (k%6) (by omega)
  rw[show k/6*6+k%6=k by omega] at h2;have h4:=ma rs (k/6) (by omega) (k%6) (by omega);rw[show k/6*6+k%6=k by omega] at h4;rw[h2];by_cases qM:k/6=p
  .rw[show(rs.set p ⟨(rs.getD p dr).m,t⟩).getD (k/6) dr=⟨(rs.getD p dr).m,t⟩ by rw[qM];simp[Ip,Of hp]]
   rw[qM] at h4;by_cases h5:k%6=5
   .rw[show p*6+5=k by omega,Of (by rw[ea];omega),h5]
    rfl
   .rw[JQ (by omega),h4]
    have h6:k%6<5:=by omega
    generalize k%6=q at h6
    match q,h6 with
    |0,_=>rfl
    |1,_=>rfl
    |2,_=>rfl
    |3,_=>rfl
    |4,_=>rfl
  .rw[show(rs.set p ⟨(rs.getD p dr).m,t⟩).getD (k/6) dr=rs.getD (k/6) dr by simp[Ip,JQ (Ne.symm qM)],JQ (by omega),h4]
 .rw[I1 (by rw[IM,ea];omega),I1 (by rw[ea,IM];omega)]
theorem EZ{n a b:Int}(h:within n a b=true):a<=n/\n<=b:=by simpa[within] using h
theorem E5{base:Nat}{w:World}{v:Value}{L:List Mem}{m:Mem}(h:w.ownsRow base 50 5 v (L.length+1) (fl L++m.cs)):Own base w v (L++[m]):=by
 have e:fl (L++[m])=fl L++m.cs:=by rw[cK,bb];simp[fl]
 show w.ownsRow base 50 5 v (L++[m]).length (fl (L++[m]));rw[e,List.length_append];exact h
theorem Own.slice{base:Nat}{w:World}{v:Value}{ms:List Mem}(h:Own base w v ms):∃a c,v=J a ms.length c:=by
 rcases h.2 with⟨rfl,h0⟩|⟨g,c,cur,rfl,_⟩
 .exact⟨be,0,by rw[h0]⟩
 .exact⟨_,c,rfl⟩
theorem E6(rs:List bE)(v:Value)(most times:Int)(w:World)(hv:mR w v rs)(h0:dZ rs=0)(hm:within most 1 20=true)(ht:within times 1 100=true)(WJ:0<rs.length)(hT:ru rs v) :
 Calls AS 46 #[v,U O most,U O times] w λe w'=>∃(v1 v2:Value) (ord:List Nat),e=AT (Ik #[v1,v2,U O 0])/\gL rs ord/\Own w.heap.size w' v1 (gM rs ord (min most.toNat rs.length))/\cL w.heap.size w' v2 ((bump rs ord (min most.toNat rs.length)).filter (ek times))/\Below w.heap.size w w':=by
 obtain⟨j0,P4,xL,SQ,VL⟩:=info_parts Tryz.oU;have HV:Hid (mR w v rs):=hv;have HTT:Hid (ru rs v):=hT;have oP:1<=most/\most<=20:=by simp[within] at hm;omega
 obtain⟨oP,hm2⟩:=oP;obtain⟨Bv,_,zS,_⟩:=fb h0;have Nc:Hid (hJ rs):=zS;have j7:=λ(w:World) (h:mR w v rs)=>gh rs v w h;rw[h0] at j7;clear h0 hT zS;obtain⟨pa,ca,rfl,_,_⟩:=hv;generalize hN:rs.length=n at *;have HN:Hid _:=hN;clear hN;have sj:Below w.heap.size w (w.alloc (By #[U O times] 3)):=(Ib _ _).alloc (Ic _) _;go_enter Tryz.func46,Tryz.ntmps46;go_wp2_with fail;refine(j7 _ (HV.out.below sj)).mono ?_;rintro e w1 ⟨rfl,aB⟩;have c1:w1.cell? ⟨w.heap.size,0,be⟩=AI (U O times):=by
  rw[aB.cell (p:=⟨w.heap.size,0,be⟩) (by simp)];exact cU rfl
 have ba:Hid _:=sj.trans (aB.mono (by simp));have da:w.heap.size<w1.heap.size:=by have:=aB.size;simp at this;omega
 clear aB sj j7;go_wp2_with (go_at_call 54;refine(cB _ _ _ _).mono ?_;rintro e w' ⟨rfl,rfl⟩;first|rw[hm]|rw[ht]);refine(gi rs _ _ (HV.out.below ba.out) (by rw[HN.out];omega)).mono ?_;rintro e w3 ⟨v3,rfl,lE,bX⟩;have ec:Hid (cL _ _ _ _):=lE.base da;have c3:w3.cell? ⟨w.heap.size,0,be⟩=AI (U O times):=by
  rw[bX.cell (p:=⟨w.heap.size,0,be⟩) (by simp only;omega)];exact c1
 have cJ:Hid _:=ba.out.trans (bX.mono ba.out.size);have qL:w.heap.size<w3.heap.size:=by have:=bX.size;omega
 clear bX lE c1;go_wp2_with fail;refine(HTT.out _ (HV.out.below cJ.out)).mono ?_;rintro e w4 ⟨gt,ct,ord,rfl,WK,Hz,hcc,alQ,eU⟩;have vD:Hid _:=WK;have SS:Hid _:=Hz;have fO:Hid (Below w.heap.size w w4):=cJ.out.trans (eU.mono cJ.out.size);have C4:Hid (w4.cell? ⟨w.heap.size,0,be⟩=AI (U O times)):=by
  have h:=eU.cell (p:=⟨w.heap.size,0,be⟩) (by simp only;omega);exact h.trans c3
 have nX:Hid (cL _ _ _ _):=ec.out.below eU;have Sb:Hid (∀k,v3.ownBlock=AI k->k<w3.heap.size):=λk hk=>(ec.out.lt k hk).2;have mH:=eU.size;clear eU c3 ec Hz WK;obtain⟨g,c,zz⟩:∃g c,v3=J (AI ⟨g,0,be⟩) n c:=by
  rcases nX.out.2 with⟨_,h0⟩|⟨g,c,cur,h,_⟩
  .have:=HN.out;omega
  .exact⟨g,c,by rw[h,HN.out]⟩
 subst zz;obtain⟨du,hgh⟩:=nX.out.lt g rfl;have lF:=Sb.out g rfl;rw[HN.out] at hcc ⊢;have HGT:Hid _:=Iy w4 ⟨gt,0,be⟩ (SS.out 0 (by rw[HN.out];exact WJ));obtain⟨q,hq⟩:∃q:Nat,q=min most.toNat n:=⟨_,rfl⟩;have aeK:min most (n:Int)=(q:Int):=by omega
 have EF:q<=n:=by omega
 go_wp2_with fail;go_loopw [11,37] (λo i wr=>∃k:Nat,k<=q/\i=U O k/\Hid (Own w4.heap.size wr o (gM rs ord k))/\Hid (cL (w.heap.size+1) wr (J (AI ⟨g,0,be⟩) n c) (bump rs ord k))/\Hid (wr.cell? ⟨w.heap.size,0,be⟩=AI (U O times))/\Hid (∀j,j<rs.length->wr.cell? ⟨gt,j,be⟩=AI (U O (ord.getD j 0:Nat)))/\Hid (Below w.heap.size w wr)/\w4.heap.size<=wr.heap.size) (λ_ i _=>q-(intOf i).toNat)
 case atStart=>exact⟨0,IP _,rfl,(by rw[BQ];exact b9 _ _),(by rw[EB];exact nX.out),C4,SS,fO,Ic _⟩
 case round=>
  obtain⟨k,hk,rfl,E7,WL,HCC,SU,HB,cI⟩:=hrel;by_cases aX:k<q
  .have eV:k<rs.length:=by rw[HN.out];omega
   have oc:=SU.out k eV;have cH:ord.getD k 0<n:=by have:=vD.out.lt eV;rwa [HN.out] at this
   have aR:(bump rs ord k).length=n:=by rw[tM];exact HN.out
   obtain⟨d0,d1,d2,d3,d4,d5⟩:=qi WL.out (ord.getD k 0) (by rw[aR];exact cH);rw[oV vD.out eV] at d0 d1 d2 d3 d4 d5;have hRO:wr.ownsRow (w.heap.size+1) 111 6 (J (AI ⟨g,0,be⟩) n c) n (eW (bump rs ord k)):=by
    have h2:wr.ownsRow (w.heap.size+1) 111 6 (J (AI ⟨g,0,be⟩) n c) (bump rs ord k).length (eW (bump rs ord k)):=WL.out;rw[aR] at h2;exact h2
   have rI:∀o,wr.frozen? ⟨g,o,be⟩=false:=λo=>I7 hRO o;have zS:=Nc.out _ (vD.out.lt eV);obtain⟨ht3,ht4⟩:=EZ zS;have SV:Hid (cL (w.heap.size+1) (wr.setCell ⟨g,ord.getD k 0*6+5,be⟩ (U O ((rs.getD (ord.getD k 0) dr).told+1))) (J (AI ⟨g,0,be⟩) n c) (bump rs ord (k+1))):=by
    have h3:=(II hRO (ord.getD k 0*6+5) (U O ((rs.getD (ord.getD k 0) dr).told+1))).1;rw[KP (by rw[aR];exact cH),oV vD.out eV] at h3;show World.ownsRow _ _ _ _ _ (bump rs ord (k+1)).length _;rw[tM,HN.out,EC (by rw[vD.out.len];exact eV),eQ,oV vD.out eV];exact h3
   have HTS:Hid (gM rs ord (k+1)=gM rs ord k++[(rs.getD (ord.getD k 0) dr).m]):=BR (by rw[vD.out.len];exact eV);have htl:(gM rs ord k).length<=20:=by unfold gM;rw[List.length_map,IA];omega
   obtain⟨oa,ocp,hvo⟩:=E7.out.slice;subst hvo;clear hRO zS;generalize ord.getD k 0=P6 at *;generalize hrk:rs.getD P6 dr=rk at *;clear hrk;obtain⟨⟨nm,st,lf,ad,sv⟩,td⟩:=rk;simp only at d0 d1 d2 d3 d4 d5 ht3 ht4 SV HTS;simp only[IC] at d0 d1 d2 d3 d4 d5;generalize gM rs ord k=TL at *;have HOT:Hid (∀ob,((wr.setCell ⟨g,P6*6+5,be⟩ (U O (td+1))).alloc ob).ownsRow w4.heap.size 50 5 (J oa TL.length ocp) TL.length (fl TL)):=λob=>
    Own.below (ms:=TL) (Ii E7.out (a:=⟨g,P6*6+5,be⟩) hgh _) ((Ib _ _).alloc (Ic _) ob)
   have Mg:Hid (∀j,(J oa TL.length ocp).ownBlock=AI j->w4.heap.size<=j):=λj hj=>(E7.out.lt j hj).1;clear E7 WL;go_wp2_with (at_builtin;refine wpList_append_own _ rfl _ _ 34 rfl w4.heap.size 50 j0 _ 5 48 JP P4 xL SQ VL rfl (by omega) _ TL.length (fl TL) rfl ?hown ⟨wr.heap.size,0,be⟩ 1 1 (Mem.mk nm st lf ad sv).cs rfl rfl ?hnews (dh _) ?h63 ?hbytes ?hbase ?_)
   case hown=>exact HOT.out _
   case hnews=>(intro j u hj;rw[Addr.add_lit];exact(cU (by simp)).trans (by simpa[Mem.cs] using hj))
   case h63=>(unfold maxLen;omega)
   case hbytes=>omega
   case hbase=>(simp;omega)
   intro v' w5 r1 r2 r3;have jD:Below w4.heap.size (wr.setCell ⟨g,P6*6+5,be⟩ (U O (td+1))) w5:=
    ((Ib w4.heap.size (wr.setCell ⟨g,P6*6+5,be⟩ (U O (td+1)))).alloc (by simpa using cI) _).grown r2 (by simp;omega) (λj hj=>Mg.out j hj)
   have R1:Hid (Own _ _ _ _):=E5 r1;have Mp:=(jD.block g hgh).symm;have R2:Hid (cL (w.heap.size+1) w5 (J (AI ⟨g,0,be⟩) n c) (bump rs ord (k+1))):=by
    obtain⟨h1,h2⟩:=SV.out;refine⟨h1,?_⟩;rcases h2 with h2|⟨g',c',cur,hv,eD,hg,hr⟩
    .exact .inl h2
    .have VM:g'=g:=by simp only[I0,It,Addr.mk.injEq,and_true] at hv;exact hv.1.symm
     subst VM;exact .inr ⟨g',c',cur,hv,eD,by rw[<- Mp];exact hg,hr⟩
   have R3:Hid (w5.cell? ⟨w.heap.size,0,be⟩=AI (U O times)):=by
    have h1:=jD.cell (p:=⟨w.heap.size,0,be⟩) (by simp only;omega);have h2:(wr.setCell ⟨g,P6*6+5,be⟩ (U O (td+1))).cell? ⟨w.heap.size,0,be⟩=wr.cell? ⟨w.heap.size,0,be⟩:=JO _ _ _ _ (by simp only;omega);exact h1.trans (h2.trans HCC.out)
   have R4:Hid (∀j,j<rs.length->w5.cell? ⟨gt,j,be⟩=AI (U O (ord.getD j 0:Nat))):=λj hj=>by
    have h1:=jD.cell (p:=⟨gt,j,be⟩) HGT.out;have h2:(wr.setCell ⟨g,P6*6+5,be⟩ (U O (td+1))).cell? ⟨gt,j,be⟩=wr.cell? ⟨gt,j,be⟩:=JO _ _ _ _ (by simp only;omega);exact h1.trans (h2.trans (SU.out j hj))
   have R5:Hid _:=(HB.out.setCell (p:=⟨g,P6*6+5,be⟩) (by simp only;omega) _).trans (jD.mono (by omega));have WA:w4.heap.size<=w5.heap.size:=by have:=jD.size;simp at this;omega
   clear r1 r2 r3 jD Mp SV HOT Mg d0 d1 d2 d3 d4 d5 oc;go_wp2_with fail;exact⟨⟨k+1,by omega,by go_num,(by rw[HTS.out];exact R1.out),R2.out,R3.out,R4.out,R5.out,WA⟩,by simp[intOf];omega⟩
  .have hkq:k=q:=by omega
   subst hkq;have aR:(bump rs ord k).length=n:=by rw[tM];exact HN.out
   clear SU;go_wp2_with fail;refine(tL (bump rs ord k) n g c w.heap.size (w.heap.size+1) times _ aR (by omega) WL.out (by omega) (by omega) HCC.out).mono ?_;rintro e w6 ⟨m,rfl,WB,sy,hf6⟩;have S1:Hid (Own w.heap.size w6 u11 (gM rs ord k)):=by
    obtain⟨h1,h2⟩:=E7.out;refine⟨h1,?_⟩;rcases h2 with h2|⟨g',c',cur,hv,eD,hg,hr⟩
    .exact .inl h2
    .exact .inr ⟨g',c',cur,hv,by omega,by rw[hf6.2 g' (BY.1 hg).1 (by omega)];exact hg,hr⟩
   have S2:Hid (cL w.heap.size w6 (J (AI ⟨g,0,be⟩) m c) ((bump rs ord k).filter (ek times))):=WB.base (by omega);have S3:Hid _:=HB.out.trans (sy.mono (by omega));clear WB sy hf6 E7 WL HCC;go_wp2_with fail;go_ret3
   exact⟨_,_,ord,rfl,vD.out,by rw[<- hq];exact S1.out,by rw[<- hq];exact S2.out,S3.out⟩
end Go.Proofs.YtfidhgjmifendaaGreatDoor
namespace Go.Proofs
open Go.Shelf
def Tryz.wJ:Go.Shelf.Ren:=⟨fun|6=>127|15=>71|14=>192|28=>123|29=>124|20=>222|21=>223|22=>224|23=>225|24=>226|25=>227|26=>228|27=>229|46=>256|47=>195|48=>196|49=>257|50=>258|57=>283|n=>n,fun|22=>131|24=>3|25=>51|3=>3|39=>129|0=>0|53=>165|55=>167|4=>4|46=>174|45=>173|50=>153|5=>5|9=>9|66=>225|70=>229|76=>262|77=>263|n=>n,fun|n=>n⟩
theorem Tryz.P7:Go.Proofs.SlLaysF.n6 AS Tryz.wJ:={
 mixed:=by kernel_rfl
 f6:=⟨Tryz.f127.name,by decide,Tryz.func127.trans (congrArg AI (by kernel_rfl))⟩
 f14:=⟨Tryz.f192.name,by decide,Tryz.func192.trans (congrArg AI (by kernel_rfl))⟩
 f15:=Tryz.func71.trans (congrArg AI (by kernel_rfl))
 f20:=⟨Tryz.f222.name,by decide,Tryz.func222.trans (congrArg AI (by kernel_rfl))⟩
 f21:=⟨Tryz.f223.name,by decide,Tryz.func223.trans (congrArg AI (by kernel_rfl))⟩
 f22:=⟨Tryz.f224.name,by decide,Tryz.func224.trans (congrArg AI (by kernel_rfl))⟩
 f23:=⟨Tryz.f225.name,by decide,Tryz.func225.trans (congrArg AI (by kernel_rfl))⟩
 f24:=⟨Tryz.f226.name,by decide,Tryz.func226.trans (congrArg AI (by kernel_rfl))⟩
 f25:=⟨Tryz.f227.name,by decide,Tryz.func227.trans (congrArg AI (by kernel_rfl))⟩
 f26:=⟨Tryz.f228.name,by decide,Tryz.func228.trans (congrArg AI (by kernel_rfl))⟩
 f27:=⟨Tryz.f229.name,by decide,Tryz.func229.trans (congrArg AI (by kernel_rfl))⟩
 f28:=Tryz.func123.trans (congrArg AI (by kernel_rfl))
 f29:=Tryz.func124.trans (congrArg AI (by kernel_rfl))
 f46:=⟨Tryz.f256.name,by decide,Tryz.func256.trans (congrArg AI (by kernel_rfl))⟩
 f47:=Tryz.func195.trans (congrArg AI (by kernel_rfl))
 f48:=Tryz.func196.trans (congrArg AI (by kernel_rfl))
 f49:=⟨Tryz.f257.name,by decide,Tryz.func257.trans (congrArg AI (by kernel_rfl))⟩
 f50:=⟨Tryz.f258.name,by decide,Tryz.func258.trans (congrArg AI (by kernel_rfl))⟩
 f57:=⟨Tryz.f283.name,by decide,Tryz.func283.trans (congrArg AI (by kernel_rfl))⟩
 t0:=QS
 a0:=Tryz.isAgg0
 z0:=Tryz.sizeOf0
 v0:=Ua
 t3:=ID
 a3:=OT
 z3:=OE
 v3:=OZ
 t4:=JU
 a4:=Qz
 z4:=Qi
 v4:=O0
 t5:=OL
 a5:=Ub
 z5:=QM
 v5:=O1
 t9:=Jb
 a9:=QA
 z9:=Qj
 v9:=O2
 t22:=Tryz.underlying131
 a22:=Tryz.isAgg131
 z22:=Tryz.sizeOf131
 v22:=Tryz.zeroValue131
 a24:=OT
 z24:=OE
 t25:=Tryz.underlying51
 a25:=Tryz.isAgg51
 z25:=Tryz.sizeOf51
 v25:=Tryz.zeroValue51
 t39:=OM
 a39:=QY
 z39:=QH
 v39:=O7
 t45:=Tryz.underlying173
 a45:=Tryz.isAgg173
 z45:=Tryz.sizeOf173
 v45:=Tryz.zeroValue173
 t46:=Tryz.underlying174
 a46:=Tryz.isAgg174
 z46:=Tryz.sizeOf174
 v46:=Tryz.zeroValue174
 t50:=Tryz.underlying153
 a50:=Tryz.isAgg153
 z50:=Tryz.sizeOf153
 v50:=Tryz.zeroValue153
 t53:=ON
 a53:=QZ
 z53:=QI
 v53:=O8
 t55:=OO
 a55:=Tryz.isAgg167
 z55:=Tryz.sizeOf167
 v55:=QB
 t66:=Tryz.underlying225
 a66:=Tryz.isAgg225
 z66:=Tryz.sizeOf225
 v66:=Tryz.zeroValue225
 t70:=Tryz.underlying229
 a70:=Tryz.isAgg229
 z70:=Tryz.sizeOf229
 v70:=Tryz.zeroValue229
 t76:=Tryz.underlying262
 a76:=Tryz.isAgg262
 z76:=Tryz.sizeOf262
 v76:=Tryz.zeroValue262
 t77:=Tryz.underlying263
 a77:=Tryz.isAgg263
 z77:=Tryz.sizeOf263
 v77:=Tryz.zeroValue263 }
end Go.Proofs
namespace Go.Proofs.YtfidhgjmifendaaGreatDoor
open Go.RowKit Go.Sort Go.Shelf Go.Lib
theorem DD(rs:List bE)(i k:Nat):Vl rs i k<0↔(rs.getD i dr).told<(rs.getD k dr).told\/((rs.getD i dr).told=(rs.getD k dr).told/\k<i):=by
 unfold Vl M3 su;generalize(rs.getD i dr).told=a;generalize(rs.getD k dr).told=b
 repeat' split
 all_goals omega
def P8(rs:List bE)(m:Nat)(x y:Fin (m+1)):Int:=Vl rs x.val y.val
theorem ltF(rs:List bE)(m:Nat)(x y:Fin (m+1)):ltOf (P8 rs m) x y=true↔(rs.getD x.val dr).told<(rs.getD y.val dr).told\/((rs.getD x.val dr).told=(rs.getD y.val dr).told/\y.val<x.val):=by
 unfold ltOf P8;rw[decide_eq_true_iff,DD]
theorem rv(rs:List bE)(m:Nat)(x y:Fin (m+1)):ltOf (P8 rs m) x y=false↔¬ ((rs.getD x.val dr).told<(rs.getD y.val dr).told\/((rs.getD x.val dr).told=(rs.getD y.val dr).told/\y.val<x.val)):=by
 rw[<- ltF,Bool.not_eq_true]
theorem aeN(rs:List bE)(m:Nat):SWO (ltOf (P8 rs m)) where
 irrefl x:=by rw[rv];omega
 trans x y z h1 h2:=by rw[ltF] at *;omega
 ntrans x y z h1 h2:=by rw[rv] at *;omega
def ry(m:Nat)(x:Fin (m+1)):Value:=U O (x.val:Nat)
def lx(m:Nat):Array (Fin (m+1)):=Array.ofFn (λx=>x)
theorem gP(m:Nat):(lx m).size=m+1:=by simp[lx]
theorem zT(m j:Nat)(hj:j<m+1):(lx m)[j]! = ⟨j,hj⟩:=by
 rw[getElem!_pos _ j (by rw[gP];exact hj)];simp[lx]
theorem E8(m:Nat):(lx m).toList.map (·.val)=Jx (m+1):=by
 apply List.ext_getElem
 .simp[lx]
 .intro j h1 h2
  rw[List.getElem_map,List.getElem_range,Array.getElem_toList];simp only[lx,Array.getElem_ofFn]
theorem Cb(W:World)(o:Obj):(W.alloc o).drew=grow (W.drewN 1) #[o]:=by
 simp only[grow,World.alloc,World.drew,World.drewN,Array.push_eq_append]
theorem aeO(rs:List bE)(m lb b off ca g:Nat)(w:World)(hn:rs.length=m+1)(hr:mS w b off rs)(hl:w.cell? ⟨lb,0,be⟩=AI (J (AI ⟨b,off,be⟩) (m+1) ca))(h1:lb≠g)(h2:b≠g)(hb:b<w.heap.size) :
 CmpLays1 AS 128 #[Ie (AI ⟨lb,0,be⟩)] (ry m) (P8 rs m) g 0 (lx m).size w:=by
 intro q os dk hs x y;have kA:=Iy w _ hl;have c1:=(cell?_sortWorld_other (ry m) w g 0 q dk os ⟨lb,0,be⟩ h1 kA).trans hl;have c2:=(cell?_sortWorld_other (ry m) w g 0 q dk os ⟨b,off+x.val*6+5,be⟩ h2 hb).trans (hr x.val (by rw[hn];exact x.isLt)).2.2.2.2.2;have c3:=(cell?_sortWorld_other (ry m) w g 0 q dk os ⟨b,off+y.val*6+5,be⟩ h2 hb).trans (hr y.val (by rw[hn];exact y.isLt)).2.2.2.2.2;refine(Ez _ _ lb b off (m+1) ca x.val y.val _ c1 x.isLt y.isLt c2 c3).mono ?_;rintro e w' ⟨rfl,rfl⟩;exact⟨rfl,1,_,Cb _ _⟩
theorem KQ{rs:List bE}{m:Nat}{d':Array (Fin (m+1))}(hn:rs.length=m+1)(hp:PermIn 0 (lx m).size (lx m) d')(hs:SortedIn (ltOf (P8 rs m)) 0 (lx m).size d'):gL rs (d'.toList.map (·.val)):=by
 obtain⟨cI,_,P9⟩:=hp;rw[Array.extract_size,show d'.extract 0 (lx m).size=d' by rw[<- cI,Array.extract_size]] at P9;have hP:(d'.toList.map (·.val)).Perm (Jx rs.length):=by
  rw[hn,<- E8];exact P9.map _
 have hlen:(d'.toList.map (·.val)).length=m+1:=by rw[hP.length_eq,hn];simp
 have Mr:=hP.nodup_iff.2 List.nodup_range;refine⟨hP,λi j iS hj=>?_⟩;have hds:d'.size=m+1:=by rw[cI,gP]
 have EA:j<d'.size:=by rw[hds];omega
 have hi':i<d'.size:=by omega
 have e1:(d'.toList.map (·.val)).getD i 0=d'[i].val:=by rw[mc (by omega)];simp
 have e2:(d'.toList.map (·.val)).getD j 0=d'[j].val:=by rw[mc hj];simp
 have aQ:=List.pairwise_iff_getElem.1 Mr i j (by omega) hj iS;simp only[List.getElem_map,Array.getElem_toList] at aQ;have h:=hs i j (by omega) iS (by rw[gP];omega);rw[getElem!_pos d' j EA,getElem!_pos d' i hi',rv] at h;rw[e1,e2,DD];omega
abbrev zU(k:Nat):List Value:=(Jx k).map (λj=>Value.int O (j:Nat))
theorem E9(k:Nat):zU (k+1)=zU k++[U O (k:Nat)]:=by simp[zU,List.range_succ]
theorem sB{m:Nat}{B:Nat}{w:World}{g off n:Nat}{d:Array (Fin (m+1))}{os:Array Obj}(hg:B<=g)(hB:B<=w.heap.size):Below B w (sortWorld (ry m) w g off n d os):=by
 refine⟨rfl,rfl,rfl,by simp[sortWorld,putRow,mapBlock,J0,grow],λk hk=>?_⟩;unfold sortWorld;rw[Go.Sort.heap_grow_old _ _ (by simp[putRow,mapBlock,J0];omega)]
 have:g≠k:=by omega
 simp[putRow,mapBlock,J0,OU,this]
theorem Cc(rs:List bE)(v:Value)(m:Nat)(hn:rs.length=m+1)(zx:m<1000):ru rs v:=by
 intro w hv;obtain⟨i0,fV,di,il,gT⟩:=info_parts Tryz.WM;obtain⟨pa,ca,rfl,_,ha⟩:=hv;obtain⟨b,off,RW,kA,hr⟩:∃b off,pa=AI ⟨b,off,be⟩/\b<w.heap.size/\mS w b off rs:=by
  rcases ha with h|h
  .rw[h] at hn;simp at hn
  .exact h
 subst RW;have HR:Hid (mS w b off rs):=hr;have HN:Hid _:=hn;rw[hn];clear ha hr hn;have eg:=enters_of Tryz.func128 (by kernel_rfl) rfl;have HEG:Hid _:=eg;clear eg;go_enter Tryz.func73,Tryz.ntmps73;go_wp2_with fail;go_loopw [3,7] (λo i wr=>∃k:Nat,k<=m+1/\i=U O k/\Hid (wr.ownsRow (w.heap.size+1) 3 1 o k (zU k))/\Hid (Below (w.heap.size+1) (w.alloc (By #[J (AI ⟨b,off,be⟩) (m+1) ca] 35)) wr)) (λ_ i _=>m+1-(intOf i).toNat)
 case atStart=>exact⟨0,IP _,rfl,World.ownsRow_nil _ _ _ _,Ib _ _⟩
 case round=>
  obtain⟨k,hk,rfl,HO,HB⟩:=hrel;have cI:w.heap.size+1<=wr.heap.size:=by have:=HB.out.size;simpa using this
  by_cases aX:k<m+1
  .have iq:Hid (∀ob,(wr.alloc ob).ownsRow (w.heap.size+1) 3 1 u3 k (zU k)):=λob=>by
    obtain⟨h1,h2⟩:=HO.out;refine⟨h1,?_⟩;rcases h2 with h2|⟨g,c,cur,hv,eD,hg,hr⟩
    .exact .inl h2
    .exact .inr ⟨g,c,cur,hv,eD,by rw[((Ib wr.heap.size wr).alloc (Ic _) ob).block g (BY.1 hg).1];exact hg,hr⟩
   have Mg:Hid (∀j,u3.ownBlock=AI j->w.heap.size+1<=j):=λj hj=>(OK HO.out j hj).1;clear HO;go_wp2_with (at_builtin;refine wpList_append_own _ rfl _ _ 131 rfl (w.heap.size+1) 3 i0 _ 1 8 Tryz.underlying131 fV di il gT rfl (by omega) _ k (zU k) rfl ?hown ⟨wr.heap.size,0,be⟩ 1 1 [U O k] rfl rfl ?hnews (by simp[Value.oneCell']) ?h63 ?hbytes ?hbase ?_)
   case hown=>exact iq.out _
   case hnews=>(intro j u hj;rw[Addr.add_lit];exact(cU rfl).trans (by simpa using hj))
   case h63=>(unfold maxLen;omega)
   case hbytes=>omega
   case hbase=>(simp;omega)
   intro v' w2 r1 r2 r3;have R1:Hid (w2.ownsRow (w.heap.size+1) 3 1 v' (k+1) (zU (k+1))):=by rw[E9];exact r1
   have R2:Hid (Below (w.heap.size+1) (w.alloc (By #[J (AI ⟨b,off,be⟩) (m+1) ca] 35)) w2):=
    (HB.out.alloc cI _).grown r2 (by simp;omega) (λj hj=>Mg.out j hj)
   clear r1 r2 r3;go_wp2_with fail;exact⟨⟨k+1,by omega,by go_num,R1.out,R2.out⟩,by simp[intOf];omega⟩
  .have eV:k=m+1:=by omega
   subst eV;obtain⟨g,c,hu3,eD,dR,fW,rI⟩:∃g c,u3=J (AI ⟨g,0,be⟩) (m+1) c/\w.heap.size+1<=g/\m+1<=c/\(∀j,j<m+1->wr.cell? ⟨g,j,be⟩=AI (U O (j:Nat)))/\(∀j,wr.frozen? ⟨g,j,be⟩=false):=by
    have hO:=HO.out;rcases HO.out.2 with⟨_,h0⟩|⟨g,c,cur,hv,eD,hg,fP,dR,cf,bj⟩
    .omega
    .subst hv
     refine⟨g,c,rfl,eD,fP,λj hj=>?_,λj=>I7 hO j⟩;rw[Oy hO j (by omega)];simp[zU,hj]
   subst hu3;have vh:=Iy wr ⟨g,0,be⟩ (fW 0 (by omega));have aeQ:wr.cell? ⟨w.heap.size,0,be⟩=AI (J (AI ⟨b,off,be⟩) (m+1) ca):=by
    rw[HB.out.cell (p:=⟨w.heap.size,0,be⟩) (by simp only;omega)];exact cU rfl
   have cR:=(HR.out.below ((Ib w.heap.size w).alloc (Ic _) _) kA).below HB.out (by omega);have qp:=Any.slices_SortFunc Tryz.P7 (ry m) (λ_=>rfl) (P8 rs m) (aeN rs m) 128 #[Ie (AI ⟨w.heap.size,0,be⟩)] g 0 c (lx m) wr HEG.out (aeO rs m w.heap.size b off ca g wr HN.out cR aeQ (by omega) (by omega) (by omega)) (λj hj=>by
    rw[gP] at hj;rw[zT m j hj,IC];exact⟨fW j hj,rI j⟩) vh (by rw[gP];omega)
   have WN:Calls AS 127 #[J (AI ⟨g,0,be⟩) (m+1) c,.func (.func 128) #[] #[Ie (AI ⟨w.heap.size,0,be⟩)]] wr λe w'=>e=AT (Ik #[])/\∃d' n os,PermIn 0 (lx m).size (lx m) d'/\SortedIn (ltOf (P8 rs m)) 0 (lx m).size d'/\w'=sortWorld (ry m) wr g 0 n d' os:=by
    have h:=qp;rw[show J (AI ⟨g,0,be⟩) (lx m).size c=J (AI ⟨g,0,be⟩) (m+1) c by rw[gP]] at h;exact h
   have HHH:Hid (Holds (ry m) wr g 0 (lx m)):=λj hj=>by
    rw[gP] at hj;rw[zT m j hj,IC];exact⟨fW j hj,rI j⟩
   clear qp fW rI cR HO;go_wp2_with fail;refine WN.mono ?_;rintro e w2 ⟨rfl,d',nd,os,hp,hs,tl⟩;have vD:Hid _:=KQ HN.out hp hs;have hds:d'.size=m+1:=by rw[hp.1,gP]
   have SS:Hid (∀j,j<m+1->w2.cell? ⟨g,j,be⟩=AI (U O ((d'.toList.map (·.val)).getD j 0:Nat))):=λj hj=>by
    have h1:=cell?_putRow (ry m) (J0 wr nd) g 0 (lx m) d' (show Holds (ry m) (J0 wr nd) g 0 (lx m) from HHH.out) hp.1 j (by omega);have h2:w2.cell? ⟨g,0+j,be⟩=(putRow (ry m) (J0 wr nd) g 0 d').cell? ⟨g,0+j,be⟩:=by
     rw[tl];exact cell?_grow _ _ _ (by
      have h3:=Iy (putRow (ry m) (J0 wr nd) g 0 d') ⟨g,0+j,be⟩ h1;exact h3)
    rw[IC] at h1 h2;rw[h2,h1,getElem!_pos d' j (by omega)];simp[ry,Ip,hds,hj]
   have Mn:Hid (Below w.heap.size w w2):=by
    rw[tl];exact(((Ib w.heap.size w).alloc (Ic _) _).trans (HB.out.mono (Nat.le_succ _))).trans (sB (by omega) (by omega))
   clear HHH hp hs tl;go_wp2_with fail;go_ret;exact⟨g,c,d'.toList.map (·.val),rfl,vD.out,SS.out,dR,by omega,Mn.out⟩
end Go.Proofs.YtfidhgjmifendaaGreatDoor
namespace Go.Proofs.YtfidhgjmifendaaGreatDoor
open Go.RowKit Go.Sort Go.Lib
def SX(a b:Mem):Int:=bR a.name b.name
theorem Fa(x y:Mem)(W:World):aI 48 #[Ij #[Y x.name,U O x.state,U O x.aJ,U O x.addr,Ia x.server],Ij #[Y y.name,U O y.state,U O y.aJ,U O y.addr,Ia y.server]] W λe w'=>e=AT (U O (SX x y))/\∃q os',w'=grow (W.drewN q) os':=by
 unfold SX;go_enter Tryz.func48,Tryz.ntmps48;go_wp2_with (go_at_call 49;refine(gE _ _ _).mono ?_;rintro e w' ⟨rfl,rfl⟩);go_ret;exact⟨rfl,0,_,by rw[alloc_eq_grow,alloc_eq_grow,grow_grow];rfl⟩
theorem KR[Inhabited Mem](blk off size:Nat)(w:World):CmpLays AS 48 #[] Mem.cs 5 SX blk off size w:=λ_ _ _ _ x y=>Fa x y _
theorem aeR:SWO (ltOf SX) where
 irrefl x:=by simp[ltOf,SX,(bQ x.name x.name).2 rfl]
 trans x y z:=by
  simp only[ltOf,SX,decide_eq_true_eq,fL];exact λh1 h2=>gd h1 h2
 ntrans x y z:=by
  intro h1 h2;have h1:=of_decide_eq_false h1;have h2:=of_decide_eq_false h2;refine decide_eq_false λh3=>?_;have h3:bR x.name z.name<0:=h3;rcases Int.lt_trichotomy (bR x.name y.name) 0 with h|h|h
  .exact h1 h
  .have e:x.name=y.name:=(bQ _ _).1 h
   rw[e] at h3;exact h2 h3
  .have h4:=(nD _ _).1 h
   exact h2 ((fL _ _).2 (gd h4 ((fL _ _).1 h3)))
theorem Fb[Inhabited Mem]{base:Nat}{w:World}{g c:Nat}{l:List Mem}(h:Own base w (J (AI ⟨g,0,be⟩) l.length c) l):HoldsK Mem.cs 5 w g 0 l.toArray:=by
 rcases h.2 with⟨h1,_⟩|⟨g',c',cur,h1,eD,hg,fP,dR,cf,bj⟩
 .cases h1
 .simp only[I0,It,Addr.mk.injEq] at h1
  obtain⟨⟨rfl,_,_⟩,_,_⟩:=h1;intro j hj;rw[size_flatK] at hj;have EA:j<l.length*5:=by simpa using hj
  refine⟨?_,aj hg _⟩;rw[ae hg,IC,get_flatK Mem.cs 5 l.toArray j (by simpa using EA)];have e1:=ei l (j/5) (by omega) (j%5) (by omega);rw[show j/5*5+j%5=j by omega] at e1;have e2:cur[j]?=(fl l)[j]?:=by rw[<- bj,IN (by omega)];simp
  rw[e2,e1];have e3:l.toArray[j/5]! = l.getD (j/5) dm:=by
   have aX:j/5<l.length:=by omega
   simp[Ip,aX]
  rw[e3];have hl:j%5<(l.getD (j/5) dm).cs.length:=by rw[bD];omega
  rw[If hl,getElem!_pos (l.getD (j/5) dm).cs (j%5) hl];rfl
theorem zV[Inhabited Mem]{w:World}{g m:Nat}{d:Array Mem}{os:Array Obj}{cur:Array Value}{T:TypeId}{fr:Nat×Nat}(hg:w.heap[g]?=AI (By cur T fr)) : (sortWorldK Mem.cs 5 w g 0 m d os).heap[g]?=AI (By (putCells id 0 (flatK Mem.cs 5 d) cur) T fr):=by
 have aX:=(BY.1 hg).1;have vC:g<(putRowK Mem.cs 5 (Sort.ahead w m) g 0 d).heap.size:=by
  show g<(putRow id (Sort.ahead w m) g 0 _).heap.size;rw[size_putRow];exact aX
 show((putRowK Mem.cs 5 (Sort.ahead w m) g 0 d).heap++os)[g]?=_;rw[Array.getElem?_append_left vC];show(w.heap.modify g (onCells (putCells id 0 (flatK Mem.cs 5 d))))[g]?=_;rw[OU,if_pos rfl,hg];rfl
theorem Cd[Inhabited Mem]{base:Nat}{w:World}{g c m:Nat}{l:List Mem}{os:Array Obj}(h:Own base w (J (AI ⟨g,0,be⟩) l.length c) l)(d:Array Mem)(hs:d.size=l.length) :
 Own base (sortWorldK Mem.cs 5 w g 0 m d os) (J (AI ⟨g,0,be⟩) l.length c) d.toList:=by
 rcases h.2 with⟨h1,_⟩|⟨g',c',cur,h1,eD,hg,fP,dR,cf,bj⟩
 .cases h1
 .simp only[I0,It,Addr.mk.injEq] at h1
  obtain⟨⟨rfl,_,_⟩,_,rfl⟩:=h1;have hl:d.toList.length=l.length:=by simpa using hs
  have ho:Own base (sortWorldK Mem.cs 5 w g 0 m d os) (J (AI ⟨g,0,be⟩) d.toList.length c) d.toList:=by
   refine iC eD (zV hg) (by simp[putCells,cf]) (by omega) dR ?_;apply List.ext_getElem?;intro t;by_cases ht:t<d.toList.length*5
   .have htc:t<cur.size:=by rw[cf];have:l.length*5<=c*5:=Nat.mul_le_mul_right 5 fP;omega
    rw[IN ht];have e1:=ei d.toList (t/5) (by omega) (t%5) (by omega);rw[show t/5*5+t%5=t by omega] at e1;rw[e1];have cI:t<d.size*5:=by simpa using ht
    have e2:(putCells id 0 (flatK Mem.cs 5 d) cur).toList[t]?=AI (flatK Mem.cs 5 d)[t]! := by
     simp only[putCells,Array.getElem?_toList,Array.getElem?_mapIdx,Array.getElem?_eq_getElem htc,Option.map_some];rw[if_pos ⟨IP _,by rw[size_flatK];omega⟩];rfl
    rw[e2,get_flatK Mem.cs 5 d t cI];have e3:d[t/5]! = d.toList.getD (t/5) dm:=by
     have aX:t/5<d.size:=by omega
     simp[Ip,aX]
    rw[e3];have mJ:t%5<(d.toList.getD (t/5) dm).cs.length:=by rw[bD];omega
    rw[If mJ,getElem!_pos (d.toList.getD (t/5) dm).cs (t%5) mJ]
   .rw[I1 (by rw[IA];omega),I1 (by rw[cQ];omega)]
  rw[<- hl];exact ho
end Go.Proofs.YtfidhgjmifendaaGreatDoor
