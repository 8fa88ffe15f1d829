import Derived.Test.YtipbebleapjcjaaGreatDoornc1
import Derived.Shelf.SlSortFunc.HeapSort
import Derived.Laws.EntriesVeiled
import Derived.Deep.RegionLawGrows
set_option maxHeartbeats 12800000
set_option maxRecDepth 100000
open Array renaming extract_size->UC,getElem?_eq_some_iff->Ig
open ByteArray renaming empty->Ie
open Go renaming below_regrown->QL,cell_regrown->Im,heap_alloc_new->Ii,maxLen->Il,plainElem->JK,redrawn->IG,run_underlying->Qo,step_append_lies->Qm,wp_region_quiet_below->IX
open Go.Ending renaming returned->Ia
open Go.IntKind renaming i64->J,wrap_i64->IW
open Go.Obj renaming cells->Ib
open Go.Op renaming bytesLess->IT
open Go.Proofs renaming cell?_sortWorld_other->Qx,sortWorld->Uf
open Go.Proofs.Tryz renaming isAgg9->Oj,prog->AT,sizeOf9->J8,underlying107->IS,underlying325->QH
open Go.RowKit.Below renaming refl->If
open Go.Sort renaming ahead->Ju,grow->Is
open Go.Value renaming agg->Iu,func->JD,int->O,pointer->Ik,slice->sh,string->I,tuple->Ir,ownBlock->Jb
open Go.World renaming block_lt_of_cell?->II,new_ne->Jn,ownsRow->Oy
open Go.World.ownsRow renaming cellAt->ON,frozenAt->JE
open List renaming getD->Ip,getElem?_eq_getElem->Ih,getElem?_eq_none->IK,getElem?_eq_some_iff->I7,getElem_of_mem->I2,length_drop->I9,length_eq_zero_iff->OQ,length_map->I8,length_take->IA
open Nat renaming le_refl->By,lt_of_lt_of_le->Ix,lt_succ_iff_lt_or_eq->IL,not_lt_zero->IV,zero_add->I6,zero_le->Iw
open Option renaming none->U,some->AI
namespace Go.Proofs
open Go.Shelf
def Tryz.CG:Go.Shelf.Ren:=⟨fun|6=>301|15=>158|14=>308|28=>206|29=>207|20=>311|21=>312|22=>313|23=>314|24=>315|25=>316|26=>317|27=>318|46=>320|47=>245|48=>246|49=>321|50=>322|57=>323|n=>n,fun|22=>107|24=>9|25=>161|3=>3|39=>137|0=>0|53=>256|55=>258|4=>4|46=>263|45=>262|50=>42|5=>5|9=>9|66=>284|70=>288|76=>310|77=>311|n=>n,fun|n=>n⟩
theorem Tryz.ac7:Go.Proofs.SlLaysF.n6 AT Tryz.CG:={
 mixed:=by kernel_rfl
 f6:=⟨Tryz.f301.name,by decide,Tryz.func301.trans (congrArg AI (by kernel_rfl))⟩
 f14:=⟨Tryz.f308.name,by decide,Tryz.func308.trans (congrArg AI (by kernel_rfl))⟩
 f15:=Tryz.func158.trans (congrArg AI (by kernel_rfl))
 f20:=⟨Tryz.f311.name,by decide,Tryz.func311.trans (congrArg AI (by kernel_rfl))⟩
 f21:=⟨Tryz.f312.name,by decide,Tryz.func312.trans (congrArg AI (by kernel_rfl))⟩
 f22:=⟨Tryz.f313.name,by decide,Tryz.func313.trans (congrArg AI (by kernel_rfl))⟩
 f23:=⟨Tryz.f314.name,by decide,Tryz.func314.trans (congrArg AI (by kernel_rfl))⟩
 f24:=⟨Tryz.f315.name,by decide,Tryz.func315.trans (congrArg AI (by kernel_rfl))⟩
 f25:=⟨Tryz.f316.name,by decide,Tryz.func316.trans (congrArg AI (by kernel_rfl))⟩
 f26:=⟨Tryz.f317.name,by decide,Tryz.func317.trans (congrArg AI (by kernel_rfl))⟩
 f27:=⟨Tryz.f318.name,by decide,Tryz.func318.trans (congrArg AI (by kernel_rfl))⟩
 f28:=Tryz.func206.trans (congrArg AI (by kernel_rfl))
 f29:=Tryz.func207.trans (congrArg AI (by kernel_rfl))
 f46:=⟨Tryz.f320.name,by decide,Tryz.func320.trans (congrArg AI (by kernel_rfl))⟩
 f47:=Tryz.func245.trans (congrArg AI (by kernel_rfl))
 f48:=Tryz.func246.trans (congrArg AI (by kernel_rfl))
 f49:=⟨Tryz.f321.name,by decide,Tryz.func321.trans (congrArg AI (by kernel_rfl))⟩
 f50:=⟨Tryz.f322.name,by decide,Tryz.func322.trans (congrArg AI (by kernel_rfl))⟩
 f57:=⟨Tryz.f323.name,by decide,Tryz.func323.trans (congrArg AI (by kernel_rfl))⟩
 t0:=underlying0
 a0:=isAgg0
 z0:=sizeOf0
 v0:=Tryz.zeroValue0
 t3:=underlying3
 a3:=isAgg3
 z3:=sizeOf3
 v3:=Tryz.zeroValue3
 t4:=underlying4
 a4:=isAgg4
 z4:=sizeOf4
 v4:=Tryz.zeroValue4
 t5:=underlying5
 a5:=isAgg5
 z5:=sizeOf5
 v5:=Tryz.zeroValue5
 t9:=underlying9
 a9:=Oj
 z9:=J8
 v9:=Tryz.zeroValue9
 t22:=IS
 a22:=isAgg107
 z22:=sizeOf107
 v22:=Tryz.zeroValue107
 a24:=Oj
 z24:=J8
 t25:=underlying161
 a25:=isAgg161
 z25:=sizeOf161
 v25:=Tryz.zeroValue161
 t39:=underlying137
 a39:=isAgg137
 z39:=sizeOf137
 v39:=Tryz.zeroValue137
 t45:=underlying262
 a45:=isAgg262
 z45:=sizeOf262
 v45:=Tryz.zeroValue262
 t46:=underlying263
 a46:=isAgg263
 z46:=sizeOf263
 v46:=Tryz.zeroValue263
 t50:=underlying42
 a50:=isAgg42
 z50:=sizeOf42
 v50:=Tryz.zeroValue42
 t53:=underlying256
 a53:=isAgg256
 z53:=sizeOf256
 v53:=Tryz.zeroValue256
 t55:=underlying258
 a55:=isAgg258
 z55:=sizeOf258
 v55:=Tryz.zeroValue258
 t66:=underlying284
 a66:=isAgg284
 z66:=sizeOf284
 v66:=Tryz.zeroValue284
 t70:=underlying288
 a70:=isAgg288
 z70:=sizeOf288
 v70:=Tryz.zeroValue288
 t76:=underlying310
 a76:=isAgg310
 z76:=sizeOf310
 v76:=Tryz.zeroValue310
 t77:=underlying311
 a77:=isAgg311
 z77:=sizeOf311
 v77:=Tryz.zeroValue311 }
end Go.Proofs
open Go.Proofs.Tryz
namespace Go.Proofs.YtipbebleapjcjaaGreatDoor
open Go.RowKit Go.Sort Go.Shelf Go.Lib Go.WideMaps Go.Maps
def nm(ns:List ByteArray)(x:Nat):ByteArray:=ns.getD x Ie
def ac8(ns:List ByteArray)(d:ByteArray->Int)(m:Nat)(x y:Fin (m+1)):Int:=cfN d (nm ns x.val) (nm ns y.val)
theorem akL(ns:List ByteArray)(d:ByteArray->Int)(m:Nat)(x y:Fin (m+1)):ltOf (ac8 ns d m) x y=Dp d (nm ns x.val) (nm ns y.val):=rfl
theorem aov(ns:List ByteArray)(d:ByteArray->Int)(m:Nat):SWO (ltOf (ac8 ns d m)) where
 irrefl _:=(MX d).irrefl _
 trans _ _ _ h1 h2:=(MX d).trans _ _ _ h1 h2
 ntrans _ _ _ h1 h2:=(MX d).ntrans _ _ _ h1 h2
def CH(ns:List ByteArray)(m:Nat)(x:Fin (m+1)):Value:=I (nm ns x.val)
def uz(m:Nat):Array (Fin (m+1)):=Array.ofFn (λx=>x)
theorem sO(m:Nat):(uz m).size=m+1:=by simp[uz]
theorem XK(m j:Nat)(hj:j<m+1):(uz m)[j]! = ⟨j,hj⟩:=by
 rw[getElem!_pos _ j (by rw[sO];exact hj)];simp[uz]
theorem SN(ns:List ByteArray)(m:Nat)(hn:ns.length=m+1):(uz m).toList.map (λx=>nm ns x.val)=ns:=by
 apply List.ext_getElem
 .simp[uz,hn]
 .intro j h1 h2
  rw[List.getElem_map,Array.getElem_toList];simp only[uz,Array.getElem_ofFn,nm];simp[Ip,Ih h2]
theorem Nc(W:World)(o:Obj):(W.alloc o).drew=grow (W.drewN 1) #[o]:=by
 simp only[grow,World.alloc,World.drew,World.drewN,Array.push_eq_append]
theorem yc{α:Type}[Inhabited α](enc:α->Value)(w:World)(b off q g:Nat)(dk:Array α)(os:Array Obj)(nK:g≠b)(hl:g<w.heap.size):(Uf enc w b off q dk os).heap[g]?=w.heap[g]?:=by
 unfold Uf;rw[Go.Sort.heap_grow_old _ _ (by simp[putRow,mapBlock,Ju];omega)]
 have:b≠g:=λe=>nK e.symm
 simp[putRow,mapBlock,Ju,Array.getElem?_modify,this]
theorem Dv{α:Type}[Inhabited α](enc:α->Value){B:Nat}{w:World}{g off n:Nat}{d:Array α}{os:Array Obj}(hg:B<=g)(hB:B<=w.heap.size):Below B w (Uf enc w g off n d os):=
 ⟨rfl,rfl,rfl,by simp[Uf,putRow,mapBlock,Ju,grow],λk hk=>yc enc w g off n k d os (by omega) (by omega)⟩
theorem aui(ns:List ByteArray)(m db kb g n gb:Nat)(D:DataW Unit)(w:World)(od:∀j,(nm ns j).size<=Il)(hd:w.cell? ⟨db,0,U⟩=AI (JD (.func 299) #[] #[Ik (AI ⟨kb,0,U⟩)]))(hk:w.cell? ⟨kb,0,U⟩=AI (.map (AI g)))(hm:w.ownsMap AT 9 (JK (H:=Unit) AT 3) g n D)(h1:db≠gb)(h2:kb≠gb)(h3:g≠gb) :
 CmpLays1 AT 302 #[Ik (AI ⟨db,0,U⟩)] (CH ns m) (ac8 ns (dV D) m) gb 0 (uz m).size w:=by
 intro q os dk hs x y;have o8:db<w.heap.size:=II w _ hd;have oR:kb<w.heap.size:=II w _ hk;have sy:g<w.heap.size:=hm.lt;have c1:=(Qx (CH ns m) w gb 0 q dk os ⟨db,0,U⟩ h1 o8).trans hd;have c2:=(Qx (CH ns m) w gb 0 q dk os ⟨kb,0,U⟩ h2 oR).trans hk;have m1:(Uf (CH ns m) w gb 0 q dk os).ownsMap AT 9 (JK (H:=Unit) AT 3) g n D:=by
  obtain⟨es,cl,e1,e2⟩:=hm;exact⟨es,cl,(yc (CH ns m) w gb 0 q g dk os h3 sy).trans e1,e2⟩
 refine(acG _ _ db kb g n D _ (od x.val) (od y.val) c1 c2 m1).mono ?_;rintro e w' ⟨rfl,rfl⟩;exact⟨rfl,1,_,Nc _ _⟩
theorem XL{ns:List ByteArray}{d:ByteArray->Int}{m:Nat}{d':Array (Fin (m+1))}(hn:ns.length=m+1)(hp:PermIn 0 (uz m).size (uz m) d')(hs:SortedIn (ltOf (ac8 ns d m)) 0 (uz m).size d') :
 d'.toList.map (λx=>nm ns x.val)=So.oU (Dp d) ns:=by
 obtain⟨od,_,Nf⟩:=hp;rw[UC,show d'.extract 0 (uz m).size=d' by rw[<- od,UC]] at Nf;refine So.Xu (MX d) (acN d) ?_ ?_
 .have h:=Nf.map (λx=>nm ns x.val)
  rw[SN ns m hn] at h;exact h
 .have hds:d'.size=m+1:=by rw[od,sO]
  refine List.pairwise_iff_getElem.2 λi j hi hj yp=>?_;have tS:j<d'.size:=by simpa using hj
  have hi':i<d'.size:=by omega
  have h:=hs i j (Iw _) yp (by rw[sO];omega);rw[getElem!_pos d' j tS,getElem!_pos d' i hi',akL] at h;simpa using h
theorem XM(ns:List ByteArray)(m db kb g n gb c:Nat)(D:DataW Unit)(w:World)(hn:ns.length=m+1)(Ho:m<1000)(od:∀j,(nm ns j).size<=Il)(hd:w.cell? ⟨db,0,U⟩=AI (JD (.func 299) #[] #[Ik (AI ⟨kb,0,U⟩)]))(hk:w.cell? ⟨kb,0,U⟩=AI (.map (AI g)))(hm:w.ownsMap AT 9 (JK (H:=Unit) AT 3) g n D)(h1:db≠gb)(h2:kb≠gb)(h3:g≠gb)
 (nG:∀j,j<m+1->w.cell? ⟨gb,j,U⟩=AI (I (nm ns j))) (ux:∀j,w.frozen? ⟨gb,j,U⟩=false) {B:Nat} (hB:B<=gb) :
 Calls AT 301 #[sh (AI ⟨gb,0,U⟩) (m+1) c,JD (.func 302) #[] #[Ik (AI ⟨db,0,U⟩)]] w λe w'=>e=Ia (Ir #[])/\Bi w' (sh (AI ⟨gb,0,U⟩) (m+1) c) (So.oU (Dp (dV D)) ns)/\Below B w w'/\∀j,w'.frozen? ⟨gb,j,U⟩=false:=by
 have eg:∀args w,(callFunc 302 args).run AT w=.ok (.enter 302 args) w:=enters_of func302 (by kernel_rfl) rfl;have Bo:gb<w.heap.size:=II w ⟨gb,0,U⟩ (nG 0 (by omega));have HHH:Holds (CH ns m) w gb 0 (uz m):=λj hj=>by
  rw[sO] at hj;rw[XK m j hj,I6];exact⟨nG j hj,ux j⟩
 have zW:=Any.slices_SortFunc Tryz.ac7 (CH ns m) (λ_=>rfl) (ac8 ns (dV D) m) (aov ns (dV D) m) 302 #[Ik (AI ⟨db,0,U⟩)] gb 0 c (uz m) w eg (aui ns m db kb g n gb D w od hd hk hm h1 h2 h3) HHH Bo (by rw[sO];omega);rw[show sh (AI ⟨gb,0,U⟩) (uz m).size c=sh (AI ⟨gb,0,U⟩) (m+1) c by rw[sO]] at zW;refine zW.mono ?_;rintro e w2 ⟨rfl,d',nd,os,hp,hs,xN⟩;have hL:=XL hn hp hs;have hds:d'.size=m+1:=by rw[hp.1,sO]
 have hlen:(So.oU (Dp (dV D)) ns).length=m+1:=by rw[<- hL];simp[hds]
 refine⟨rfl,⟨AI ⟨gb,0,U⟩,c,by rw[hlen],λj=>?_,.inr ⟨gb,0,rfl,?_,λj hj=>?_⟩⟩,?_,λj=>?_⟩
 .by_cases hj:j<(So.oU (Dp (dV D)) ns).length
  .have XG:(So.oU (Dp (dV D)) ns).getD j Ie∈So.oU (Dp (dV D)) ns:=by simp[Ip,Ih hj]
   rw[<- hL] at XG;obtain⟨x,_,hx⟩:=List.mem_map.1 XG;rw[hL] at hx;rw[<- hx];exact od x.val
  .rw[show(So.oU (Dp (dV D)) ns).getD j Ie=Ie by simp[Ip,IK (by omega:(So.oU (Dp (dV D)) ns).length<=j)]]
   decide
 .rw[xN]
  exact Ix Bo (Dv (CH ns m) (B:=0) (Iw _) (Iw _)).size
 .have tS:j<m+1:=by rw[hlen] at hj;exact hj
  have e1:=cell?_putRow (CH ns m) (Ju w nd) gb 0 (uz m) d' (show Holds (CH ns m) (Ju w nd) gb 0 (uz m) from HHH) hp.1 j (by omega);have e2:w2.cell? ⟨gb,0+j,U⟩=(putRow (CH ns m) (Ju w nd) gb 0 d').cell? ⟨gb,0+j,U⟩:=by
   rw[xN];exact cell?_grow _ _ _ (II (putRow (CH ns m) (Ju w nd) gb 0 d') ⟨gb,0+j,U⟩ e1)
  rw[e2,e1,getElem!_pos d' j (by omega)];have e3:(So.oU (Dp (dV D)) ns).getD j Ie=nm ns (d'[j]'(by omega)).val:=by
   rw[<- hL];simp[Ip,hds,tS]
  rw[e3];rfl
 .rw[xN]
  exact Dv (CH ns m) hB (by omega)
 .rw[xN]
  exact(frozen?_grow _ _ ⟨gb,j,U⟩ (by simpa[putRow,mapBlock,Ju] using Bo)).trans ((frozen?_putRow _ _ _ _ _ _).trans (ux j))
end Go.Proofs.YtipbebleapjcjaaGreatDoor
namespace Go.Proofs.YtipbebleapjcjaaGreatDoor
open Go.RowKit Go.Shelf Go.Lib Go.WideMaps Go.Maps
def FrB(B:Nat)(w:World)(v:Value):Prop:=∀g,v.ownBlock=AI g->B<=g/\g<w.heap.size/\∀j,w.frozen? ⟨g,j,U⟩=false
theorem FrB.mono{B B':Nat}{w:World}{v:Value}(h:FrB B w v)(hb:B'<=B):FrB B' w v:=λg hg=>⟨Nat.le_trans hb (h g hg).1,(h g hg).2⟩
theorem XN(ns:List ByteArray)(D:DataW Unit)(n B db kb g:Nat)(vs:Value)(w:World)(ho:nD B w vs ns)(hl:ns.length<=100)(od:∀j,(ns.getD j Ie).size<=Il)(hd:w.cell? ⟨db,0,U⟩=AI (JD (.func 299) #[] #[Ik (AI ⟨kb,0,U⟩)]))(hk:w.cell? ⟨kb,0,U⟩=AI (.map (AI g)))(hm:w.ownsMap AT 9 (JK (H:=Unit) AT 3) g n D)(h1:db<B)(h2:kb<B)(h3:g<B) :
 Calls AT 301 #[vs,JD (.func 302) #[] #[Ik (AI ⟨db,0,U⟩)]] w λe w'=>e=Ia (Ir #[])/\Bi w' vs (So.oU (Dp (dV D)) ns)/\FrB B w' vs/\Below B w w':=by
 rcases ho.2 with⟨hv,h0⟩|⟨gb,c,cur,hv,qa,hg,rF,qw,oH,nA⟩
 .subst hv
  have he:=OQ.1 h0;subst he;refine(show Calls AT 301 #[sh U 0 0,JD (.func 302) #[] #[Ik (AI ⟨db,0,U⟩)]] w λe w'=>e=Ia (Ir #[])/\w'=w from AnyF.slices_SortFunc_none (P:=AT) (ρ:=Tryz.CG) { Tryz.ac7 with } U 0 _ w).mono ?_;rintro e w' ⟨rfl,rfl⟩;exact⟨rfl,⟨U,0,rfl,λj=>by simp[So.oU],.inl rfl⟩,(λg hg=>by cases hg),If _ _⟩
 .subst hv
  by_cases h0:ns=[]
  .subst h0
   refine(show Calls AT 301 #[sh (AI ⟨gb,0,U⟩) 0 c,JD (.func 302) #[] #[Ik (AI ⟨db,0,U⟩)]] w λe w'=>e=Ia (Ir #[])/\w'=w from AnyF.slices_SortFunc_none (P:=AT) (ρ:=Tryz.CG) { Tryz.ac7 with } (AI ⟨gb,0,U⟩) c _ w).mono ?_;rintro e w' ⟨rfl,rfl⟩;refine⟨rfl,⟨AI ⟨gb,0,U⟩,c,rfl,λj=>by simp[So.oU],.inl rfl⟩,λg vR=>?_,If _ _⟩;obtain rfl:gb=g:=by simpa[Jb] using vR
   exact⟨qa,(Ig.1 hg).1,λj=>JE ho j⟩
  .obtain⟨m,hn⟩:∃m,ns.length=m+1:=⟨ns.length-1,by have:=List.length_pos_iff.2 h0;omega⟩
   have nG:∀j,j<m+1->w.cell? ⟨gb,j,U⟩=AI (I (nm ns j)):=λj hj=>by
    rw[ON ho j (by omega)];simp[nm,Ip,Ih (show j<ns.length by omega)]
   have ux:∀j,w.frozen? ⟨gb,j,U⟩=false:=λj=>JE ho j;have h:=XM ns m db kb g n gb c D w hn (by omega) od hd hk hm (by omega) (by omega) (by omega) nG ux qa;rw[hn];refine h.mono ?_;rintro e w' ⟨h1,h2,h3,h4⟩;refine⟨h1,h2,λg vR=>?_,h3⟩;obtain rfl:gb=g:=by simpa[Jb] using vR
   exact⟨qa,Ix (Ig.1 hg).1 h3.size,h4⟩
theorem V1{P:Prop}(h:P:=by
 obtain⟨f0,f1,f2,f3,f4⟩:=Fp;have hz6:=tq.out.size;go_wp2_with fail;refine(HDI.out _ (HV.out.below tq.out)).mono ?_;rintro e w7 ⟨g,rfl,HM7,ou,vR,Bj⟩;have SO:Hid _:=tq.out.trans (Bj.mono hz6);have hz7:=SO.out.size;clear Bj f0 f1 f2 f3 f4;go_wp2_with fail;obtain⟨W9,hW9⟩:∃W9,W9=(w7.alloc (Ib #[.map (AI g)] 164)).alloc (Ib #[JD (.func 299) #[] #[Ik (AI ⟨w7.heap.size,0,U⟩)]] 223):=⟨_,rfl⟩;rw[<- hW9];have tv:Below w7.heap.size w7 W9:=by rw[hW9];exact((If _ _).alloc (By _) _).alloc (by simp) _
 have hs9:W9.heap.size=w7.heap.size+2:=by rw[hW9];simp
 have k9:W9.cell? ⟨w7.heap.size,0,U⟩=AI (.map (AI g)):=by
  rw[hW9];have h:=((If (w7.heap.size+1) (w7.alloc (Ib #[.map (AI g)] 164))).alloc (by simp) (Ib #[JD (.func 299) #[] #[Ik (AI ⟨w7.heap.size,0,U⟩)]] 223)).cell (p:=⟨w7.heap.size,0,U⟩) (by show w7.heap.size<w7.heap.size+1;omega);exact h.trans (oY rfl)
 have d9:W9.cell? ⟨w7.heap.size+1,0,U⟩=AI (JD (.func 299) #[] #[Ik (AI ⟨w7.heap.size,0,U⟩)]):=by
  rw[hW9];exact oY (by simp)
 have HM9:Hid (W9.ownsMap _ _ _ _ _ _):=zv HM7.out tv;have uy:Hid _:=SO.out.trans (tv.mono hz7);clear hW9 tv;refine(HCL.out _ (HTN.out.below uy.out)).mono ?_;rintro e w10 ⟨vs,rfl,aul,Ng⟩;have k10:=(Ng.cell (p:=⟨w7.heap.size,0,U⟩) (by show w7.heap.size<_;omega)).trans k9;have d10:=(Ng.cell (p:=⟨w7.heap.size+1,0,U⟩) (by show w7.heap.size+1<_;omega)).trans d9;have aum:Hid (w10.ownsMap _ _ _ _ _ _):=zv HM9.out Ng;have akN:Hid _:=uy.out.trans (Ng.mono uy.out.size);clear Ng k9 d9;go_wp2_with fail;refine(HSO.out W9.heap.size (w7.heap.size+1) w7.heap.size g vs _ aul.out d10 k10 aum.out (by omega) (by omega) (by omega)).mono ?_;rintro e w11 ⟨rfl,HTS,Lf,aoz⟩;have HFW:Hid (FrB _ _ _):=Lf.out.mono uy.out.size;have ag0:Hid _:=akN.out.trans (aoz.mono uy.out.size);clear aoz d10 k10 Lf;go_wp2_with fail;go_ret2;exact⟨vs,rfl,HTS.out,HFW.out,ag0.out⟩):P:=h
theorem XO(p:Pl)(ms:List Wh.nZ)(v vn:Value)(ns:List ByteArray)(w:World)(hv:Wh.Sl w v ms)(ht:Bi w vn ns)(hn:ms.length<=100)(hm:ns.length<=100)(hb:pR (p::(oN ms).map oJ)=0) :
 Calls AT 288 #[Iu #[O J p.x,O J p.y,O J p.z,O J p.h,O J p.s],v,vn] w λe w'=>∃v',e=Ia (Ir #[v',O J 0])/\Bi w' v' (GD p ms ns)/\FrB w.heap.size w' v'/\Below w.heap.size w w':=by
 obtain⟨i0,qg,oS,so,sf⟩:=info_parts Tryz.Sk;have hpl:(oN ms).length=ms.length:=yA ms;have hz:=(rN _).1 hb;have tR:zj p:=(zk p).1 (by have:=hz 0 (by simp);simpa using this);have aoA:∀j,j<ms.length->zj (oJ (yh (ms.getD j Wh.dm))):=λj hj=>by
  have:=hz (j+1) (by simp[hpl];exact hj);refine(zk _).1 ?_;simpa[Ip,oN,Ih hj] using this
 have HV:Hid (Wh.Sl w v ms):=hv;have HTN:Hid (Bi w vn ns):=ht;have HSZ:Hid (∀j,(ns.getD j Ie).size<=Il):=by obtain⟨_,_,_,h,_⟩:=ht;exact h
 have HDI:Hid (∀W,Wh.Sl W v ms->Calls AT 298 #[Iu #[O J p.x,O J p.y,O J p.z,O J p.h,O J p.s],v] W λe w'=>∃g,e=Ia (.map (AI g))/\Hid (w'.ownsMap AT 9 (JK (H:=Unit) AT 3) g ms.length (Dd (qR p) ms ms.length))/\W.heap.size<=g/\g<w'.heap.size/\Below W.heap.size W w'):=λW h=>GK p ms v W h hn tR aoA;have HCL:Hid (∀W,Bi W vn ns->Calls AT 300 #[vn] W λe w'=>∃v',e=Ia v'/\Hid (nD W.heap.size w' v' ns)/\Below W.heap.size W w'):=λW h=>Sn ns vn W h (by omega);have HSO:Hid (∀(B db kb g:Nat) (vs:Value) (W:World),nD B W vs ns->W.cell? ⟨db,0,U⟩=AI (JD (.func 299) #[] #[Ik (AI ⟨kb,0,U⟩)])->W.cell? ⟨kb,0,U⟩=AI (.map (AI g))->W.ownsMap AT 9 (JK (H:=Unit) AT 3) g ms.length (Dd (qR p) ms ms.length)->db<B->kb<B->g<B ->
  Calls AT 301 #[vs,JD (.func 302) #[] #[Ik (AI ⟨db,0,U⟩)]] W λe w'=>e=Ia (Ir #[])/\Hid (Bi w' vs (GD p ms ns))/\Hid (FrB B w' vs)/\Below B W w'):=λB db kb g vs W h1 h2 h3 h4 h5 h6 h7=>XN ns _ ms.length B db kb g vs W h1 hm HSZ.out h2 h3 h4 h5 h6 h7
 obtain⟨pa,ca,yq,_,_⟩:=hv;obtain⟨pn,cn,hvn,_,_⟩:=ht;subst yq hvn;have h1:decide (100<(ms.length:Int))=false:=by simp;omega
 have h2:decide (100<(ns.length:Int))=false:=by simp;omega
 have Xr:Hid ((oN ms).length=ms.length):=hpl;have HP0:Hid (ms.length=0->∀W,Calls AT 297 #[sh pa ms.length ca] W λe w'=>e=Ia (sh U 0 0)/\Below W.heap.size W w'):=λh0 W=>by
  rw[h0];refine(Dk pa ca W).mono ?_;rintro e w' ⟨rfl,rfl⟩;exact⟨rfl,If _ _⟩
 have HP1:Hid (0<ms.length->∀W,Wh.Sl W (sh pa ms.length ca) ms->Calls AT 297 #[sh pa ms.length ca] W λe w'=>∃g c,e=Ia (sh (AI ⟨g,0,U⟩) ms.length c)/\Pc.Own W.heap.size w' (sh (AI ⟨g,0,U⟩) ms.length c) (oN ms)/\Below W.heap.size W w'):=λBA W h=>by
  refine(E9 ms _ W h hn).mono ?_;rintro e w' ⟨v',rfl,ho,nE⟩;obtain⟨g,c,yq⟩:=Pc.wV ho 0 (by rw[Xr.out];exact BA);subst yq;rw[Xr.out] at ho;exact⟨g,c,by rw[Xr.out],ho,nE⟩
 have Et:Hid (ms.length=0->∀g W,Cz W g 0 [p]->Calls AT 296 #[sh (AI ⟨g,0,U⟩) 1 1] W λe w'=>e=Ia (O J 0)/\Below W.heap.size W w'):=λh0 g W h=>by
  have h2:=uk [p] g 0 1 1 W rfl h (by omega);have e:(oN ms).map oJ=[]:=by rw[OQ.1 h0];rfl
  rw[e] at hb;rw[hb] at h2;exact h2
 have wH:Hid (∀g c W,Cz W g 0 (p::(oN ms).map oJ)->Calls AT 296 #[sh (AI ⟨g,0,U⟩) (1+ms.length) c] W λe w'=>e=Ia (O J 0)/\Below W.heap.size W w'):=λg c W h=>by
  have h2:=uk (p::(oN ms).map oJ) g 0 (1+ms.length) c W (by simp[Xr.out];omega) h (by omega);rw[hb] at h2;exact h2
 clear hb hz tR aoA hpl;generalize GD p ms ns=SL at *;generalize Dd (qR p) ms ms.length=DD at *;generalize Ap:ms.length=n at *;generalize hnb:ns.length=nl at *;clear Ap hnb;go_enter func288,ntmps288;go_wp2_with fail;obtain⟨W,hW⟩:∃W,W=w.alloc (Ib #[O J p.x,O J p.y,O J p.z,O J p.h,O J p.s] 27):=⟨_,rfl⟩;rw[<- hW];have rj:Below w.heap.size w W:=by rw[hW];exact(If _ _).alloc (By _) _
 have wY:W.heap[w.heap.size]?=AI (Ib #[O J p.x,O J p.y,O J p.z,O J p.h,O J p.s] 27 (0,0)):=by rw[hW];exact Ii w _
 have CB:W.heap.size=w.heap.size+1:=by rw[hW];simp
 have n0:W.cell? ⟨w.heap.size,0,U⟩=AI (O J p.x):=fi wY 0;have n1:W.cell? ⟨w.heap.size,1,U⟩=AI (O J p.y):=fi wY 1;have n2:W.cell? ⟨w.heap.size,2,U⟩=AI (O J p.z):=fi wY 2;have n3:W.cell? ⟨w.heap.size,3,U⟩=AI (O J p.h):=fi wY 3;have n4:W.cell? ⟨w.heap.size,4,U⟩=AI (O J p.s):=fi wY 4;have HVW:Hid (∀W',Below W.heap.size W W'->Wh.Sl W' (sh pa n ca) ms):=λW' h=>(HV.out.below rj).below h;have rW:Hid (Below w.heap.size w W):=rj;have e0:=Jn W _ n0;have e1:=Jn W _ n1;have e2:=Jn W _ n2;have e3:=Jn W _ n3;have e4:=Jn W _ n4;clear wY hW rj;have h63:1+n<=Il:=by unfold Il;omega
 have VU:(1+n)*40<=140737488355328:=by omega
 have uU:(Pc.fl (oN ms)).length=n*5:=by rw[Pc.pD,Xr.out]
 have hav:(sh (AI ⟨w.heap.size+1,0,U⟩) 1 1).ownBlock≠AI w.heap.size:=λh=>by simp[Jb] at h
 rcases Nat.eq_zero_or_pos n with BA|BA
 .subst BA
  have HP:Hid (∀W,Calls AT 297 #[sh pa 0 ca] W λe w'=>e=Ia (sh U 0 0)/\Below W.heap.size W w'):=HP0.out rfl;have HK:Hid (∀g W,Cz W g 0 [p]->Calls AT 296 #[sh (AI ⟨g,0,U⟩) 1 1] W λe w'=>e=Ia (O J 0)/\Below W.heap.size W w'):=Et.out rfl;go_region_held3 (λw'=>w'.cell? ⟨w.heap.size,0,U⟩=AI (O J p.x)/\w'.cell? ⟨w.heap.size,1,U⟩=AI (O J p.y)/\w'.cell? ⟨w.heap.size,2,U⟩=AI (O J p.z)/\w'.cell? ⟨w.heap.size,3,U⟩=AI (O J p.h)/\w'.cell? ⟨w.heap.size,4,U⟩=AI (O J p.s))
   (first
     |go_keep
     |(go_split_ands
       refine⟨?_,?_,?_,?_,?_⟩;all_goals ((rw[sZ.cell (by show w.heap.size<_;have h9:=nC.size;simp at h9 ⊢;omega)];first|assumption|simp[*])))
     |(go_split_ands
       refine⟨?_,?_,?_,?_,?_⟩;all_goals ((rw[nC.cell (by simp;omega)];first|assumption|simp[*])))
     )
   (first
     |(go_at_call 297;refine(HP.out _).mono ?_;rintro e w3 ⟨rfl,nC⟩)
     |(go_at_call 296;refine(HK.out _ _ (zu (zt CB nC))).mono ?_;rintro e w6 ⟨rfl,sZ⟩)
     |(go_at_call 296;refine(HK.out _ _ (zu (Ii w3 _))).mono ?_;rintro e w6 ⟨rfl,sZ⟩))
  all_goals
   have tq:Hid (Below w.heap.size w w6):=by
    first
     |exact((rW.out.alloc (by omega) _).drew.trans (nC.mono (by simp;omega))).trans (sZ.mono (by have h9:=nC.size;simp at h9;omega))
     |exact((rW.out.drew.trans (nC.mono (by simp;omega))).alloc (by have:=nC.size;simp at this;omega) _).trans (sZ.mono (by have h9:=nC.size;simp at h9 ⊢;omega))
   rename_i Fp;clear sZ nC hav;exact V1
 .have HP:Hid (∀W,Wh.Sl W (sh pa n ca) ms->Calls _ _ _ _ _):=HP1.out BA
  have HK:=wH;go_region_held3 (λw'=>w'.cell? ⟨w.heap.size,0,U⟩=AI (O J p.x)/\w'.cell? ⟨w.heap.size,1,U⟩=AI (O J p.y)/\w'.cell? ⟨w.heap.size,2,U⟩=AI (O J p.z)/\w'.cell? ⟨w.heap.size,3,U⟩=AI (O J p.h)/\w'.cell? ⟨w.heap.size,4,U⟩=AI (O J p.s))
   (first
     |go_keep
     |(go_split_ands
       refine⟨?_,?_,?_,?_,?_⟩;all_goals ((rw[sZ.cell (by show w.heap.size<_;have h8:=oB.size;have h9:=nC.size;simp at h8 h9;omega)];assumption)))
     |(go_split_ands
       refine⟨?_,?_,?_,?_,?_⟩;all_goals ((rw[oB.cell_far _ (by show w.heap.size<_;have:=nC.size;simp at this ⊢;omega) (Ne.symm hav)];assumption)))
     |(go_split_ands
       refine⟨?_,?_,?_,?_,?_⟩;all_goals ((rw[oB.cell_far _ (by show w.heap.size<_;have:=nC.size;simp at this ⊢;omega) (by simp[Jb];have:=nC.size;simp at this;omega)];assumption)))
     |(go_split_ands
       refine⟨?_,?_,?_,?_,?_⟩;all_goals ((rw[nC.cell (by simp;omega)];first|assumption|simp[*])))
     )
   (first
     |(go_at_call 297;refine(HP.out _ (HVW.out _ ?_)).mono ?_;(focus (repeat(first|exact If _ _|refine Below.drew ?_|refine Below.alloc ?_ (by simp) _)));rintro e w3 ⟨g,c,rfl,AR,nC⟩)
     |(go_at_call 296;refine(HK.out _ _ _ (MV Xr.out uP)).mono ?_;rintro e w6 ⟨rfl,sZ⟩)
     |(refine Qm _ (by rfl) _ _ _ (by rfl) w.heap.size 27 i0 _ 5 40 QH qg oS so sf rfl (by omega) (sh (AI ⟨w.heap.size+1,0,U⟩) 1 1) 1 p.v5 (by rfl) (Bz (zt CB nC) (by omega)) ⟨g,0,U⟩ n c (Pc.fl (oN ms)) (by rfl) uU (tD AR) (Pc.tA _) BA h63 VU (by have:=nC.size;simp at this;omega) _ rfl ?_
       intro gg cap w5 uP oB qi mS)
     |(refine Qm _ (by rfl) _ _ _ (by rfl) w.heap.size 27 i0 _ 5 40 QH qg oS so sf rfl (by omega) (sh (AI ⟨w3.heap.size,0,U⟩) 1 1) 1 p.v5 (by rfl) (Bz (Ii w3 _) (by have:=nC.size;simp at this;omega)) ⟨g,0,U⟩ n c (Pc.fl (oN ms)) (by rfl) uU (tD (AR.below ((If _ _).alloc (By _) _))) (Pc.tA _) BA h63 VU (by have:=nC.size;simp at this ⊢;omega) _ rfl ?_
       intro gg cap w5 uP oB qi mS))
  all_goals
   have tq:Hid (Below w.heap.size w w6):=by
    first
     |exact((((rW.out.alloc (by omega) _).drew.trans (nC.mono (by simp;omega))).grown oB (by have:=nC.size;simp at this;omega) (λj hj=>by simp[Jb] at hj;omega))).trans (sZ.mono (by have h8:=oB.size;have h9:=nC.size;simp at h8 h9;omega))
     |exact(((rW.out.drew.trans (nC.mono (by simp;omega))).alloc (by have:=nC.size;simp at this;omega) _).grown oB (by have:=nC.size;simp at this ⊢;omega) (λj hj=>by simp[Jb] at hj;have:=nC.size;simp at this;omega)).trans (sZ.mono (by have h8:=oB.size;have h9:=nC.size;simp at h8 h9;omega))
   rename_i Fp;clear sZ oB uP qi mS nC AR hav;exact V1
end Go.Proofs.YtipbebleapjcjaaGreatDoor
namespace Go.Proofs.YtipbebleapjcjaaGreatDoor
open Go.RowKit Go.WideMaps Go.Maps
def dN(p:Pl)(ms:List Wh.nZ)(s:ByteArray):Int:=(wZ (qR p) ms s).getD (-1)
theorem aoB(p:Pl)(ms:List Wh.nZ)(s:ByteArray)(hp:zj p)(tR:∀j,j<ms.length->zj (oJ (yh (ms.getD j Wh.dm)))) : (dN p ms s = -1/\dV (Dd (qR p) ms ms.length) s=9223372036854775807)\/(0<=dN p ms s/\dN p ms s<=1000000000/\dV (Dd (qR p) ms ms.length) s=dN p ms s):=by
 rw[aol];unfold dN;cases h:wZ (qR p) ms s with
 |none=>exact .inl ⟨rfl,rfl⟩
 |some d=>
  obtain⟨m,hm,_,hd⟩:=acC h;obtain⟨j,hj,rfl⟩:=I2 hm;have hk:=tR j hj;rw[show ms.getD j Wh.dm=ms[j] by simp[Ip,Ih hj]] at hk;have hb:=VV hp hk;rw[hd] at hb;exact .inr ⟨hb.1,hb.2,rfl⟩
def zB(x y:Int)(a b:ByteArray):Bool:=(decide (x<0)&&decide (0<=y))||((decide (x<0)==decide (y<0))&&(decide (y<x)||(decide (y=x)&&!Op.bytesLess b.toList a.toList)))
theorem Nh(p:Pl)(ms:List Wh.nZ)(v:Value)(s:ByteArray)(w:World)(hv:Wh.Sl w v ms)(hn:ms.length<=100)(hp:zj p)(tR:∀j,j<ms.length->zj (oJ (yh (ms.getD j Wh.dm)))) :
 Calls AT 147 #[Iu #[O J p.x,O J p.y,O J p.z,O J p.h,O J p.s],v,I s] w λe w'=>e=Ia (O J (dN p ms s))/\Below w.heap.size w w':=by
 obtain⟨pa,ca,rfl,_,ha⟩:=hv;have HA:Hid _:=ha;have xY:Hid _:=tR;have HPO:Hid _:=hp;have Kc:Hid ((∀j,j<ms.length->(ms.getD j Wh.dm).node≠s)->dN p ms s = -1):=λh=>by
  unfold dN wZ
  have:ms.find? (λm=>decide (m.node=s))=U:=by
   rw[List.find?_eq_none];intro x hx;obtain⟨j,hj,rfl⟩:=I2 hx;have:=h j hj;rw[show ms.getD j Wh.dm=ms[j] by simp[Ip,Ih hj]] at this;simpa using this
  rw[this];rfl
 have HYE:Hid (∀k,k<ms.length->(∀j,j<k->(ms.getD j Wh.dm).node≠s)->(ms.getD k Wh.dm).node=s->dN p ms s=qR p (ms.getD k Wh.dm)):=λk hk h1 h2=>by
  unfold dN wZ
  have:ms.find? (λm=>decide (m.node=s))=AI (ms.getD k Wh.dm):=by
   rw[show ms.getD k Wh.dm=ms[k] by simp[Ip,Ih hk]] at h2 ⊢;rw[List.find?_eq_some_iff_getElem];refine⟨by simpa using h2,k,hk,rfl,λj hj=>?_⟩;have:=h1 j hj;rw[show ms.getD j Wh.dm=ms[j]'(by omega) by simp[Ip,Ih (show j<ms.length by omega)]] at this;simpa using this
  rw[this];rfl
 clear ha tR hp;generalize dN p ms s=res at *;generalize hN:ms.length=n at *;have HN:Hid _:=hN;clear hN;go_enter func147,ntmps147;go_wp2_with fail;obtain⟨W,hW⟩:∃W,W=w.alloc (Ib #[O J p.x,O J p.y,O J p.z,O J p.h,O J p.s] 27):=⟨_,rfl⟩;rw[<- hW];have rj:Below w.heap.size w W:=by rw[hW];exact(If _ _).alloc (By _) _
 have wY:W.heap[w.heap.size]?=AI (Ib #[O J p.x,O J p.y,O J p.z,O J p.h,O J p.s] 27 (0,0)):=by rw[hW];exact Ii w _
 have n0:=fi wY 0;have n1:=fi wY 1;have n2:=fi wY 2;have n3:=fi wY 3;have n4:W.cell? ⟨w.heap.size,4,U⟩=AI (O J p.s):=fi wY 4;have rW:Hid (Below w.heap.size w W):=rj;clear wY hW;go_loopw [7] (λi wr=>∃k:Nat,k<=n/\i=O J k/\wr=W/\Hid (∀j,j<k->(ms.getD j Wh.dm).node≠s)) (λi _=>n-(intOf i).toNat)
 case atStart=>exact⟨0,Iw _,rfl,rfl,λj h=>absurd h (IV _)⟩
 case round=>
  obtain⟨k,hk,rfl,hwr,HZ⟩:=hrel;subst hwr;by_cases mS:k<n
  .obtain⟨b,off,tr,o8,hr⟩:∃b off,pa=AI ⟨b,off,U⟩/\b<w.heap.size/\Wh.Row w b off ms:=by
    rcases HA.out with h|h
    .have:=HN.out;rw[h] at this;simp at this;omega
    .exact h
   subst tr;obtain⟨c0,c1,c2,c3,c4,c5⟩:=hr.later rW.out o8 k (by rw[HN.out];exact mS);have HOM:Hid (zj (oJ (yh (ms.getD k Wh.dm)))):=xY.out k mS;have o6:Hid ((ms.getD k Wh.dm).node≠s->∀j,j<k+1->(ms.getD j Wh.dm).node≠s):=λh j hj=>by
    rcases IL.1 hj with h2|rfl
    .exact HZ.out j h2
    .exact h
   have HY2:Hid ((ms.getD k Wh.dm).node=s->res=qR p (ms.getD k Wh.dm)):=λh=>HYE.out k mS HZ.out h;clear hr;generalize ms.getD k Wh.dm=m at *;by_cases An:m.node=s
   .have HR:Hid (res=qR p m):=HY2.out An
    have HFO:Hid (∀W,Calls AT 192 #[Iu #[O J p.x,O J p.y,O J p.z,O J p.h,O J p.s],Iu #[O J m.x,O J m.y,O J m.z,O J m.h,O J m.s]] W λe w'=>e=Ia (O J (qR p m))/\Below W.heap.size W w'):=λW=>Xl p (oJ (yh m)) W HPO.out HOM.out;rw[An] at c0;clear HY2 o6 An;generalize qR p m=fd at *;obtain⟨nd,x,y,z,h,s2⟩:=m;simp only at *;have MR:b<wr.heap.size:=Ix o8 rW.out.size;have Rm:w.heap.size<wr.heap.size:=II wr ⟨w.heap.size,0,U⟩ n0;have Ni:(0:Int)<=(k:Int):=Int.natCast_nonneg _;have hk1:(k:Int)<(n:Int):=by omega
    go_wp2_with fail;go_region_held3 (λw'=>w'.cell? ⟨w.heap.size,0,U⟩=AI (O J p.x)/\w'.cell? ⟨w.heap.size,1,U⟩=AI (O J p.y)/\w'.cell? ⟨w.heap.size,2,U⟩=AI (O J p.z)/\w'.cell? ⟨w.heap.size,3,U⟩=AI (O J p.h)/\w'.cell? ⟨w.heap.size,4,U⟩=AI (O J p.s)/\w'.cell? ⟨b,off+k*6+1,U⟩=AI (O J x)/\w'.cell? ⟨b,off+k*6+2,U⟩=AI (O J y)/\w'.cell? ⟨b,off+k*6+3,U⟩=AI (O J z)/\w'.cell? ⟨b,off+k*6+4,U⟩=AI (O J h)/\w'.cell? ⟨b,off+k*6+5,U⟩=AI (O J s2))
     (first
       |go_keep
       |(go_split_ands
         refine⟨?_,?_,?_,?_,?_,?_,?_,?_,?_,?_⟩;all_goals ((rw[Dl.cell (by first|exact Rm|exact MR|(show w.heap.size<_;simp;omega)|(show b<_;simp;omega))];first|assumption|simp[*]))))
     (first
       |(go_at_call 192;refine(HFO.out _).mono ?_;rintro e w8 ⟨rfl,Dl⟩))
    have HB8:Hid (Below w.heap.size w w8):=rW.out.drew.trans (Dl.mono (by simp;omega));clear Dl;go_wp2_with fail;go_ret;exact⟨mN HR.out.symm,HB8.out⟩
   .have tu:Hid _:=o6.out An
    obtain⟨g1,g2⟩:=o0 An;clear HY2 o6 An;generalize m.node=nd at *;go_wp2_with fail;exact⟨⟨k+1,by omega,by go_num,by first|rfl|trivial,tu⟩,by simp[intOf];omega⟩
  .have HR:Hid _:=Kc.out λj hj=>HZ.out j (by omega)
   go_wp2_with fail;go_ret;exact⟨mN HR.out.symm,rW.out⟩
theorem ada{D:ByteArray->Int}{x y:Int}{a b:ByteArray}(hx:(x = -1/\D b=9223372036854775807)\/(0<=x/\x<=1000000000/\D b=x))(hy:(y = -1/\D a=9223372036854775807)\/(0<=y/\y<=1000000000/\D a=y)) :
 zB x y a b = !Dp D b a:=by
 rw[Bool.eq_iff_iff];have hl:(!Dp D b a)=true↔¬ (D b<D a\/(D b=D a/\oh b a<0)):=by
  rw[Bool.not_eq_true',zx]
 rw[hl];have hc:(!Op.bytesLess b.toList a.toList)=true↔¬ oh b a<0:=by
  rw[Bool.not_eq_true',pB,Bool.not_eq_true];rfl
 unfold zB;simp only[Bool.or_eq_true,Bool.and_eq_true,decide_eq_true_eq,beq_iff_eq,hc];have hd:(decide (x<0)=decide (y<0))↔(x<0↔y<0):=by rw[decide_eq_decide]
 rw[hd];omega
theorem V2{base:Nat}{w:World}{v:Value}{l:List ByteArray}(h:nD base w v l)(hs:∀s∈l,s.size<=Il):Bi w v l:=by
 have hz:∀j,(l.getD j Ie).size<=Il:=λj=>by
  by_cases hj:j<l.length
  .rw[show l.getD j Ie=l[j] by simp[Ip,Ih hj]];exact hs _ (List.getElem_mem hj)
  .rw[show l.getD j Ie=Ie by simp[Ip,IK (by omega:l.length<=j)]];decide
 rcases h.2 with⟨hv,h0⟩|⟨g,c,cur,hv,_,hg,_⟩
 .exact⟨U,0,by rw[hv,h0],hz,.inl (OQ.1 h0)⟩
 .refine⟨AI ⟨g,0,U⟩,c,hv,hz,.inr ⟨g,0,rfl,(Ig.1 hg).1,λj hj=>?_⟩⟩
  subst hv;rw[I6,ON h j (by omega)];simp[Ip,Ih hj]
theorem Kd{base base':Nat}{w:World}{v:Value}{n:Nat}{xs:List Value}(h:w.ownsRow base 9 1 v n xs)(hb:base'<=base):w.ownsRow base' 9 1 v n xs:=by
 obtain⟨h1,h2⟩:=h;refine⟨h1,?_⟩;rcases h2 with h2|⟨g,c,cur,hv,qa,hr⟩
 .exact .inl h2
 .exact .inr ⟨g,c,cur,hv,by omega,hr⟩
theorem ag1{base:Nat}{w:World}{v:Value}{l:List ByteArray}(h:nD base w v l){a:Option Addr}{k c:Nat}(hv:v=sh a k c):k<=c/\(∀ad,a=AI ad->∃g,ad=⟨g,0,U⟩/\base<=g)/\(a=U->k=0/\c=0):=by
 rcases h.2 with⟨XP,h0⟩|⟨g,c',cur,XP,hb,hg,rF,_⟩
 .rw[hv] at XP
  simp only[Value.slice.injEq] at XP;obtain⟨rfl,rfl,rfl⟩:=XP;exact⟨By _,λad e=>by(cases e),λ_=>⟨rfl,rfl⟩⟩
 .rw[hv] at XP
  simp only[Value.slice.injEq] at XP;obtain⟨rfl,rfl,rfl⟩:=XP;exact⟨rF,λad e=>by(cases e;exact⟨g,rfl,hb⟩),λe=>by cases e⟩
theorem Ke{lt:ByteArray->ByteArray->Bool}{x:ByteArray}{L:List ByteArray}{a:Nat}(h:So.pos lt x L=a):(L.take a).map I++([I x]++(L.drop a).map I)=(So.ins lt x L).map I:=by
 unfold So.ins;rw[h];simp
theorem V3{lt:ByteArray->ByteArray->Bool}{x:ByteArray}{L:List ByteArray}:(So.ins lt x L).length=L.length+1:=by
 have:=(So.Fb lt x L).length_eq;simpa using this
theorem Eu{X:World}{s:ByteArray}{b base:Nat}(hX:X.heap[b]?=AI (Ib #[I s] 9 (0,0)))(hb:base<=b):X.ownsRow base 9 1 (sh (AI ⟨b,0,U⟩) 1 1) 1 [I s]:=
 ⟨rfl,.inr ⟨b,1,_,rfl,hb,hX,By _,by decide,rfl,rfl⟩⟩
theorem akP(a b:ByteArray):(IT a.toList b.toList||a.toList==b.toList) = !Op.bytesLess b.toList a.toList:=by
 rcases Int.lt_trichotomy (oh a b) 0 with h|h|h
 .have h1:IT a.toList b.toList=true:=(pB a b).1 h
  have h2:IT b.toList a.toList=false:=xE h1;rw[h1,h2];rfl
 .have h1:=(oQ a b).1 h
  subst h1;rw[Cq];simp
 .have h1:IT b.toList a.toList=true:=(Bn a b).1 h
  have h2:IT a.toList b.toList=false:=xE h1;have h3:(a.toList==b.toList)=false:=(o0 (λe=>by have:=(oQ a b).2 e;omega)).1;rw[h1,h2,h3];rfl
theorem su{P:Program}{ops:Array Oper}{o:Oper}{a:Act}{w:World}{K:Act->World->Prop}{Q:Exit->Act->World->Prop}{E:Prop}(hg:o.guard=U)(s x:Operand)(t:TypeId)(hop:o.op=Op.call { callee:=Callee.builtin Builtin.append,args:=#[s,x],argTypes:=#[t,t] })
 (e:TypeId) (i:TypeInfo) (h1:P.underlying t=AI (.slice e)) (h2:P.info? e=AI i) (ao:Option Addr) (n cap:Nat) (hle:n<=cap) (hs:a.eval s=sh ao n cap)
 (ax:Option Addr) (c:Nat) (hx:a.eval x=sh ax 0 c) (hK:K (a.put o.dst (sh ao n cap)) w) :
 if Region.wanted o (yielded ops a.tmps)=true then Oper.wp P o a w K Q else E:=by
 have hw:Region.wanted o (yielded ops a.tmps)=true:=by simp[Region.wanted,hg]
 rw[if_pos hw];have tP:(Builtin.append_ #[t,t] o.type #[sh ao n cap,sh ax 0 c]).run P w=.ok (sh ao n cap) w:=by
  cases ax with
  |none=>cases ao<;>simp[Builtin.append_,Qo h1,Go.sizeOf,typeInfo,h2,Builtin.lenOf,Builtin.firstCells,hle,storeCells]
  |some ad=>
   have hf:=run_firstCells_some (P:=P) w i.size 0 ad 0 c [] (by simp) (by simp);cases ao<;>simp[Builtin.append_,Qo h1,Go.sizeOf,typeInfo,h2,Builtin.lenOf,hf,hle,storeCells]
 unfold Oper.wp;simp[execOp,hop,resolve,invoke,builtin,hs,hx,tP,Result.andThen];exact hK
theorem SP(p:Pl)(ms:List Wh.nZ)(v vn:Value)(ns:List ByteArray)(w:World)(hv:Wh.Sl w v ms)(ht:Bi w vn ns)(hn:ms.length<=100)(hm:ns.length<=100)(hp:zj p)(tR:∀j,j<ms.length->zj (oJ (yh (ms.getD j Wh.dm)))) :
 Calls AT 87 #[Iu #[O J p.x,O J p.y,O J p.z,O J p.h,O J p.s],v,vn] w λe w'=>∃v',e=Ia v'/\Bi w' v' (GD p ms ns)/\Below w.heap.size w w':=by
 obtain⟨i0,qg,oS,so,sf⟩:=info_parts Tryz.AU;have HV:Hid (Wh.Sl w v ms):=hv;have HTN:Hid (Bi w vn ns):=ht;have HFN:Hid (∀s W,Wh.Sl W v ms->Calls _ _ _ _ _):=λs W h=>Nh p ms v s W h hn hp tR;have K7:Hid (∀s,(dN p ms s = -1/\dV (Dd (qR p) ms ms.length) s=9223372036854775807)\/(0<=dN p ms s/\dN p ms s<=1000000000/\dV (Dd (qR p) ms ms.length) s=dN p ms s)):=λs=>aoB p ms s hp tR;have Mq:Hid (GD p ms ns=So.oU (Dp (dV (Dd (qR p) ms ms.length))) (ns.take ns.length)):=by
  show GD p ms ns=_;rw[List.take_length];rfl
 have HSW:Hid (Go.Sort.SWO (Dp (dV (Dd (qR p) ms ms.length)))):=MX _;have HAH:Hid (∀a b,zB (dN p ms b) (dN p ms a) a b = !Dp (dV (Dd (qR p) ms ms.length)) b a):=λa b=>ada (K7.out b) (K7.out a);have XQ:Hid (∀s,dN p ms s = -1\/(0<=dN p ms s/\dN p ms s<=1000000000)):=λs=>by
  rcases K7.out s with h|h
  .exact .inl h.1
  .exact .inr ⟨h.1,h.2.1⟩
 clear K7;generalize Dp (dV (Dd (qR p) ms ms.length))=lt at *;obtain⟨pa,ca,yq,_,_⟩:=hv;obtain⟨pn,cn,hvn,aoC,hrn⟩:=ht;have HRN:Hid _:=hrn;subst yq hvn;have aun:Hid (∀s∈ns,s.size<=Il):=λs hs=>by
  obtain⟨j,hj,rfl⟩:=I2 hs;have:=aoC j
  rwa [show ns.getD j Ie=ns[j] by simp[Ip,Ih hj]] at this
 clear tR hp aoC hrn;generalize Ap:ms.length=n at *;clear Ap;generalize hnb:ns.length=nl at *;have HNL:Hid _:=hnb;clear hnb;go_enter func87,ntmps87;go_wp2_with fail;have wY:(w.alloc (Ib #[O J p.x,O J p.y,O J p.z,O J p.h,O J p.s] 27)).heap[w.heap.size]?=AI (Ib #[O J p.x,O J p.y,O J p.z,O J p.h,O J p.s] 27 (0,0)):=Ii w _;go_loopw [7,8] (λo i wr=>∃k:Nat,k<=nl/\i=O J k/\Hid (Below w.heap.size w wr)/\Hid (wr.heap[w.heap.size]?=AI (Ib #[O J p.x,O J p.y,O J p.z,O J p.h,O J p.s] 27 (0,0)))/\Hid (Bi wr o (So.oU lt (ns.take k)))/\Hid (nD w.heap.size wr o (So.oU lt (ns.take k)))) (λ_ i _=>nl-(intOf i).toNat)
 case atStart=>exact⟨0,Iw _,rfl,(If _ _).alloc (By _) _,wY,⟨U,0,rfl,λj=>by simp[So.oU],.inl rfl⟩,tW _ _⟩
 case round=>
  obtain⟨k,hk,rfl,HB,HG,HT,Ck⟩:=hrel;clear wY;by_cases mS:k<nl
  .obtain⟨b,off,tr,o8,hr⟩:∃b off,pn=AI ⟨b,off,U⟩/\b<w.heap.size/\acH w b off ns:=by
    rcases HRN.out with h|h
    .have:=HNL.out;rw[h] at this;simp at this;omega
    .exact h
   subst tr;have od:=HB.out.size;have HC:Hid (∀W,Below wr.heap.size wr W->W.cell? ⟨b,off+k,U⟩=AI (I (ns.getD k Ie))/\W.heap[w.heap.size]?=AI (Ib #[O J p.x,O J p.y,O J p.z,O J p.h,O J p.s] 27 (0,0))):=λW hW=>by
    have Rm:=(Ig.1 HG.out).1;exact⟨(hW.cell (p:=⟨b,off+k,U⟩) (by show b<_;omega)).trans ((HB.out.cell (p:=⟨b,off+k,U⟩) o8).trans (hr k (by rw[HNL.out];exact mS))),(hW.block _ Rm).trans HG.out⟩
   have Rm:=(Ig.1 HG.out).1;have aoD:Hid _:=So.Dn lt ns k Ie (by rw[HNL.out];exact mS);have aoE:Hid (∀s∈So.oU lt (ns.take (k+1)),s.size<=Il):=λs hs=>aun.out s (List.mem_of_mem_take ((So.xa HSW.out ns (k+1)).2.mem_iff.1 hs));have DW:Hid _:=So.AV lt ns HSW.out k (by rw[HNL.out];omega);obtain⟨c0,pS⟩:=HC.out wr (If _ _);have f0:=fi pS 0;have f1:=fi pS 1;have f2:=fi pS 2;have f3:=fi pS 3;have f4:=fi pS 4;clear hr pS;generalize ns.getD k Ie=nk at *;generalize hL2:So.oU lt (ns.take (k+1))=L2 at *;have HL2:Hid _:=hL2;clear hL2;generalize So.oU lt (ns.take k)=L at *;have hN:∀d os,Calls AT 147 #[Iu #[O J p.x,O J p.y,O J p.z,O J p.h,O J p.s],sh pa n ca,I nk] (Is (IG wr d) os) λe DQ=>e=Ia (O J (dN p ms nk))/\∃p:Regrown,DQ=Is (IG wr p.d) p.os:=λd os=>Calls.regrown_of (HFN.out nk _ ((HV.out.below HB.out).below (QL wr d os)));have F0:=Im f0;have F1:=Im f1;have F2:=Im f2;have F3:=Im f3;have F4:=Im f4;have G0:=Im c0;have XC:(k:Int)<(nl:Int):=by omega
   have GM:(0:Int)<=(k:Int):=by omega
   have hi3:((k:Int)).toNat=k:=by omega
   have hwk:IntKind.i64.wrap (k:Int)=(k:Int):=by rw[IW];omega
   go_wp2_with fail;refine IX (by kernel_rfl) (by kernel_rfl) ?_;repeat(quiet_step (exact hN _ _))
   refine wpQuiet_nil ?_;intro _ hw';obtain⟨⟨dq,yx⟩,adb⟩:=hw';subst adb;have qB:Hid _:=QL wr dq yx;clear hN F0 F1 F2 F3 F4 G0 f0 f1 f2 f3 f4 c0;generalize Is (IG wr dq) yx=w5 at *;obtain⟨ao,co,ho,hoz,Er⟩:=HT.out;have HOR:Hid _:=Er;rw[DW.out] at ho;obtain⟨hkc,hao,tY⟩:=ag1 Ck.out ho;subst ho;clear Er;generalize hdk:dN p ms nk=dk at *;have HDK:Hid _:=hdk;clear hdk;obtain⟨wo,hwo⟩:∃wo,wo=wr:=⟨_,rfl⟩;subst hwo;go_wp2_with fail;go_loopw [10] (λav wx=>∃a:Nat,a<=k/\av=O J a/\Hid (Below wo.heap.size wo wx)/\Hid (∀j,j<a->lt nk (L.getD j Ie)=false)) (λav _=>k-(intOf av).toNat)
   case atStart=>exact⟨0,Iw _,rfl,qB,λj h=>absurd h (IV _)⟩
   case round=>
    obtain⟨a,hak,rfl,HX,HZ⟩:=hrel;by_cases hal:a<k
    .obtain⟨bo,oo,hpo,hlo,hro⟩:∃b off,ao=AI ⟨b,off,U⟩/\b<wo.heap.size/\acH wo b off L:=by
      rcases HOR.out with h|h
      .have:=DW.out;rw[h] at this;simp at this;omega
      .exact h
     subst hpo;have hsx:=HX.out.size;have HC2:Hid (∀W,Below wo.heap.size wo W->W.cell? ⟨bo,oo+a,U⟩=AI (I (L.getD a Ie))):=λW hW=>(hW.cell (p:=⟨bo,oo+a,U⟩) hlo).trans (hro a (by rw[DW.out];exact hal));have o6:Hid (lt nk (L.getD a Ie)=false->∀j,j<a+1->lt nk (L.getD j Ie)=false):=λh j hj=>by
      rcases IL.1 hj with h2|rfl
      .exact HZ.out j h2
      .exact h
     have akR:Hid (lt nk (L.getD a Ie)=true->So.pos lt nk L=a):=λh=>So.acK (d:=Ie) (by rw[DW.out];omega) HZ.out (λ_=>h);have HAA:=HAH.out (L.getD a Ie) nk;rw[HDK.out] at HAA;have hxb:=XQ.out nk;rw[HDK.out] at hxb;have hyb:=XQ.out (L.getD a Ie);clear hro;generalize Hv:L.getD a Ie=la at *;clear Hv;obtain⟨c0,pS⟩:=HC.out wr HX.out;have c1:=HC2.out wr HX.out;have hN:∀d os,Calls AT 147 #[Iu #[O J p.x,O J p.y,O J p.z,O J p.h,O J p.s],sh pa n ca,I la] (Is (IG wr d) os) λe DQ=>e=Ia (O J (dN p ms la))/\∃p:Regrown,DQ=Is (IG wr p.d) p.os:=λd os=>Calls.regrown_of (HFN.out la _ (((HV.out.below HB.out).below HX.out).below (QL wr d os)));have F0:=Im (fi pS 0);have F1:=Im (fi pS 1);have F2:=Im (fi pS 2);have F3:=Im (fi pS 3);have F4:=Im (fi pS 4);have G0:=Im c1;have ha1:(a:Int)<(k:Int):=by omega
     have ha2:(0:Int)<=(a:Int):=by omega
     have ha3:((a:Int)).toNat=a:=by omega
     have Lo:IntKind.i64.wrap (a:Int)=(a:Int):=by rw[IW];omega
     clear c0 c1 pS;go_wp2_with fail;refine IX (by kernel_rfl) (by kernel_rfl) ?_;repeat(quiet_step (exact hN _ _))
     refine wpQuiet_nil ?_;intro _ hw';obtain⟨⟨dq2,aoH⟩,adb⟩:=hw';subst adb;have HX6:Hid _:=HX.out.trans ((QL wr dq2 aoH).mono HX.out.size);clear hN F0 F1 F2 F3 F4 G0;generalize Is (IG wr dq2) aoH=w6 at *;obtain⟨c0,_⟩:=HC.out w6 HX6.out;have c1:=HC2.out w6 HX6.out;generalize dN p ms la=dy at *;have HXD:Hid (∀m,Below wo.heap.size wo (w6.drewN m)):=λm=>HX6.out.trans ((show Below w6.heap.size w6 (w6.drewN m) from⟨rfl,rfl,rfl,By _,λ_ _=>rfl⟩).mono HX6.out.size);have Nj:(zB dk dy la nk=true/\((decide (dk<0)=true/\decide (0<=dy)=true)\/(decide (dk<0)=true/\decide (0<=dy)=false/\decide (dy<0)=true/\decide (dy<dk)=false/\(dy==dk)=true/\(IT la.toList nk.toList||la.toList==nk.toList)=true)\/(decide (dk<0)=false/\decide (dy<0)=false/\decide (dy<dk)=true)\/(decide (dk<0)=false/\decide (dy<0)=false/\decide (dy<dk)=false/\(dy==dk)=true/\(IT la.toList nk.toList||la.toList==nk.toList)=true))) \/
      (zB dk dy la nk=false/\((decide (dk<0)=true/\decide (0<=dy)=false/\decide (dy<0)=true/\decide (dy<dk)=false/\(dy==dk)=true/\(IT la.toList nk.toList||la.toList==nk.toList)=false)\/(decide (dk<0)=false/\decide (dy<0)=true)\/(decide (dk<0)=false/\decide (dy<0)=false/\decide (dy<dk)=false/\(dy==dk)=true/\(IT la.toList nk.toList||la.toList==nk.toList)=false)\/(decide (dk<0)=false/\decide (dy<0)=false/\decide (dy<dk)=false/\(dy==dk)=false))):=by
      rw[akP];unfold zB;cases nE:IT nk.toList la.toList<;>rcases hxb with hx|⟨hx,_⟩<;>rcases hyb with hy|⟨hy,_⟩<;>rcases Int.lt_trichotomy dy dk with h3|h3|h3<;>simp<;>omega
     clear hxb hyb;rcases Nj with⟨hah,oH⟩|⟨hah,oH⟩
     .have tu:Hid _:=o6.out (by rw[hah] at HAA;simpa using HAA.symm)
      clear o6 akR HAA hah;rcases oH with⟨g1,g2⟩|⟨g1,g2,g3,g4,g5,g6⟩|⟨g1,g2,g3⟩|⟨g1,g2,g3,g4,g5⟩;all_goals
       go_wp2_with fail;go_quiet (fail)
       go_wp2_with fail;exact⟨⟨a+1,by omega,by go_num,HXD.out _,tu⟩,by simp[intOf];omega⟩
     .have HPA:Hid _:=akR.out (by rw[hah] at HAA;simpa using HAA.symm)
      clear o6 akR HAA hah;rcases oH with⟨g1,g2,g3,g4,g5,g6⟩|⟨g1,g2⟩|⟨g1,g2,g3,g4,g5⟩|⟨g1,g2,g3,g4⟩;all_goals
       go_wp2_with fail;go_quiet (fail)
       go_wp2_with fail;have HX7:Hid _:=HXD.out nq;clear HXD c0 c1;generalize w6.drewN nq=w7 at *;obtain⟨c0,_⟩:=HC.out w7 HX7.out;have hs7:=HX7.out.size;obtain⟨gz,hgz,Xm⟩:=hao _ rfl;have hoo:oo=0:=by simp only[Addr.mk.injEq] at hgz;exact hgz.2.1
       have hbo:bo=gz:=by simp only[Addr.mk.injEq] at hgz;exact hgz.1
       subst hoo;subst hbo;clear hgz;have aoJ:bo<w7.heap.size:=by omega
       have HCE:Hid (∀j,j<k->w7.cell? ⟨bo,0+j,U⟩=AI (I (L.getD j Ie))):=λj hj=>by
        rcases HOR.out with h|⟨b',ag5,h1,h2,h3⟩
        .have:=DW.out;rw[h] at this;simp at this;omega
        .simp only[Option.some.injEq,Addr.mk.injEq] at h1
         obtain⟨rfl,rfl,_⟩:=h1;exact(HX7.out.cell (p:=⟨bo,0+j,U⟩) hlo).trans (h3 j (by rw[DW.out];exact hj))
       have e0:=Jn w7 _ c0;have ha4:(a:Int)<=(co:Int):=by omega
       have ha5:(a:Int)<=(k:Int):=by omega
       have hk5:(k:Int)<=(co:Int):=by omega
       have hca:¬ co=a:=by omega
       have aur:1+(k-a)<=Il:=by unfold Il;omega
       have hbb:(1+(k-a))*16<=140737488355328:=by omega
       have ME:a+(1+(k-a))<=Il:=by unfold Il;omega
       have hcb:(a+(1+(k-a)))*16<=140737488355328:=by omega
       have CI:Hid _:=DW.out;have Al:=o8;have akW:Hid (∀(Y:World),Below w7.heap.size w7 Y->∀j u,((L.drop a).map I)[j]?=AI u->Y.cell? (Addr.add ⟨bo,a,U⟩ j)=AI u):=λY hY j u hj=>by
        have hl:j<(L.drop a).length:=by have:=(I7.1 hj).1;simpa using this
        have oR:a+j<k:=by rw[I9,CI.out] at hl;omega
        rw[Addr.add_lit,hY.cell (p:=⟨bo,a+j,U⟩) aoJ];have h:=HCE.out (a+j) oR;rw[I6] at h;rw[h];simpa[Ip,Ih (show a+j<L.length by rw[CI.out];exact oR)] using hj
       have akX:Hid (∀(Y:World),Below w7.heap.size w7 Y->∀ad:Addr,AI (⟨bo,0,U⟩:Addr)=AI ad->∀j u,((L.take a).map I)[j]?=AI u->Y.cell? (ad.add j)=AI u):=λY hY ad had j u hj=>by
        cases had
        have hl:j<(L.take a).length:=by have:=(I7.1 hj).1;simpa using this
        have oR:j<a:=by rw[IA] at hl;omega
        rw[Addr.add_lit,hY.cell (p:=⟨bo,0+j,U⟩) aoJ,HCE.out j (by omega)];have h3:j<L.length:=by rw[CI.out];omega
        simpa[Ip,Ih h3,List.getElem?_take_of_lt oR] using hj
       go_region_held3 (λw'=>w'.cell? ⟨b,off+k,U⟩=AI (I nk)) (first|go_keep|((rw[qD.cell_far _ (by show b<_;have h8:=CJ.size;simp at h8;omega) (by simp)];assumption))|((rw[CJ.cell_far _ (by show b<_;simp;omega) (by simp[Jb];omega)];assumption))|(trace_state;fail))
        (first
          |(refine Qm _ (by rfl) _ _ _ (by rfl) w.heap.size 9 i0 _ 1 16 IS qg oS so sf rfl (by omega) (sh (AI ⟨w7.heap.size,0,U⟩) 1 1) 1 [I nk] (by rfl) ((Eu (Ii w7 _) (by omega)).drew) ⟨bo,a,U⟩ (k-a) (co-a) ((L.drop a).map I) (by rfl) (by rw[I8,I9,CI.out,Nat.mul_one]) (akW.out _ ((If _ _).alloc (By _) _).drew) (qj _) (by omega) aur hbb (by simp;omega) _ rfl ?_
            intro g1 c1' w8 ade CJ aut auu)
          |(refine step_append_grows rfl (.tmp 78) (.tmp 87) 107 (by rfl) 9 i0 _ 1 16 IS qg oS so sf rfl (by omega) (AI ⟨bo,0,U⟩) a a ((L.take a).map I) (by rfl) (λh=>by cases h) (by rw[I8,IA,CI.out,Nat.mul_one];omega) (akX.out _ ?_) ⟨g1,0,U⟩ (1+(k-a)) c1' ([I nk]++(L.drop a).map I) (by rfl) ade.1 (tD ade) ?_ (by omega) ME hcb ?_
            (focus (exact((If _ _).alloc (By _) _).drew.grown CJ (by simp) (λj hj=>by simp[Jb] at hj;omega)))
            (focus (exact qj (nk::L.drop a)))
            intro v9 w9 vZ qD)
          |(trace_state;fail))
       have hz8:w7.heap.size+1<=w8.heap.size:=by have h8:=CJ.size;simpa using h8
       have HB8:Hid _:=(HX7.out.alloc (by omega) _).drew.grown CJ (by simp;omega) (λj hj=>by simp[Jb] at hj;omega);have uy:Hid _:=HB8.out.grown qD (by omega) (λj hj=>by cases hj);have auv:Hid _:=HB.out.trans (uy.out.mono HB.out.size);have HG9:=(HC.out w9 uy.out).2;have HO9:Hid (nD w.heap.size w9 v9 L2):=by
        show Oy _ _ _ _ _ _ _;have h:=Kd vZ (base':=w.heap.size) (by omega);rw[Ke HPA.out] at h;rw[aoD.out];have e:(So.ins lt nk L).length=a+(1+(k-a)):=by rw[V3,CI.out];omega
        rw[e];exact h
       have HT9:Hid (Bi w9 v9 L2):=V2 HO9.out aoE.out;clear ade vZ CJ qD aut auu c0;go_wp2_with fail;exact⟨⟨k+1,by omega,by go_num,auv,HG9,by rw[HL2.out];exact HT9,by rw[HL2.out];exact HO9⟩,by simp[intOf];omega⟩
    .have aon:a=k:=by omega
     have HPA:Hid (So.pos lt nk L=k):=by
      show So.pos lt nk L=k;refine So.acK (d:=Ie) (by rw[DW.out];exact By _) (λj hj=>HZ.out j (by omega)) (λh=>by rw[DW.out] at h;omega)
     subst aon;obtain⟨c0,_⟩:=HC.out wr HX.out;have hs7:=HX.out.size;have e0:=Jn wr _ c0;have CI:Hid _:=DW.out;have ME:a+1<=Il:=by unfold Il;omega
     have hcb:(a+1)*16<=140737488355328:=by omega
     have Al:=o8;have HCE:Hid (∀(Y:World),Below wr.heap.size wr Y->∀ad:Addr,ao=AI ad->∀j u,(L.map I)[j]?=AI u->Y.cell? (ad.add j)=AI u):=λY hY ad had j u hj=>by
      subst had;have hl:j<L.length:=by have:=(I7.1 hj).1;simpa using this
      rcases HOR.out with h|⟨b',ag5,h1,h2,h3⟩
      .rw[h] at hl;simp at hl
      .simp only[Option.some.injEq] at h1
       subst h1;rw[Addr.add_lit,hY.cell (p:=⟨b',ag5+j,U⟩) (by show b'<_;omega),HX.out.cell (p:=⟨b',ag5+j,U⟩) h2,h3 j hl];simpa[Ip,Ih hl] using hj
     have SQ:Hid (∀(v9:Value) (w9:World),w9.ownsRow (wr.heap.size+1) 9 1 v9 (a+1) (L.map I++[I nk])->Below wo.heap.size wo w9->(Below w.heap.size w w9/\w9.heap[w.heap.size]?=AI (Ib #[O J p.x,O J p.y,O J p.z,O J p.h,O J p.s] 27 (0,0))/\Bi w9 v9 L2/\nD w.heap.size w9 v9 L2)):=λv9 w9 h1 h2=>by
      have hO:nD w.heap.size w9 v9 L2:=by
       show Oy _ _ _ _ _ _ _;have h:=Kd h1 (base':=w.heap.size) (by omega);have e2:=Ke HPA.out;rw[List.take_of_length_le (by rw[CI.out];exact By _),List.drop_of_length_le (by rw[CI.out];exact By _)] at e2;simp only[List.map_nil,List.append_nil] at e2;rw[e2] at h;rw[aoD.out];have e:(So.ins lt nk L).length=a+1:=by rw[V3,CI.out]
       rw[e];exact h
      exact⟨HB.out.trans (h2.mono HB.out.size),(HC.out w9 h2).2,V2 hO aoE.out,hO⟩
     cases ao with
     |none=>
      obtain⟨ha0,Aj⟩:=tY rfl;subst ha0 Aj;rw[Nat.add_zero] at c0;go_wp2_with fail;go_region_held3 (λw'=>w'.cell? ⟨b,off,U⟩=AI (I nk)) (first|go_keep|((rw[qD.cell_far _ (by show b<_;simp;omega) (by simp)];assumption)))
       (first
         |(refine su (by rfl) (.tmp 83) (.tmp 86) 107 (by rfl) 9 i0 IS qg (AI ⟨wr.heap.size,0,U⟩) 1 1 (By _) (by rfl) _ _ (by rfl) ?_)
         |(refine step_append_grows rfl (.tmp 78) (.tmp 87) 107 (by rfl) 9 i0 _ 1 16 IS qg oS so sf rfl (by omega) U 0 0 (L.map I) (by rfl) (λ_=>⟨rfl,rfl⟩) (by rw[I8,CI.out,Nat.mul_one]) (HCE.out _ ((If _ _).alloc (By _) _).drew) ⟨wr.heap.size,0,U⟩ 1 1 [I nk] (by rfl) rfl (tD ((Eu (base:=0) (Ii wr _) (Iw _)).drew)) (qj [nk]) (by omega) ME hcb ?_
           intro v9 w9 vZ qD))
      have uy:=((HX.out.alloc (by omega) _).drew).grown qD (by simp;omega) (λj hj=>by cases hj);obtain⟨r1,r2,r3,r4⟩:=SQ.out v9 w9 (by simpa using vZ) uy;clear vZ qD c0 uy;go_wp2_with fail;exact⟨⟨0+1,by omega,by go_num,r1,r2,by rw[HL2.out];exact r3,by rw[HL2.out];exact r4⟩,by simp[intOf];omega⟩
     |some ad=>
      obtain⟨gz,rfl,Xm⟩:=hao ad rfl;have ha4:(a:Int)<=(co:Int):=by omega
      by_cases Mp:co=a
      .subst Mp
       go_wp2_with fail;go_region_held3 (λw'=>w'.cell? ⟨b,off+co,U⟩=AI (I nk)) (first|go_keep|((rw[qD.cell_far _ (by show b<_;simp;omega) (by simp)];assumption)))
        (first
          |(refine su (by rfl) (.tmp 83) (.tmp 86) 107 (by rfl) 9 i0 IS qg (AI ⟨wr.heap.size,0,U⟩) 1 1 (By _) (by rfl) _ _ (by rfl) ?_)
          |(refine step_append_grows rfl (.tmp 78) (.tmp 87) 107 (by rfl) 9 i0 _ 1 16 IS qg oS so sf rfl (by omega) (AI ⟨gz,0,U⟩) co co (L.map I) (by rfl) (λh=>by cases h) (by rw[I8,CI.out,Nat.mul_one]) (HCE.out _ ((If _ _).alloc (By _) _).drew) ⟨wr.heap.size,0,U⟩ 1 1 [I nk] (by rfl) rfl (tD ((Eu (base:=0) (Ii wr _) (Iw _)).drew)) (qj [nk]) (by omega) ME hcb ?_
            intro v9 w9 vZ qD)
          |fail)
       have uy:=((HX.out.alloc (by omega) _).drew).grown qD (by simp;omega) (λj hj=>by cases hj);obtain⟨r1,r2,r3,r4⟩:=SQ.out v9 w9 (by simpa using vZ) uy;clear vZ qD c0 uy;go_wp2_with fail;exact⟨⟨co+1,by omega,by go_num,r1,r2,by rw[HL2.out];exact r3,by rw[HL2.out];exact r4⟩,by simp[intOf];omega⟩
      .go_wp2_with fail
       go_region_held3 (λw'=>w'.cell? ⟨b,off+a,U⟩=AI (I nk)) (first|go_keep|((rw[qD.cell_far _ (by show b<_;simp;omega) (by simp)];assumption)))
        (first
          |(refine su (by rfl) (.tmp 83) (.tmp 86) 107 (by rfl) 9 i0 IS qg (AI ⟨wr.heap.size,0,U⟩) 1 1 (By _) (by rfl) _ _ (by rfl) ?_)
          |(refine step_append_grows rfl (.tmp 78) (.tmp 87) 107 (by rfl) 9 i0 _ 1 16 IS qg oS so sf rfl (by omega) (AI ⟨gz,0,U⟩) a a (L.map I) (by rfl) (λh=>by cases h) (by rw[I8,CI.out,Nat.mul_one]) (HCE.out _ ((If _ _).alloc (By _) _).drew) ⟨wr.heap.size,0,U⟩ 1 1 [I nk] (by rfl) rfl (tD ((Eu (base:=0) (Ii wr _) (Iw _)).drew)) (qj [nk]) (by omega) ME hcb ?_
            intro v9 w9 vZ qD)
          |fail)
       have uy:=((HX.out.alloc (by omega) _).drew).grown qD (by simp;omega) (λj hj=>by cases hj);obtain⟨r1,r2,r3,r4⟩:=SQ.out v9 w9 (by simpa using vZ) uy;clear vZ qD c0 uy;go_wp2_with fail;exact⟨⟨a+1,by omega,by go_num,r1,r2,by rw[HL2.out];exact r3,by rw[HL2.out];exact r4⟩,by simp[intOf];omega⟩
  .have tp:k=nl:=by omega
   subst tp;go_wp2_with fail;go_ret;exact⟨u7,rfl,by rw[Mq.out];exact HT.out,HB.out⟩
end Go.Proofs.YtipbebleapjcjaaGreatDoor
