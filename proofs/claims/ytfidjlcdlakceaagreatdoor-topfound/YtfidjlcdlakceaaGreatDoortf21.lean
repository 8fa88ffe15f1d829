import Derived.Test.YtfidjlcdlakceaaGreatDoortf16
import Derived.Shelf.SlSortFunc.HeapSort
import Derived.Deep.RegionLawGrows
set_option maxHeartbeats 12800000
set_option maxRecDepth 100000
open Go renaming maxLen→Ij,bodyPost_ret→Ix,heap_alloc_new→Ie,plainElem→Jo,step_append_lies→QD
open Go.Value renaming agg→Im,slice→U,string→I,int→O,bool→AI,tuple→Il,func→IZ,pointer→If,ownBlock→I2
open Go.IntKind renaming i64→J
open Go.Ending renaming returned→sh
open Go.Proofs.Tryz renaming prog→be,results195→Uu,isAgg9→Ob,sizeOf9→JX,underlying297→QM
open Go.RowKit.Below renaming refl→Ib,heap_alloc→It
open Nat renaming le_refl→By,zero_le→II,lt_of_lt_of_le→Iv
open ByteArray renaming mk→JZ,empty→Ih
open Go.Obj renaming cells→AT
open Option renaming some→Z,none→Y
open Go.World renaming frozen?→Ig,block_lt_of_cell?→IH,new_ne→Ju
open List renaming getD→Io,getElem?_eq_getElem→Ic,length_eq_zero_iff→O7,getD_cons_succ→Jx
open Go.Proofs renaming sortWorld→Uo,cell?_sortWorld_other→Qo
open Go.Sort renaming ahead→Jy
open Array renaming extract_size→UD,getElem?_eq_some_iff→Ia
namespace Go.Proofs.YtfidjlcdlakceaaGreatDoor
open Go.RowKit
theorem AX(here:ByteArray)(ps pm pw:Option Addr)(ns cs nm cm nw cw:Nat)(px py pz ph pq:Int)(name:ByteArray)(t:Int)(s:Sv.aI)(w:World)(hh:here.size<=Ij)(hs:s.node.size<=Ij) :
 Calls be 195 #[Im (eQ here (U ps ns cs) (U pm nm cm) px py pz ph pq (U pw nw cw)),Im #[I name,O J t,O J 0,O J 0,I ⟨#[]⟩,O J 0,I ⟨#[]⟩],Im #[I s.node,I s.bF,I s.name,I s.tag,O J s.addr,O J s.port,AI s.au,O J s.version,AI s.gone]] w λe w'=>∃r:Rc.Rec,e=sh (Il #[Im #[I r.name,O J r.an,O J r.aK,O J r.addr,I r.text,O J r.port,I r.target],O J (ic here t s)])/\(ic here t s=0->r=jj name here t s)/\Below w.heap.size w w':=by
 obtain⟨nd,bF,Fv,tag,ad,po,lS,lT,lU⟩:=s;simp only at hs;by_cases h1:t=1
 .have HE:Hid (ic here t ⟨nd,bF,Fv,tag,ad,po,lS,lT,lU⟩=0):=by subst h1;rfl
  have HR:Hid (jj name here t ⟨nd,bF,Fv,tag,ad,po,lS,lT,lU⟩=⟨name,1,0,ad,⟨#[]⟩,0,⟨#[]⟩⟩):=by subst h1;rfl
  subst h1;go_enter Tryz.func195,Tryz.ntmps195;go_wp2_with fail;refine Ix (v:=Il #[Im #[I name,O J 1,O J 0,O J ad,I ⟨#[]⟩,O J 0,I ⟨#[]⟩],O J 0]) ?_ rfl ⟨⟨name,1,0,ad,⟨#[]⟩,0,⟨#[]⟩⟩,by rw[HE.out],λ_=>HR.out.symm,?_⟩
  .simp[results,Uu,go_sem]
  .exact((((Ib _ _).alloc (By _) _).alloc (by simp) _).alloc (by simp<;>omega) _).alloc (by simp<;>omega) _
 .by_cases h16:t=16
  .have HE:Hid (ic here t ⟨nd,bF,Fv,tag,ad,po,lS,lT,lU⟩=0):=by subst h16;rfl
   have HR:Hid (jj name here t ⟨nd,bF,Fv,tag,ad,po,lS,lT,lU⟩=⟨name,16,0,0,bF,0,⟨#[]⟩⟩):=by subst h16;rfl
   subst h16;clear h1;go_enter Tryz.func195,Tryz.ntmps195;go_wp2_with fail;refine Ix (v:=Il #[Im #[I name,O J 16,O J 0,O J 0,I bF,O J 0,I ⟨#[]⟩],O J 0]) ?_ rfl ⟨⟨name,16,0,0,bF,0,⟨#[]⟩⟩,by rw[HE.out],λ_=>HR.out.symm,?_⟩
   .simp[results,Uu,go_sem]
   .exact((((Ib _ _).alloc (By _) _).alloc (by simp) _).alloc (by simp<;>omega) _).alloc (by simp<;>omega) _
  .by_cases h33:t=33
   .have HE:Hid (ic here t ⟨nd,bF,Fv,tag,ad,po,lS,lT,lU⟩=jk (qN nd here)):=by subst h33;rfl
    have HR:Hid (jj name here t ⟨nd,bF,Fv,tag,ad,po,lS,lT,lU⟩=⟨name,33,0,0,⟨#[]⟩,po,iy (qN nd here)⟩):=by subst h33;rfl
    have HP:Hid (∀W,Calls be 8 #[Im #[I ⟨#[]⟩,I ⟨#[]⟩,I nd,I here]] W λe w'=>e=sh (Il #[I (iy (qN nd here)),O J (jk (qN nd here))])/\Below W.heap.size W w'):=λW=>nz (qN nd here) W ⟨by show(JZ #[]).size<=Ij;decide,by show(JZ #[]).size<=Ij;decide,hs,hh⟩;subst h33;clear h1 h16;generalize jk (qN nd here)=PE at *;generalize iy (qN nd here)=PS at *;go_enter Tryz.func195,Tryz.ntmps195;go_wp2_with fail;obtain⟨W,hW⟩:∃W,W=(((w.alloc (AT (eQ here (U ps ns cs) (U pm nm cm) px py pz ph pq (U pw nw cw)) 137)).alloc (AT #[I name,O J 33,O J 0,O J 0,I ⟨#[]⟩,O J 0,I ⟨#[]⟩] 64)).alloc (AT #[I nd,I bF,I Fv,I tag,O J ad,O J po,AI lS,O J lT,AI lU] 52)).alloc (AT #[I ⟨#[]⟩,O J 0,O J 0,O J 0,I ⟨#[]⟩,O J 0,I ⟨#[]⟩] 64):=⟨_,rfl⟩;rw[<- hW];have ez:Below w.heap.size w W:=by rw[hW];exact((((Ib _ _).alloc (By _) _).alloc (by simp) _).alloc (by simp<;>omega) _).alloc (by simp<;>omega) _
    have bb:W.heap[w.heap.size+1]?=Z (AT #[I name,O J 33,O J 0,O J 0,I ⟨#[]⟩,O J 0,I ⟨#[]⟩] 64 (0,0)):=by
     rw[hW,It _ _ _ (by simp<;>omega),It _ _ _ (by simp)];have h:=Ie (w.alloc (AT (eQ here (U ps ns cs) (U pm nm cm) px py pz ph pq (U pw nw cw)) 137)) (AT #[I name,O J 33,O J 0,O J 0,I ⟨#[]⟩,O J 0,I ⟨#[]⟩] 64);simpa using h
    have iL:W.heap[w.heap.size+2]?=Z (AT #[I nd,I bF,I Fv,I tag,O J ad,O J po,AI lS,O J lT,AI lU] 52 (0,0)):=by
     rw[hW,It _ _ _ (by simp)];have h:=Ie ((w.alloc (AT (eQ here (U ps ns cs) (U pm nm cm) px py pz ph pq (U pw nw cw)) 137)).alloc (AT #[I name,O J 33,O J 0,O J 0,I ⟨#[]⟩,O J 0,I ⟨#[]⟩] 64)) (AT #[I nd,I bF,I Fv,I tag,O J ad,O J po,AI lS,O J lT,AI lU] 52);simpa using h
    have vt:W.heap[w.heap.size+3]?=Z (AT #[I ⟨#[]⟩,O J 0,O J 0,O J 0,I ⟨#[]⟩,O J 0,I ⟨#[]⟩] 64 (0,0)):=by
     rw[hW];have h:=Ie (((w.alloc (AT (eQ here (U ps ns cs) (U pm nm cm) px py pz ph pq (U pw nw cw)) 137)).alloc (AT #[I name,O J 33,O J 0,O J 0,I ⟨#[]⟩,O J 0,I ⟨#[]⟩] 64)).alloc (AT #[I nd,I bF,I Fv,I tag,O J ad,O J po,AI lS,O J lT,AI lU] 52)) (AT #[I ⟨#[]⟩,O J 0,O J 0,O J 0,I ⟨#[]⟩,O J 0,I ⟨#[]⟩] 64);simpa using h
    have oX:w.heap.size+4<=W.heap.size:=by rw[hW];simp
    clear hW;refine(HP.out _).mono ?_;rintro e w1 ⟨rfl,al⟩;have k1:w1.heap[w.heap.size+1]?=_:=(al.block _ (by omega)).trans bb;have k2:w1.heap[w.heap.size+2]?=_:=(al.block _ (by omega)).trans iL;have k3:w1.heap[w.heap.size+3]?=_:=(al.block _ (by omega)).trans vt;have HB:Hid (Below w.heap.size w w1):=ez.trans (al.mono (by omega));have l0:w1.cell? ⟨w.heap.size+1,0,Y⟩=Z (I name):=af k1 0;have zl0:w1.frozen? ⟨w.heap.size+1,0,Y⟩=false:=by simp[Ig,k1]
    have l1:w1.cell? ⟨w.heap.size+1,1,Y⟩=Z (O J 33):=af k1 1;have zl1:w1.frozen? ⟨w.heap.size+1,1,Y⟩=false:=by simp[Ig,k1]
    have l2:w1.cell? ⟨w.heap.size+1,2,Y⟩=Z (O J 0):=af k1 2;have zl2:w1.frozen? ⟨w.heap.size+1,2,Y⟩=false:=by simp[Ig,k1]
    have l3:w1.cell? ⟨w.heap.size+1,3,Y⟩=Z (O J 0):=af k1 3;have zl3:w1.frozen? ⟨w.heap.size+1,3,Y⟩=false:=by simp[Ig,k1]
    have l4:w1.cell? ⟨w.heap.size+1,4,Y⟩=Z (I ⟨#[]⟩):=af k1 4;have zl4:w1.frozen? ⟨w.heap.size+1,4,Y⟩=false:=by simp[Ig,k1]
    have l5:w1.cell? ⟨w.heap.size+1,5,Y⟩=Z (O J 0):=af k1 5;have zl5:w1.frozen? ⟨w.heap.size+1,5,Y⟩=false:=by simp[Ig,k1]
    have l6:w1.cell? ⟨w.heap.size+1,6,Y⟩=Z (I ⟨#[]⟩):=af k1 6;have zl6:w1.frozen? ⟨w.heap.size+1,6,Y⟩=false:=by simp[Ig,k1]
    have s0:w1.cell? ⟨w.heap.size+2,0,Y⟩=Z (I nd):=af k2 0;have s1:w1.cell? ⟨w.heap.size+2,1,Y⟩=Z (I bF):=af k2 1;have s2:w1.cell? ⟨w.heap.size+2,2,Y⟩=Z (I Fv):=af k2 2;have s3:w1.cell? ⟨w.heap.size+2,3,Y⟩=Z (I tag):=af k2 3;have s4:w1.cell? ⟨w.heap.size+2,4,Y⟩=Z (O J ad):=af k2 4;have s5:w1.cell? ⟨w.heap.size+2,5,Y⟩=Z (O J po):=af k2 5;have s6:w1.cell? ⟨w.heap.size+2,6,Y⟩=Z (AI lS):=af k2 6;have s7:w1.cell? ⟨w.heap.size+2,7,Y⟩=Z (O J lT):=af k2 7;have s8:w1.cell? ⟨w.heap.size+2,8,Y⟩=Z (AI lU):=af k2 8;have r0:w1.cell? ⟨w.heap.size+3,0,Y⟩=Z (I ⟨#[]⟩):=af k3 0;have zr0:w1.frozen? ⟨w.heap.size+3,0,Y⟩=false:=by simp[Ig,k3]
    have r1:w1.cell? ⟨w.heap.size+3,1,Y⟩=Z (O J 0):=af k3 1;have zr1:w1.frozen? ⟨w.heap.size+3,1,Y⟩=false:=by simp[Ig,k3]
    have r2:w1.cell? ⟨w.heap.size+3,2,Y⟩=Z (O J 0):=af k3 2;have zr2:w1.frozen? ⟨w.heap.size+3,2,Y⟩=false:=by simp[Ig,k3]
    have r3:w1.cell? ⟨w.heap.size+3,3,Y⟩=Z (O J 0):=af k3 3;have zr3:w1.frozen? ⟨w.heap.size+3,3,Y⟩=false:=by simp[Ig,k3]
    have r4:w1.cell? ⟨w.heap.size+3,4,Y⟩=Z (I ⟨#[]⟩):=af k3 4;have zr4:w1.frozen? ⟨w.heap.size+3,4,Y⟩=false:=by simp[Ig,k3]
    have r5:w1.cell? ⟨w.heap.size+3,5,Y⟩=Z (O J 0):=af k3 5;have zr5:w1.frozen? ⟨w.heap.size+3,5,Y⟩=false:=by simp[Ig,k3]
    have r6:w1.cell? ⟨w.heap.size+3,6,Y⟩=Z (I ⟨#[]⟩):=af k3 6;have zr6:w1.frozen? ⟨w.heap.size+3,6,Y⟩=false:=by simp[Ig,k3]
    clear ez bb iL vt al oX k1 k2 k3;by_cases h0:PE=0
    .subst h0
     go_wp2_with fail;refine Ix (v:=Il #[Im #[I name,O J 33,O J 0,O J 0,I ⟨#[]⟩,O J po,I PS],O J 0]) ?_ rfl ⟨⟨name,33,0,0,⟨#[]⟩,po,PS⟩,by rw[HE.out],λ_=>HR.out.symm,?_⟩
     .simp[results,Uu,go_sem,r0,r1,r2,r3,r4,r5,r6]
     .exact(((((((((HB.out.setCell (p:=⟨w.heap.size+1,5,Y⟩) (by simp<;>omega) _).setCell (p:=⟨w.heap.size+1,6,Y⟩) (by simp<;>omega) _).setCell (p:=⟨w.heap.size+1+1+1,0,Y⟩) (by simp<;>omega) _).setCell (p:=⟨w.heap.size+1+1+1,1,Y⟩) (by simp<;>omega) _).setCell (p:=⟨w.heap.size+1+1+1,2,Y⟩) (by simp<;>omega) _).setCell (p:=⟨w.heap.size+1+1+1,3,Y⟩) (by simp<;>omega) _).setCell (p:=⟨w.heap.size+1+1+1,4,Y⟩) (by simp<;>omega) _).setCell (p:=⟨w.heap.size+1+1+1,5,Y⟩) (by simp<;>omega) _).setCell (p:=⟨w.heap.size+1+1+1,6,Y⟩) (by simp<;>omega) _)
    .have h0':(PE !=0)=true:=by simpa using h0
     go_wp2_with fail;refine Ix (v:=Il #[Im #[I ⟨#[]⟩,O J 0,O J 0,O J 0,I ⟨#[]⟩,O J 0,I ⟨#[]⟩],O J PE]) ?_ rfl ⟨⟨⟨#[]⟩,0,0,0,⟨#[]⟩,0,⟨#[]⟩⟩,by rw[HE.out],λh=>absurd (HE.out.symm.trans h) h0,?_⟩
     .simp[results,Uu,go_sem,r0,r1,r2,r3,r4,r5,r6]
     .exact(((((((HB.out.setCell (p:=⟨w.heap.size+1+1+1,0,Y⟩) (by simp<;>omega) _).setCell (p:=⟨w.heap.size+1+1+1,1,Y⟩) (by simp<;>omega) _).setCell (p:=⟨w.heap.size+1+1+1,2,Y⟩) (by simp<;>omega) _).setCell (p:=⟨w.heap.size+1+1+1,3,Y⟩) (by simp<;>omega) _).setCell (p:=⟨w.heap.size+1+1+1,4,Y⟩) (by simp<;>omega) _).setCell (p:=⟨w.heap.size+1+1+1,5,Y⟩) (by simp<;>omega) _).setCell (p:=⟨w.heap.size+1+1+1,6,Y⟩) (by simp<;>omega) _)
   .have HE:Hid (ic here t ⟨nd,bF,Fv,tag,ad,po,lS,lT,lU⟩=0):=by show ic _ _ _=0;unfold ic;rw[if_neg h33]
    have HR:Hid (jj name here t ⟨nd,bF,Fv,tag,ad,po,lS,lT,lU⟩=⟨name,t,0,0,⟨#[]⟩,0,⟨#[]⟩⟩):=by show jj _ _ _ _=_;unfold jj;rw[if_neg h1,if_neg h16,if_neg h33,if_neg h33]
    have g1:(t==1)=false:=by simpa using h1
    have g2:(t==16)=false:=by simpa using h16
    have g3:(t==33)=false:=by simpa using h33
    go_enter Tryz.func195,Tryz.ntmps195;go_wp2_with fail;refine Ix (v:=Il #[Im #[I name,O J t,O J 0,O J 0,I ⟨#[]⟩,O J 0,I ⟨#[]⟩],O J 0]) ?_ rfl ⟨⟨name,t,0,0,⟨#[]⟩,0,⟨#[]⟩⟩,by rw[HE.out],λ_=>HR.out.symm,?_⟩
    .simp[results,Uu,go_sem]
    .exact((((Ib _ _).alloc (By _) _).alloc (by simp) _).alloc (by simp<;>omega) _).alloc (by simp<;>omega) _
end Go.Proofs.YtfidjlcdlakceaaGreatDoor
namespace Go.Proofs
open Go.Shelf
def Tryz.qM:Go.Shelf.Ren:=⟨fun|6=>268|15=>159|14=>287|28=>215|29=>216|20=>296|21=>297|22=>298|23=>299|24=>300|25=>301|26=>302|27=>303|46=>309|47=>256|48=>257|49=>310|50=>311|57=>313|n=>n,fun|22=>111|24=>9|25=>118|3=>3|39=>192|0=>0|53=>260|55=>262|4=>4|46=>267|45=>266|50=>82|5=>5|9=>9|66=>288|70=>292|76=>312|77=>313|n=>n,fun|n=>n⟩
theorem Tryz.N7:Go.Proofs.SlLaysF.n6 be Tryz.qM:={
 mixed:=by kernel_rfl
 f6:=⟨Tryz.f268.name,by decide,Tryz.func268.trans (congrArg Z (by kernel_rfl))⟩
 f14:=⟨Tryz.f287.name,by decide,Tryz.func287.trans (congrArg Z (by kernel_rfl))⟩
 f15:=Tryz.func159.trans (congrArg Z (by kernel_rfl))
 f20:=⟨Tryz.f296.name,by decide,Tryz.func296.trans (congrArg Z (by kernel_rfl))⟩
 f21:=⟨Tryz.f297.name,by decide,Tryz.func297.trans (congrArg Z (by kernel_rfl))⟩
 f22:=⟨Tryz.f298.name,by decide,Tryz.func298.trans (congrArg Z (by kernel_rfl))⟩
 f23:=⟨Tryz.f299.name,by decide,Tryz.func299.trans (congrArg Z (by kernel_rfl))⟩
 f24:=⟨Tryz.f300.name,by decide,Tryz.func300.trans (congrArg Z (by kernel_rfl))⟩
 f25:=⟨Tryz.f301.name,by decide,Tryz.func301.trans (congrArg Z (by kernel_rfl))⟩
 f26:=⟨Tryz.f302.name,by decide,Tryz.func302.trans (congrArg Z (by kernel_rfl))⟩
 f27:=⟨Tryz.f303.name,by decide,Tryz.func303.trans (congrArg Z (by kernel_rfl))⟩
 f28:=Tryz.func215.trans (congrArg Z (by kernel_rfl))
 f29:=Tryz.func216.trans (congrArg Z (by kernel_rfl))
 f46:=⟨Tryz.f309.name,by decide,Tryz.func309.trans (congrArg Z (by kernel_rfl))⟩
 f47:=Tryz.func256.trans (congrArg Z (by kernel_rfl))
 f48:=Tryz.func257.trans (congrArg Z (by kernel_rfl))
 f49:=⟨Tryz.f310.name,by decide,Tryz.func310.trans (congrArg Z (by kernel_rfl))⟩
 f50:=⟨Tryz.f311.name,by decide,Tryz.func311.trans (congrArg Z (by kernel_rfl))⟩
 f57:=⟨Tryz.f313.name,by decide,Tryz.func313.trans (congrArg Z (by kernel_rfl))⟩
 t0:=Tryz.underlying0
 a0:=Tryz.isAgg0
 z0:=Tryz.sizeOf0
 v0:=Tryz.zeroValue0
 t3:=Tryz.underlying3
 a3:=Tryz.isAgg3
 z3:=Tryz.sizeOf3
 v3:=Tryz.zeroValue3
 t4:=Tryz.underlying4
 a4:=Tryz.isAgg4
 z4:=Tryz.sizeOf4
 v4:=Tryz.zeroValue4
 t5:=Tryz.underlying5
 a5:=Tryz.isAgg5
 z5:=Tryz.sizeOf5
 v5:=Tryz.zeroValue5
 t9:=Tryz.underlying9
 a9:=Ob
 z9:=JX
 v9:=Tryz.zeroValue9
 t22:=Tryz.underlying111
 a22:=Tryz.isAgg111
 z22:=Tryz.sizeOf111
 v22:=Tryz.zeroValue111
 a24:=Ob
 z24:=JX
 t25:=Tryz.underlying118
 a25:=Tryz.isAgg118
 z25:=Tryz.sizeOf118
 v25:=Tryz.zeroValue118
 t39:=Tryz.underlying192
 a39:=Tryz.isAgg192
 z39:=Tryz.sizeOf192
 v39:=Tryz.zeroValue192
 t45:=Tryz.underlying266
 a45:=Tryz.isAgg266
 z45:=Tryz.sizeOf266
 v45:=Tryz.zeroValue266
 t46:=Tryz.underlying267
 a46:=Tryz.isAgg267
 z46:=Tryz.sizeOf267
 v46:=Tryz.zeroValue267
 t50:=Tryz.underlying82
 a50:=Tryz.isAgg82
 z50:=Tryz.sizeOf82
 v50:=Tryz.zeroValue82
 t53:=Tryz.underlying260
 a53:=Tryz.isAgg260
 z53:=Tryz.sizeOf260
 v53:=Tryz.zeroValue260
 t55:=Tryz.underlying262
 a55:=Tryz.isAgg262
 z55:=Tryz.sizeOf262
 v55:=Tryz.zeroValue262
 t66:=Tryz.underlying288
 a66:=Tryz.isAgg288
 z66:=Tryz.sizeOf288
 v66:=Tryz.zeroValue288
 t70:=Tryz.underlying292
 a70:=Tryz.isAgg292
 z70:=Tryz.sizeOf292
 v70:=Tryz.zeroValue292
 t76:=Tryz.underlying312
 a76:=Tryz.isAgg312
 z76:=Tryz.sizeOf312
 v76:=Tryz.zeroValue312
 t77:=Tryz.underlying313
 a77:=Tryz.isAgg313
 z77:=Tryz.sizeOf313
 v77:=Tryz.zeroValue313 }
end Go.Proofs
namespace Go.Proofs.YtfidjlcdlakceaaGreatDoor
open Go.RowKit Go.Sort Go.Shelf Go.Lib Go.WideMaps Go.Maps
def nm(ns:List ByteArray)(x:Nat):ByteArray:=ns.getD x Ih
def N8(ns:List ByteArray)(d:ByteArray->Int)(m:Nat)(x y:Fin (m+1)):Int:=cfN d (nm ns x.val) (nm ns y.val)
theorem aaC(ns:List ByteArray)(d:ByteArray->Int)(m:Nat)(x y:Fin (m+1)):ltOf (N8 ns d m) x y=yB d (nm ns x.val) (nm ns y.val):=rfl
theorem adg(ns:List ByteArray)(d:ByteArray->Int)(m:Nat):SWO (ltOf (N8 ns d m)) where
 irrefl _:=(GG d).irrefl _
 trans _ _ _ h1 h2:=(GG d).trans _ _ _ h1 h2
 ntrans _ _ _ h1 h2:=(GG d).ntrans _ _ _ h1 h2
def qO(ns:List ByteArray)(m:Nat)(x:Fin (m+1)):Value:=I (nm ns x.val)
def iu(m:Nat):Array (Fin (m+1)):=Array.ofFn (λx=>x)
theorem fY(m:Nat):(iu m).size=m+1:=by simp[iu]
theorem Hl(m j:Nat)(hj:j<m+1):(iu m)[j]! = ⟨j,hj⟩:=by
 rw[getElem!_pos _ j (by rw[fY];exact hj)];simp[iu]
theorem DC(ns:List ByteArray)(m:Nat)(hn:ns.length=m+1):(iu m).toList.map (λx=>nm ns x.val)=ns:=by
 apply List.ext_getElem
 .simp[iu,hn]
 .intro j h1 h2
  rw[List.getElem_map,Array.getElem_toList];simp only[iu,Array.getElem_ofFn,nm];simp[Io,Ic h2]
theorem AY(W:World)(o:Obj):(W.alloc o).drew=grow (W.drewN 1) #[o]:=by
 simp only[grow,World.alloc,World.drew,World.drewN,Array.push_eq_append]
theorem lC{α:Type}[Inhabited α](enc:α->Value)(w:World)(b off q g:Nat)(dk:Array α)(os:Array Obj)(bu:g≠b)(hl:g<w.heap.size):(Uo enc w b off q dk os).heap[g]?=w.heap[g]?:=by
 unfold Uo;rw[Go.Sort.heap_grow_old _ _ (by simp[putRow,mapBlock,Jy];omega)]
 have:b≠g:=λe=>bu e.symm
 simp[putRow,mapBlock,Jy,Array.getElem?_modify,this]
theorem rP{α:Type}[Inhabited α](enc:α->Value){B:Nat}{w:World}{g off n:Nat}{d:Array α}{os:Array Obj}(hg:B<=g)(hB:B<=w.heap.size):Below B w (Uo enc w g off n d os):=
 ⟨rfl,rfl,rfl,by simp[Uo,putRow,mapBlock,Jy,grow],λk hk=>lC enc w g off n k d os (by omega) (by omega)⟩
theorem ahB(ns:List ByteArray)(m db kb g n gb:Nat)(D:DataW Unit)(w:World)(bA:∀j,(nm ns j).size<=Ij)(hd:w.cell? ⟨db,0,Y⟩=Z (IZ (.func 266) #[] #[If (Z ⟨kb,0,Y⟩)]))(hk:w.cell? ⟨kb,0,Y⟩=Z (.map (Z g)))(hm:w.ownsMap be 9 (Jo (H:=Unit) be 3) g n D)(h1:db≠gb)(h2:kb≠gb)(h3:g≠gb) :
 CmpLays1 be 269 #[If (Z ⟨db,0,Y⟩)] (qO ns m) (N8 ns (dV D) m) gb 0 (iu m).size w:=by
 intro q os dk hs x y;have eY:db<w.heap.size:=IH w _ hd;have fG:kb<w.heap.size:=IH w _ hk;have Hn:g<w.heap.size:=hm.lt;have c1:=(Qo (qO ns m) w gb 0 q dk os ⟨db,0,Y⟩ h1 eY).trans hd;have c2:=(Qo (qO ns m) w gb 0 q dk os ⟨kb,0,Y⟩ h2 fG).trans hk;have m1:(Uo (qO ns m) w gb 0 q dk os).ownsMap be 9 (Jo (H:=Unit) be 3) g n D:=by
  obtain⟨es,cl,e1,e2⟩:=hm;exact⟨es,cl,(lC (qO ns m) w gb 0 q g dk os h3 Hn).trans e1,e2⟩
 refine(MS _ _ db kb g n D _ (bA x.val) (bA y.val) c1 c2 m1).mono ?_;rintro e w' ⟨rfl,rfl⟩;exact⟨rfl,1,_,AY _ _⟩
theorem Ho{ns:List ByteArray}{d:ByteArray->Int}{m:Nat}{d':Array (Fin (m+1))}(hn:ns.length=m+1)(hp:PermIn 0 (iu m).size (iu m) d')(hs:SortedIn (ltOf (N8 ns d m)) 0 (iu m).size d') :
 d'.toList.map (λx=>nm ns x.val)=So.dU (yB d) ns:=by
 obtain⟨bA,_,AZ⟩:=hp;rw[UD,show d'.extract 0 (iu m).size=d' by rw[<- bA,UD]] at AZ;refine So.GF (GG d) (Nc d) ?_ ?_
 .have h:=AZ.map (λx=>nm ns x.val)
  rw[DC ns m hn] at h;exact h
 .have hds:d'.size=m+1:=by rw[bA,fY]
  refine List.pairwise_iff_getElem.2 λi j hi hj lO=>?_;have A0:j<d'.size:=by simpa using hj
  have hi':i<d'.size:=by omega
  have h:=hs i j (II _) lO (by rw[fY];omega);rw[getElem!_pos d' j A0,getElem!_pos d' i hi',aaC] at h;simpa using h
theorem Hp(ns:List ByteArray)(m db kb g n gb c:Nat)(D:DataW Unit)(w:World)(hn:ns.length=m+1)(CK:m<1000)(bA:∀j,(nm ns j).size<=Ij)(hd:w.cell? ⟨db,0,Y⟩=Z (IZ (.func 266) #[] #[If (Z ⟨kb,0,Y⟩)]))(hk:w.cell? ⟨kb,0,Y⟩=Z (.map (Z g)))(hm:w.ownsMap be 9 (Jo (H:=Unit) be 3) g n D)(h1:db≠gb)(h2:kb≠gb)(h3:g≠gb)
 (ej:∀j,j<m+1->w.cell? ⟨gb,j,Y⟩=Z (I (nm ns j))) (gF:∀j,w.frozen? ⟨gb,j,Y⟩=false) {B:Nat} (hB:B<=gb) :
 Calls be 268 #[U (Z ⟨gb,0,Y⟩) (m+1) c,IZ (.func 269) #[] #[If (Z ⟨db,0,Y⟩)]] w λe w'=>e=sh (Il #[])/\zM w' (U (Z ⟨gb,0,Y⟩) (m+1) c) (So.dU (yB (dV D)) ns)/\Below B w w'/\∀j,w'.frozen? ⟨gb,j,Y⟩=false:=by
 have eg:∀args w,(callFunc 269 args).run be w=.ok (.enter 269 args) w:=enters_of Tryz.func269 (by kernel_rfl) rfl;have nN:gb<w.heap.size:=IH w ⟨gb,0,Y⟩ (ej 0 (by omega));have HHH:Holds (qO ns m) w gb 0 (iu m):=λj hj=>by
  rw[fY] at hj;rw[Hl m j hj,Nat.zero_add];exact⟨ej j hj,gF j⟩
 have jH:=Any.slices_SortFunc Tryz.N7 (qO ns m) (λ_=>rfl) (N8 ns (dV D) m) (adg ns (dV D) m) 269 #[If (Z ⟨db,0,Y⟩)] gb 0 c (iu m) w eg (ahB ns m db kb g n gb D w bA hd hk hm h1 h2 h3) HHH nN (by rw[fY];omega);rw[show U (Z ⟨gb,0,Y⟩) (iu m).size c=U (Z ⟨gb,0,Y⟩) (m+1) c by rw[fY]] at jH;refine jH.mono ?_;rintro e w2 ⟨rfl,d',nd,os,hp,hs,rH⟩;have hL:=Ho hn hp hs;have hds:d'.size=m+1:=by rw[hp.1,fY]
 have hlen:(So.dU (yB (dV D)) ns).length=m+1:=by rw[<- hL];simp[hds]
 refine⟨rfl,⟨Z ⟨gb,0,Y⟩,c,by rw[hlen],λj=>?_,.inr ⟨gb,0,rfl,?_,λj hj=>?_⟩⟩,?_,λj=>?_⟩
 .by_cases hj:j<(So.dU (yB (dV D)) ns).length
  .have SI:(So.dU (yB (dV D)) ns).getD j Ih∈So.dU (yB (dV D)) ns:=by simp[Io,Ic hj]
   rw[<- hL] at SI;obtain⟨x,_,hx⟩:=List.mem_map.1 SI;rw[hL] at hx;rw[<- hx];exact bA x.val
  .rw[show(So.dU (yB (dV D)) ns).getD j Ih=Ih by simp[Io,List.getElem?_eq_none (by omega:(So.dU (yB (dV D)) ns).length<=j)]]
   decide
 .rw[rH]
  exact Iv nN (rP (qO ns m) (B:=0) (II _) (II _)).size
 .have A0:j<m+1:=by rw[hlen] at hj;exact hj
  have e1:=cell?_putRow (qO ns m) (Jy w nd) gb 0 (iu m) d' (show Holds (qO ns m) (Jy w nd) gb 0 (iu m) from HHH) hp.1 j (by omega);have e2:w2.cell? ⟨gb,0+j,Y⟩=(putRow (qO ns m) (Jy w nd) gb 0 d').cell? ⟨gb,0+j,Y⟩:=by
   rw[rH];exact cell?_grow _ _ _ (IH (putRow (qO ns m) (Jy w nd) gb 0 d') ⟨gb,0+j,Y⟩ e1)
  rw[e2,e1,getElem!_pos d' j (by omega)];have e3:(So.dU (yB (dV D)) ns).getD j Ih=nm ns (d'[j]'(by omega)).val:=by
   rw[<- hL];simp[Io,hds,A0]
  rw[e3];rfl
 .rw[rH]
  exact rP (qO ns m) hB (by omega)
 .rw[rH]
  exact(frozen?_grow _ _ ⟨gb,j,Y⟩ (by simpa[putRow,mapBlock,Jy] using nN)).trans ((frozen?_putRow _ _ _ _ _ _).trans (gF j))
end Go.Proofs.YtfidjlcdlakceaaGreatDoor
namespace Go.Proofs.YtfidjlcdlakceaaGreatDoor
open Go.RowKit Go.Shelf Go.Lib Go.WideMaps Go.Maps
def T5(B:Nat)(w:World)(v:Value):Prop:=∀g,v.ownBlock=Z g->B<=g/\g<w.heap.size/\∀j,w.frozen? ⟨g,j,Y⟩=false
theorem T5.mono{B B':Nat}{w:World}{v:Value}(h:T5 B w v)(hb:B'<=B):T5 B' w v:=λg hg=>⟨Nat.le_trans hb (h g hg).1,(h g hg).2⟩
theorem Hq(ns:List ByteArray)(D:DataW Unit)(n B db kb g:Nat)(vs:Value)(w:World)(ho:dC B w vs ns)(hl:ns.length<=100)(bA:∀j,(ns.getD j Ih).size<=Ij)(hd:w.cell? ⟨db,0,Y⟩=Z (IZ (.func 266) #[] #[If (Z ⟨kb,0,Y⟩)]))(hk:w.cell? ⟨kb,0,Y⟩=Z (.map (Z g)))(hm:w.ownsMap be 9 (Jo (H:=Unit) be 3) g n D)(h1:db<B)(h2:kb<B)(h3:g<B) :
 Calls be 268 #[vs,IZ (.func 269) #[] #[If (Z ⟨db,0,Y⟩)]] w λe w'=>e=sh (Il #[])/\zM w' vs (So.dU (yB (dV D)) ns)/\T5 B w' vs/\Below B w w':=by
 rcases ho.2 with⟨hv,h0⟩|⟨gb,c,cur,hv,dQ,hg,eC,dj,cM,aO⟩
 .subst hv
  have he:ns=[]:=O7.1 h0;subst he;refine(show Calls be 268 #[U Y 0 0,IZ (.func 269) #[] #[If (Z ⟨db,0,Y⟩)]] w λe w'=>e=sh (Il #[])/\w'=w from AnyF.slices_SortFunc_none (P:=be) (ρ:=Tryz.qM) { Tryz.N7 with } Y 0 _ w).mono ?_;rintro e w' ⟨rfl,rfl⟩;exact⟨rfl,⟨Y,0,rfl,λj=>by simp[So.dU],.inl rfl⟩,(λg hg=>by cases hg),Ib _ _⟩
 .subst hv
  by_cases h0:ns=[]
  .subst h0
   refine(show Calls be 268 #[U (Z ⟨gb,0,Y⟩) 0 c,IZ (.func 269) #[] #[If (Z ⟨db,0,Y⟩)]] w λe w'=>e=sh (Il #[])/\w'=w from AnyF.slices_SortFunc_none (P:=be) (ρ:=Tryz.qM) { Tryz.N7 with } (Z ⟨gb,0,Y⟩) c _ w).mono ?_;rintro e w' ⟨rfl,rfl⟩;refine⟨rfl,⟨Z ⟨gb,0,Y⟩,c,rfl,λj=>by simp[So.dU],.inl rfl⟩,λg iL=>?_,Ib _ _⟩;obtain rfl:gb=g:=by simpa[I2] using iL
   exact⟨dQ,(Ia.1 hg).1,λj=>World.ownsRow.frozenAt ho j⟩
  .obtain⟨m,hn⟩:∃m,ns.length=m+1:=⟨ns.length-1,by have:=List.length_pos_iff.2 h0;omega⟩
   have ej:∀j,j<m+1->w.cell? ⟨gb,j,Y⟩=Z (I (nm ns j)):=λj hj=>by
    rw[World.ownsRow.cellAt ho j (by omega)];simp[nm,Io,Ic (show j<ns.length by omega)]
   have gF:∀j,w.frozen? ⟨gb,j,Y⟩=false:=λj=>World.ownsRow.frozenAt ho j;have h:=Hp ns m db kb g n gb c D w hn (by omega) bA hd hk hm (by omega) (by omega) (by omega) ej gF dQ;rw[hn];refine h.mono ?_;rintro e w' ⟨h1,h2,h3,h4⟩;refine⟨h1,h2,λg iL=>?_,h3⟩;obtain rfl:gb=g:=by simpa[I2] using iL
   exact⟨dQ,Iv (Ia.1 hg).1 h3.size,h4⟩
theorem Ht(p:Pl)(ms:List Wh.bC)(v vn:Value)(ns:List ByteArray)(w:World)(hv:Wh.Sl w v ms)(ht:zM w vn ns)(hn:ms.length<=100)(hm:ns.length<=100)(hb:hZ (p::(dS ms).map dP)=0) :
 Calls be 243 #[Im #[O J p.x,O J p.y,O J p.z,O J p.h,O J p.s],v,vn] w λe w'=>∃v',e=sh (Il #[v',O J 0])/\zM w' v' (GH p ms ns)/\T5 w.heap.size w' v'/\Below w.heap.size w w':=by
 obtain⟨i0,ei,bW,fs,eU⟩:=info_parts Tryz.CM;have Gk:(dS ms).length=ms.length:=tE ms;have hz:=(jx _).1 hb;have kM:zK p:=(Fw p).1 (by have:=hz 0 (by simp);simpa using this);have adi:∀j,j<ms.length->zK (dP (nI (ms.getD j Wh.dm))):=λj hj=>by
  have:=hz (j+1) (by simp[Gk];exact hj);refine(Fw _).1 ?_;simpa[Io,dS,Ic hj] using this
 have HV:Hid (Wh.Sl w v ms):=hv;have HTN:Hid (zM w vn ns):=ht;have HSZ:Hid (∀j,(ns.getD j Ih).size<=Ij):=by obtain⟨_,_,_,h,_⟩:=ht;exact h
 have HDI:Hid (∀W,Wh.Sl W v ms->Calls be 265 #[Im #[O J p.x,O J p.y,O J p.z,O J p.h,O J p.s],v] W λe w'=>∃g,e=sh (.map (Z g))/\Hid (w'.ownsMap be 9 (Jo (H:=Unit) be 3) g ms.length (Dd (iO p) ms ms.length))/\W.heap.size<=g/\g<w'.heap.size/\Below W.heap.size W w'):=λW h=>wo p ms v W h hn kM adi;have HCL:Hid (∀W,zM W vn ns->Calls be 267 #[vn] W λe w'=>∃v',e=sh v'/\Hid (dC W.heap.size w' v' ns)/\Below W.heap.size W w'):=λW h=>C8 ns vn W h (by omega);have TA:Hid (∀(B db kb g:Nat) (vs:Value) (W:World),dC B W vs ns->W.cell? ⟨db,0,Y⟩=Z (IZ (.func 266) #[] #[If (Z ⟨kb,0,Y⟩)])->W.cell? ⟨kb,0,Y⟩=Z (.map (Z g))->W.ownsMap be 9 (Jo (H:=Unit) be 3) g ms.length (Dd (iO p) ms ms.length)->db<B->kb<B->g<B ->
  Calls be 268 #[vs,IZ (.func 269) #[] #[If (Z ⟨db,0,Y⟩)]] W λe w'=>e=sh (Il #[])/\Hid (zM w' vs (GH p ms ns))/\Hid (T5 B w' vs)/\Below B W w'):=λB db kb g vs W h1 h2 h3 h4 h5 h6 h7=>Hq ns _ ms.length B db kb g vs W h1 hm HSZ.out h2 h3 h4 h5 h6 h7
 obtain⟨pa,ca,pW,_,_⟩:=hv;obtain⟨pn,cn,Ty,_,_⟩:=ht;subst pW Ty;have h1:decide (100<(ms.length:Int))=false:=by simp;omega
 have h2:decide (100<(ns.length:Int))=false:=by simp;omega
 have Ti:Hid ((dS ms).length=ms.length):=Gk;have HP0:Hid (ms.length=0->∀W,Calls be 264 #[U pa ms.length ca] W λe w'=>e=sh (U Y 0 0)/\Below W.heap.size W w'):=λh0 W=>by
  rw[h0];refine(rG pa ca W).mono ?_;rintro e w' ⟨rfl,rfl⟩;exact⟨rfl,Ib _ _⟩
 have HP1:Hid (0<ms.length->∀W,Wh.Sl W (U pa ms.length ca) ms->Calls be 264 #[U pa ms.length ca] W λe w'=>∃g c,e=sh (U (Z ⟨g,0,Y⟩) ms.length c)/\Pc.Own W.heap.size w' (U (Z ⟨g,0,Y⟩) ms.length c) (dS ms)/\Below W.heap.size W w'):=λnH W h=>by
  refine(tF ms _ W h hn).mono ?_;rintro e w' ⟨v',rfl,ho,aU⟩;obtain⟨g,c,pW⟩:=Pc.eL ho 0 (by rw[Ti.out];exact nH);subst pW;rw[Ti.out] at ho;exact⟨g,c,by rw[Ti.out],ho,aU⟩
 have xq:Hid (ms.length=0->∀g W,qf W g 0 [p]->Calls be 263 #[U (Z ⟨g,0,Y⟩) 1 1] W λe w'=>e=sh (O J 0)/\Below W.heap.size W w'):=λh0 g W h=>by
  have h2:=hJ [p] g 0 1 1 W rfl h (by omega);have e:(dS ms).map dP=[]:=by rw[O7.1 h0];rfl
  rw[e] at hb;rw[hb] at h2;exact h2
 have nJ:Hid (∀g c W,qf W g 0 (p::(dS ms).map dP)->Calls be 263 #[U (Z ⟨g,0,Y⟩) (1+ms.length) c] W λe w'=>e=sh (O J 0)/\Below W.heap.size W w'):=λg c W h=>by
  have h2:=hJ (p::(dS ms).map dP) g 0 (1+ms.length) c W (by simp[Ti.out];omega) h (by omega);rw[hb] at h2;exact h2
 clear hb hz kM adi Gk;generalize GH p ms ns=SL at *;generalize Dd (iO p) ms ms.length=DD at *;generalize yo:ms.length=n at *;generalize hnb:ns.length=nl at *;clear yo hnb;go_enter Tryz.func243,Tryz.ntmps243;go_wp2_with fail;obtain⟨W,hW⟩:∃W,W=w.alloc (AT #[O J p.x,O J p.y,O J p.z,O J p.h,O J p.s] 27):=⟨_,rfl⟩;rw[<- hW];have ez:Below w.heap.size w W:=by rw[hW];exact(Ib _ _).alloc (By _) _
 have pX:W.heap[w.heap.size]?=Z (AT #[O J p.x,O J p.y,O J p.z,O J p.h,O J p.s] 27 (0,0)):=by rw[hW];exact Ie w _
 have oX:W.heap.size=w.heap.size+1:=by rw[hW];simp
 have n0:W.cell? ⟨w.heap.size,0,Y⟩=Z (O J p.x):=af pX 0;have n1:W.cell? ⟨w.heap.size,1,Y⟩=Z (O J p.y):=af pX 1;have n2:W.cell? ⟨w.heap.size,2,Y⟩=Z (O J p.z):=af pX 2;have n3:W.cell? ⟨w.heap.size,3,Y⟩=Z (O J p.h):=af pX 3;have n4:W.cell? ⟨w.heap.size,4,Y⟩=Z (O J p.s):=af pX 4;have HVW:Hid (∀W',Below W.heap.size W W'->Wh.Sl W' (U pa n ca) ms):=λW' h=>(HV.out.below ez).below h;have wm:Hid (Below w.heap.size w W):=ez;have e0:=Ju W _ n0;have e1:=Ju W _ n1;have e2:=Ju W _ n2;have e3:=Ju W _ n3;have e4:=Ju W _ n4;clear pX hW ez;have h63:1+n<=Ij:=by unfold Ij;omega
 have Sq:(1+n)*40<=140737488355328:=by omega
 have oi:(Pc.fl (dS ms)).length=n*5:=by rw[Pc.cT,Ti.out]
 have Sr:(U (Z ⟨w.heap.size+1,0,Y⟩) 1 1).ownBlock≠Z w.heap.size:=λh=>by simp[I2] at h
 rcases Nat.eq_zero_or_pos n with nH|nH
 .subst nH
  have HP:Hid (∀W,Calls be 264 #[U pa 0 ca] W λe w'=>e=sh (U Y 0 0)/\Below W.heap.size W w'):=HP0.out rfl;have HK:Hid (∀g W,qf W g 0 [p]->Calls be 263 #[U (Z ⟨g,0,Y⟩) 1 1] W λe w'=>e=sh (O J 0)/\Below W.heap.size W w'):=xq.out rfl;go_region_held3 (λw'=>w'.cell? ⟨w.heap.size,0,Y⟩=Z (O J p.x)/\w'.cell? ⟨w.heap.size,1,Y⟩=Z (O J p.y)/\w'.cell? ⟨w.heap.size,2,Y⟩=Z (O J p.z)/\w'.cell? ⟨w.heap.size,3,Y⟩=Z (O J p.h)/\w'.cell? ⟨w.heap.size,4,Y⟩=Z (O J p.s))
   (first
     |go_keep
     |(go_split_ands
       refine⟨?_,?_,?_,?_,?_⟩;all_goals ((rw[ix.cell (by show w.heap.size<_;have h9:=bf.size;simp at h9 ⊢;omega)];first|assumption|simp[*])))
     |(go_split_ands
       refine⟨?_,?_,?_,?_,?_⟩;all_goals ((rw[bf.cell (by simp;omega)];first|assumption|simp[*])))
     )
   (first
     |(go_at_call 264;refine(HP.out _).mono ?_;rintro e w3 ⟨rfl,bf⟩)
     |(go_at_call 263;refine(HK.out _ _ (nh (nc oX bf))).mono ?_;rintro e w6 ⟨rfl,ix⟩)
     |(go_at_call 263;refine(HK.out _ _ (nh (Ie w3 _))).mono ?_;rintro e w6 ⟨rfl,ix⟩))
  all_goals
   have kX:Hid (Below w.heap.size w w6):=by
    first
     |exact((wm.out.alloc (by omega) _).drew.trans (bf.mono (by simp;omega))).trans (ix.mono (by have h9:=bf.size;simp at h9;omega))
     |exact((wm.out.drew.trans (bf.mono (by simp;omega))).alloc (by have:=bf.size;simp at this;omega) _).trans (ix.mono (by have h9:=bf.size;simp at h9 ⊢;omega))
   rename_i rJ;clear ix bf Sr;obtain⟨f0,f1,f2,f3,f4⟩:=rJ;have tX:=kX.out.size;go_wp2_with fail;refine(HDI.out _ (HV.out.below kX.out)).mono ?_;rintro e w7 ⟨g,rfl,HM7,bb,iL,wG⟩;have zS:Hid (Below w.heap.size w w7):=kX.out.trans (wG.mono tX);have Cw:=zS.out.size;clear wG f0 f1 f2 f3 f4;go_wp2_with fail;obtain⟨W9,pD⟩:∃W9,W9=(w7.alloc (AT #[.map (Z g)] 223)).alloc (AT #[IZ (.func 266) #[] #[If (Z ⟨w7.heap.size,0,Y⟩)]] 182):=⟨_,rfl⟩;rw[<- pD];have vB:Below w7.heap.size w7 W9:=by rw[pD];exact((Ib _ _).alloc (By _) _).alloc (by simp) _
   have hs9:W9.heap.size=w7.heap.size+2:=by rw[pD];simp
   have k9:W9.cell? ⟨w7.heap.size,0,Y⟩=Z (.map (Z g)):=by
    rw[pD];have h:=((Ib (w7.heap.size+1) (w7.alloc (AT #[.map (Z g)] 223))).alloc (by simp) (AT #[IZ (.func 266) #[] #[If (Z ⟨w7.heap.size,0,Y⟩)]] 182)).cell (p:=⟨w7.heap.size,0,Y⟩) (by show w7.heap.size<w7.heap.size+1;omega);exact h.trans (bJ rfl)
   have d9:W9.cell? ⟨w7.heap.size+1,0,Y⟩=Z (IZ (.func 266) #[] #[If (Z ⟨w7.heap.size,0,Y⟩)]):=by
    rw[pD];exact bJ (by simp)
   have HM9:Hid (W9.ownsMap be 9 (Jo (H:=Unit) be 3) g _ DD):=iU HM7.out vB;have qi:Hid (Below w.heap.size w W9):=zS.out.trans (vB.mono Cw);clear pD vB;refine(HCL.out _ (HTN.out.below qi.out)).mono ?_;rintro e w10 ⟨vs,rfl,aaE,gH⟩;have k10:=(gH.cell (p:=⟨w7.heap.size,0,Y⟩) (by show w7.heap.size<_;omega)).trans k9;have d10:=(gH.cell (p:=⟨w7.heap.size+1,0,Y⟩) (by show w7.heap.size+1<_;omega)).trans d9;have aaF:Hid (w10.ownsMap be 9 (Jo (H:=Unit) be 3) g _ DD):=iU HM9.out gH;have yO:Hid (Below w.heap.size w w10):=qi.out.trans (gH.mono qi.out.size);clear gH k9 d9;go_wp2_with fail;refine(TA.out W9.heap.size (w7.heap.size+1) w7.heap.size g vs _ aaE.out d10 k10 aaF.out (by omega) (by omega) (by omega)).mono ?_;rintro e w11 ⟨rfl,TC,Dg,N9⟩;have HFW:Hid (T5 w.heap.size w11 vs):=Dg.out.mono qi.out.size;have yP:Hid (Below w.heap.size w w11):=yO.out.trans (N9.mono qi.out.size);clear N9 d10 k10 Dg;go_wp2_with fail;go_ret2;exact⟨vs,rfl,TC.out,HFW.out,yP.out⟩
 .have HP:Hid (∀W,Wh.Sl W (U pa n ca) ms->Calls be 264 #[U pa n ca] W λe w'=>∃g c,e=sh (U (Z ⟨g,0,Y⟩) n c)/\Pc.Own W.heap.size w' (U (Z ⟨g,0,Y⟩) n c) (dS ms)/\Below W.heap.size W w'):=HP1.out nH
  have HK:=nJ;go_region_held3 (λw'=>w'.cell? ⟨w.heap.size,0,Y⟩=Z (O J p.x)/\w'.cell? ⟨w.heap.size,1,Y⟩=Z (O J p.y)/\w'.cell? ⟨w.heap.size,2,Y⟩=Z (O J p.z)/\w'.cell? ⟨w.heap.size,3,Y⟩=Z (O J p.h)/\w'.cell? ⟨w.heap.size,4,Y⟩=Z (O J p.s))
   (first
     |go_keep
     |(go_split_ands
       refine⟨?_,?_,?_,?_,?_⟩;all_goals ((rw[ix.cell (by show w.heap.size<_;have h8:=bX.size;have h9:=bf.size;simp at h8 h9;omega)];assumption)))
     |(go_split_ands
       refine⟨?_,?_,?_,?_,?_⟩;all_goals ((rw[bX.cell_far _ (by show w.heap.size<_;have:=bf.size;simp at this ⊢;omega) (Ne.symm Sr)];assumption)))
     |(go_split_ands
       refine⟨?_,?_,?_,?_,?_⟩;all_goals ((rw[bX.cell_far _ (by show w.heap.size<_;have:=bf.size;simp at this ⊢;omega) (by simp[I2];have:=bf.size;simp at this;omega)];assumption)))
     |(go_split_ands
       refine⟨?_,?_,?_,?_,?_⟩;all_goals ((rw[bf.cell (by simp;omega)];first|assumption|simp[*])))
     )
   (first
     |(go_at_call 264;refine(HP.out _ (HVW.out _ ?_)).mono ?_;(focus (repeat(first|exact Ib _ _|refine Below.drew ?_|refine Below.alloc ?_ (by simp) _)));rintro e w3 ⟨g,c,rfl,nf,bf⟩)
     |(go_at_call 263;refine(HK.out _ _ _ (Ae Ti.out iI)).mono ?_;rintro e w6 ⟨rfl,ix⟩)
     |(refine QD _ (by rfl) _ _ _ (by rfl) w.heap.size 27 i0 _ 5 40 QM ei bW fs eU rfl (by omega) (U (Z ⟨w.heap.size+1,0,Y⟩) 1 1) 1 p.v5 (by rfl) (oZ (nc oX bf) (by omega)) ⟨g,0,Y⟩ n c (Pc.fl (dS ms)) (by rfl) oi (ml nf) (Pc.fi _) nH h63 Sq (by have:=bf.size;simp at this;omega) _ rfl ?_
       intro gg cap w5 iI bX cA aL)
     |(refine QD _ (by rfl) _ _ _ (by rfl) w.heap.size 27 i0 _ 5 40 QM ei bW fs eU rfl (by omega) (U (Z ⟨w3.heap.size,0,Y⟩) 1 1) 1 p.v5 (by rfl) (oZ (Ie w3 _) (by have:=bf.size;simp at this;omega)) ⟨g,0,Y⟩ n c (Pc.fl (dS ms)) (by rfl) oi (ml (nf.below ((Ib _ _).alloc (By _) _))) (Pc.fi _) nH h63 Sq (by have:=bf.size;simp at this ⊢;omega) _ rfl ?_
       intro gg cap w5 iI bX cA aL))
  all_goals
   have kX:Hid (Below w.heap.size w w6):=by
    first
     |exact((((wm.out.alloc (by omega) _).drew.trans (bf.mono (by simp;omega))).grown bX (by have:=bf.size;simp at this;omega) (λj hj=>by simp[I2] at hj;omega))).trans (ix.mono (by have h8:=bX.size;have h9:=bf.size;simp at h8 h9;omega))
     |exact(((wm.out.drew.trans (bf.mono (by simp;omega))).alloc (by have:=bf.size;simp at this;omega) _).grown bX (by have:=bf.size;simp at this ⊢;omega) (λj hj=>by simp[I2] at hj;have:=bf.size;simp at this;omega)).trans (ix.mono (by have h8:=bX.size;have h9:=bf.size;simp at h8 h9;omega))
   rename_i rJ;clear ix bX iI cA aL bf nf Sr;obtain⟨f0,f1,f2,f3,f4⟩:=rJ;have tX:=kX.out.size;go_wp2_with fail;refine(HDI.out _ (HV.out.below kX.out)).mono ?_;rintro e w7 ⟨g,rfl,HM7,bb,iL,wG⟩;have zS:Hid (Below w.heap.size w w7):=kX.out.trans (wG.mono tX);have Cw:=zS.out.size;clear wG f0 f1 f2 f3 f4;go_wp2_with fail;obtain⟨W9,pD⟩:∃W9,W9=(w7.alloc (AT #[.map (Z g)] 223)).alloc (AT #[IZ (.func 266) #[] #[If (Z ⟨w7.heap.size,0,Y⟩)]] 182):=⟨_,rfl⟩;rw[<- pD];have vB:Below w7.heap.size w7 W9:=by rw[pD];exact((Ib _ _).alloc (By _) _).alloc (by simp) _
   have hs9:W9.heap.size=w7.heap.size+2:=by rw[pD];simp
   have k9:W9.cell? ⟨w7.heap.size,0,Y⟩=Z (.map (Z g)):=by
    rw[pD];have h:=((Ib (w7.heap.size+1) (w7.alloc (AT #[.map (Z g)] 223))).alloc (by simp) (AT #[IZ (.func 266) #[] #[If (Z ⟨w7.heap.size,0,Y⟩)]] 182)).cell (p:=⟨w7.heap.size,0,Y⟩) (by show w7.heap.size<w7.heap.size+1;omega);exact h.trans (bJ rfl)
   have d9:W9.cell? ⟨w7.heap.size+1,0,Y⟩=Z (IZ (.func 266) #[] #[If (Z ⟨w7.heap.size,0,Y⟩)]):=by
    rw[pD];exact bJ (by simp)
   have HM9:Hid (W9.ownsMap be 9 (Jo (H:=Unit) be 3) g _ DD):=iU HM7.out vB;have qi:Hid (Below w.heap.size w W9):=zS.out.trans (vB.mono Cw);clear pD vB;refine(HCL.out _ (HTN.out.below qi.out)).mono ?_;rintro e w10 ⟨vs,rfl,aaE,gH⟩;have k10:=(gH.cell (p:=⟨w7.heap.size,0,Y⟩) (by show w7.heap.size<_;omega)).trans k9;have d10:=(gH.cell (p:=⟨w7.heap.size+1,0,Y⟩) (by show w7.heap.size+1<_;omega)).trans d9;have aaF:Hid (w10.ownsMap be 9 (Jo (H:=Unit) be 3) g _ DD):=iU HM9.out gH;have yO:Hid (Below w.heap.size w w10):=qi.out.trans (gH.mono qi.out.size);clear gH k9 d9;go_wp2_with fail;refine(TA.out W9.heap.size (w7.heap.size+1) w7.heap.size g vs _ aaE.out d10 k10 aaF.out (by omega) (by omega) (by omega)).mono ?_;rintro e w11 ⟨rfl,TC,Dg,N9⟩;have HFW:Hid (T5 w.heap.size w11 vs):=Dg.out.mono qi.out.size;have yP:Hid (Below w.heap.size w w11):=yO.out.trans (N9.mono qi.out.size);clear N9 d10 k10 Dg;go_wp2_with fail;go_ret2;exact⟨vs,rfl,TC.out,HFW.out,yP.out⟩
end Go.Proofs.YtfidjlcdlakceaaGreatDoor
namespace Go.Proofs.YtfidjlcdlakceaaGreatDoor
open Go.ChangeShapes Go.WideShapes Go.ChangeAt Go.RowKit
section
variable {H:Type} {enc:TypeId × Value→H} {w:World} {base:Nat} {spare:Nat→Bool} {held:Bool}
end
section
variable {H:Type} {enc:TypeId × Value→H} {w:World} {base:Nat} {spare:Nat→Bool} {held:Bool}
end
end Go.Proofs.YtfidjlcdlakceaaGreatDoor
namespace Go.Proofs.YtfidjlcdlakceaaGreatDoor
open Go.RowKit
theorem yQ(w:World):zM w (U Y 0 0) []:=⟨Y,0,rfl,λj=>by simp,.inl rfl⟩
def pF(p:Pl)(ms:List Wh.bC)(ns:List ByteArray):Int:=if 100<ms.length\/100<ns.length then 2 else hZ (p::(dS ms).map dP)
def pG(p:Pl)(ms:List Wh.bC)(ns:List ByteArray):List ByteArray:=if pF p ms ns=0 then GH p ms ns else[]
theorem Pa(p:Pl)(ms:List Wh.bC)(v vn:Value)(ns:List ByteArray)(w:World)(hv:Wh.Sl w v ms)(ht:zM w vn ns) :
 Calls be 243 #[Im #[O J p.x,O J p.y,O J p.z,O J p.h,O J p.s],v,vn] w λe w'=>∃v',e=sh (Il #[v',O J (pF p ms ns)])/\zM w' v' (pG p ms ns)/\T5 w.heap.size w' v'/\Below w.heap.size w w':=by
 obtain⟨a1,c1,pW,_,_⟩:=id hv;obtain⟨a2,c2,Ty,_,_⟩:=id ht;by_cases hm:100<ms.length\/100<ns.length
 .have hE:pF p ms ns=2:=by unfold pF;rw[if_pos hm]
  have hL:pG p ms ns=[]:=by unfold pG;rw[hE];rfl
  rw[hE,hL,pW,Ty];refine(Hu p a1 a2 _ _ c1 c2 w hm).mono ?_;rintro e w' ⟨rfl,hb⟩;exact⟨_,rfl,yQ _,(λg hg=>by cases hg),hb⟩
 .have hE:pF p ms ns=hZ (p::(dS ms).map dP):=by unfold pF;rw[if_neg hm]
  rcases uk (p::(dS ms).map dP) with h0|h3
  .have hL:pG p ms ns=GH p ms ns:=by unfold pG;rw[hE,h0];rfl
   rw[hE,hL,h0];exact Ht p ms v vn ns w hv ht (by omega) (by omega) h0
  .have hL:pG p ms ns=[]:=by unfold pG;rw[hE,h3];rfl
   rw[hE,hL,h3];by_cases hz:ms.length=0
   .have j5:=O7.1 hz
    subst j5;rw[pW,Ty];refine(Gr p a1 a2 ns.length c1 c2 w (by omega) h3).mono ?_;rintro e w' ⟨rfl,hb⟩;exact⟨_,rfl,yQ _,(λg hg=>by cases hg),hb⟩
   .rw[Ty]
    refine(Gq p ms v a2 ns.length c2 w hv (by omega) (by omega) (by omega) h3).mono ?_;rintro e w' ⟨rfl,hb⟩;exact⟨_,rfl,yQ _,(λg hg=>by cases hg),hb⟩
theorem Pb{p:Pl}{wh:List Wh.bC}(h:20<wh.length):Au p wh=2:=if_pos h
theorem yR{p:Pl}{wh:List Wh.bC}(h:¬ 20<wh.length):Au p wh=hZ (p::(dS wh).map dP):=if_neg h
theorem Pd(p:Pl):cJ p=0\/cJ p=3:=by unfold cJ;split;exact .inl rfl;exact .inr rfl
theorem Pe{p:Pl}{wh:List Wh.bC}(h:¬ 20<wh.length)(hp:cJ p≠0):Au p wh=cJ p:=by
 rw[yR h,qP (k:=0) (by simp) (by simpa using hp)];rcases Pd p with h|h
 .exact absurd h hp
 .exact h.symm
theorem A2(wh:List Wh.bC)(j:Nat)(hj:j<wh.length):((dS wh).map dP).getD j dp=dP (nI (wh.getD j Wh.dm)):=by
 simp[dS,Io,Ic hj]
theorem aaG{p:Pl}{wh:List Wh.bC}{k:Nat}(h:¬ 20<wh.length)(hk:k<wh.length)(hp:cJ (dP (nI (wh.getD k Wh.dm)))≠0):Au p wh=cJ (dP (nI (wh.getD k Wh.dm))):=by
 rw[yR h,qP (k:=k+1) (by simp[dS];omega) (by rw[Jx,A2 wh k hk];exact hp)];rcases Pd (dP (nI (wh.getD k Wh.dm))) with h|h
 .exact absurd h hp
 .exact h.symm
theorem Pf{p:Pl}{wh:List Wh.bC}(h:¬ 20<wh.length)(hp:cJ p=0)(hw:∀j,j<wh.length->cJ (dP (nI (wh.getD j Wh.dm)))=0):Au p wh=0:=by
 rw[yR h,jx];intro j hj;cases j with
 |zero=>simpa using hp
 |succ j=>
  have vy:j<wh.length:=by simpa[dS] using hj
  rw[Jx,A2 wh j vy];exact hw j vy
theorem A3(here:ByteArray)(ps pm pw:Option Addr)(ns cs nm cm nw cw:Nat)(px py pz ph pq:Int)(wh:List Wh.bC)(w:World)(hw:Wh.Sl w (U pw nw cw) wh) :
 Calls be 135 #[Im (eQ here (U ps ns cs) (U pm nm cm) px py pz ph pq (U pw nw cw))] w λe w'=>e=sh (O J (Au ⟨px,py,pz,ph,pq⟩ wh))/\Below w.heap.size w w':=by
 obtain⟨pa',ca',he,_,ha⟩:=hw;simp only[Value.slice.injEq] at he;obtain⟨rfl,hN,rfl⟩:=he;have HA:Hid (wh=[]\/∃b off,pw=Z ⟨b,off,Y⟩/\b<w.heap.size/\Wh.Row w b off wh):=ha;have HN:Hid (wh.length=nw):=hN.symm;have H1:Hid (20<nw->Au ⟨px,py,pz,ph,pq⟩ wh=2):=λh=>Pb (by rw[HN.out];exact h);have H2:Hid (¬ 20<nw->cJ ⟨px,py,pz,ph,pq⟩≠0->Au ⟨px,py,pz,ph,pq⟩ wh=cJ ⟨px,py,pz,ph,pq⟩):=λh=>Pe (by rw[HN.out];exact h);have H3:Hid (¬ 20<nw->∀k,k<nw->cJ (dP (nI (wh.getD k Wh.dm)))≠0->Au ⟨px,py,pz,ph,pq⟩ wh=cJ (dP (nI (wh.getD k Wh.dm)))):=λh k hk=>aaG (by rw[HN.out];exact h) (by rw[HN.out];exact hk);have H4:Hid (¬ 20<nw->cJ ⟨px,py,pz,ph,pq⟩=0->(∀j,j<nw->cJ (dP (nI (wh.getD j Wh.dm)))=0)->Au ⟨px,py,pz,ph,pq⟩ wh=0):=λh h2 h3=>Pf (by rw[HN.out];exact h) h2 (λj hj=>h3 j (by rw[<- HN.out];exact hj));have HC:Hid (∀W,Calls be 131 #[Im #[O J px,O J py,O J pz,O J ph,O J pq]] W λe w'=>e=sh (O J (cJ ⟨px,py,pz,ph,pq⟩))/\Below W.heap.size W w'):=λW=>jy ⟨px,py,pz,ph,pq⟩ W;clear ha hN;generalize Au ⟨px,py,pz,ph,pq⟩ wh=res at *;generalize cJ ⟨px,py,pz,ph,pq⟩=cp at *;by_cases hm:20<nw
 .have HR:Hid (res=2):=H1.out hm
  clear H1 H2 H3 H4;go_enter Tryz.func135,Tryz.ntmps135;go_wp2_with fail;go_ret;exact⟨aj HR.out.symm,(Ib _ _).alloc (By _) _⟩
 .have H2':Hid (cp≠0->res=cp):=H2.out hm
  have H3':Hid (∀k,k<nw->cJ (dP (nI (wh.getD k Wh.dm)))≠0->res=cJ (dP (nI (wh.getD k Wh.dm)))):=H3.out hm;have H4':Hid (cp=0->(∀j,j<nw->cJ (dP (nI (wh.getD j Wh.dm)))=0)->res=0):=H4.out hm;clear H1 H2 H3 H4;go_enter Tryz.func135,Tryz.ntmps135;go_wp2_with fail;have df:Below w.heap.size w (w.alloc (AT (eQ here (U ps ns cs) (U pm nm cm) px py pz ph pq (U pw nw cw)) 137)):=(Ib _ _).alloc (By _) _;refine(HC.out _).mono ?_;rintro e w1 ⟨rfl,al⟩;have aR:Hid (Below w.heap.size w w1):=df.trans (al.mono (by simp));have hg:w1.heap[w.heap.size]?=Z (AT (eQ here (U ps ns cs) (U pm nm cm) px py pz ph pq (U pw nw cw)) 137 (0,0)):=(al.block _ (by simp)).trans (Ie w _);have d8:w1.cell? ⟨w.heap.size,8,Y⟩=Z (U pw nw cw):=af hg 8;clear df al hg;by_cases h0:cp=0
  .have H5:Hid ((∀j,j<nw->cJ (dP (nI (wh.getD j Wh.dm)))=0)->res=0):=H4'.out h0
   clear H2' H4';subst h0;go_wp2_with fail;go_loopw [20] (λi wr=>∃k:Nat,k<=nw/\i=O J k/\Hid (Below w.heap.size w wr)/\Hid (∀j,j<k->cJ (dP (nI (wh.getD j Wh.dm)))=0)) (λi _=>nw-(intOf i).toNat)
   case atStart=>exact⟨0,II _,rfl,aR,λj hj=>absurd hj (Nat.not_lt_zero _)⟩
   case round=>
    obtain⟨k,hk,rfl,HB,HZ⟩:=hrel;have bA:=HB.out.size;by_cases aL:k<nw
    .obtain⟨b,off,lP,eY,hr⟩:∃b off,pw=Z ⟨b,off,Y⟩/\b<w.heap.size/\Wh.Row w b off wh:=by
      rcases HA.out with h|h
      .have:=HN.out;rw[h] at this;simp at this;omega
      .exact h
     subst lP;obtain⟨c0,c1,c2,c3,c4,c5⟩:=hr.later HB.out eY k (by rw[HN.out];exact aL);clear hr;have iS:Hid (cJ (dP (nI (wh.getD k Wh.dm)))=0->∀j,j<k+1->cJ (dP (nI (wh.getD j Wh.dm)))=0):=λh j hj=>by
      by_cases e:j=k
      .subst e;exact h
      .exact HZ.out j (by omega)
     have HX:Hid (cJ (dP (nI (wh.getD k Wh.dm)))≠0->res=cJ (dP (nI (wh.getD k Wh.dm)))):=H3'.out k aL;generalize wh.getD k Wh.dm=m at *;obtain⟨nd,x,y,z,h,s⟩:=m;simp only at c0 c1 c2 c3 c4 c5;have HCW:Hid (∀W,Calls be 131 #[Im #[O J x,O J y,O J z,O J h,O J s]] W λe w'=>e=sh (O J (cJ (dP (nI ⟨nd,x,y,z,h,s⟩))))/\Below W.heap.size W w'):=λW=>jy ⟨x,y,z,h,s⟩ W;generalize cJ (dP (nI ⟨nd,x,y,z,h,s⟩))=cw2 at *;go_wp2_with fail;refine(HCW.out _).mono ?_;rintro e w2 ⟨rfl,aC⟩;have bw:Hid (Below w.heap.size w w2):=(HB.out.alloc bA _).trans (aC.mono (by simp<;>omega));clear aC;by_cases hz:cw2=0
     .have mr:=iS.out hz
      have HZ4:Hid (∀j,j<k+1->cJ (dP (nI (wh.getD j Wh.dm)))=0):=mr;clear mr iS HX;subst hz;go_wp2_with fail;go_roundw
      case rel=>exact⟨k+1,by omega,by go_num,bw,HZ4⟩
      case measure=>simp[intOf];omega
     .have HR:Hid (res=cw2):=HX.out hz
      have We:(cw2 !=0)=true:=by simpa using hz
      clear iS HX;go_wp2_with fail;go_ret;exact⟨aj HR.out.symm,bw.out⟩
    .have HR:Hid (res=0):=H5.out (λj hj=>HZ.out j (by omega))
     go_wp2_with fail;go_ret;exact⟨aj HR.out.symm,HB.out⟩
  .have HR:Hid (res=cp):=H2'.out h0
   have h0':(cp !=0)=true:=by simpa using h0
   go_wp2_with fail;go_ret;exact⟨aj HR.out.symm,aR.out⟩
theorem uo(here:ByteArray)(ps pm pw:Option Addr)(ns cs nm cm nw cw:Nat)(px py pz ph pq:Int)(sv:List Sv.aI)(ms:List Mem)(wh:List Wh.bC)(w:World)(hh:here.size<=Ij)(hs:Sv.Sl w (U ps ns cs) sv)(hm:Sl w (U pm nm cm) ms)(hw:Wh.Sl w (U pw nw cw) wh) :
 Calls be 79 #[Im (eQ here (U ps ns cs) (U pm nm cm) px py pz ph pq (U pw nw cw))] w λe w'=>e=sh (O J (sR here sv ms ⟨px,py,pz,ph,pq⟩ wh))/\Below w.heap.size w w':=by
 have HS:Hid (Sv.Sl w (U ps ns cs) sv):=hs;have HM:Hid (Sl w (U pm nm cm) ms):=hm;have HW:Hid (Wh.Sl w (U pw nw cw) wh):=hw;have HK:Hid (sR here sv ms ⟨px,py,pz,ph,pq⟩ wh=if aN here=true then(if Sv.ba sv=0 then(if ba ms=0 then Au ⟨px,py,pz,ph,pq⟩ wh else ba ms) else Sv.ba sv) else 1):=rfl;have WU:Hid (∀W v,Sv.Sl W v sv->Calls be 129 #[v] W λe w'=>e=sh (O J (Sv.ba sv))/\Below W.heap.size W w'):=λW v h=>Sv.aW sv v W h;have HC2:Hid (∀W v,Sl W v ms->Calls be 127 #[v] W λe w'=>e=sh (O J (ba ms))/\Below W.heap.size W w'):=λW v h=>aW ms v W h;have HC3:Hid (∀W,Wh.Sl W (U pw nw cw) wh->Calls be 135 #[Im (eQ here (U ps ns cs) (U pm nm cm) px py pz ph pq (U pw nw cw))] W λe w'=>e=sh (O J (Au ⟨px,py,pz,ph,pq⟩ wh))/\Below W.heap.size W w'):=λW h=>A3 here ps pm pw ns cs nm cm nw cw px py pz ph pq wh W h;clear hs hm hw;generalize sR here sv ms ⟨px,py,pz,ph,pq⟩ wh=res at *;generalize Au ⟨px,py,pz,ph,pq⟩ wh=pe at *;generalize Sv.ba sv=ce at *;generalize ba ms=me at *;have aU:∀W,Calls be 65 #[I here] W λe w'=>e=sh (AI (aN here))/\w'=W:=λW=>bc here W hh;rcases hl:aN here with _|_
 .have HR:Hid (res=1):=HK.out.trans (by rw[hl];rfl)
  rw[hl] at aU;go_enter Tryz.func79,Tryz.ntmps79;go_wp2_with fail;refine(aU _).mono ?_;rintro e w' ⟨rfl,rfl⟩;go_wp2_with fail;go_ret;exact⟨aj HR.out.symm,(Ib _ _).alloc (By _) _⟩
 .have j3:Hid (res=if ce=0 then(if me=0 then pe else me) else ce):=HK.out.trans (by rw[hl];rfl)
  rw[hl] at aU;clear HK;go_enter Tryz.func79,Tryz.ntmps79;go_wp2_with fail;refine(aU _).mono ?_;rintro e w' ⟨rfl,rfl⟩;have df:Below w.heap.size w (w.alloc (AT (eQ here (U ps ns cs) (U pm nm cm) px py pz ph pq (U pw nw cw)) 137)):=(Ib _ _).alloc (By _) _;go_wp2_with fail;refine(WU.out _ _ (HS.out.below df)).mono ?_;rintro e w1 ⟨rfl,al⟩;have aR:Hid (Below w.heap.size w w1):=df.trans (al.mono (by simp));have hg:w1.heap[w.heap.size]?=Z (AT (eQ here (U ps ns cs) (U pm nm cm) px py pz ph pq (U pw nw cw)) 137 (0,0)):=(al.block _ (by simp)).trans (Ie w _);have d0:w1.cell? ⟨w.heap.size,0,Y⟩=Z (I here):=af hg 0;have d1:w1.cell? ⟨w.heap.size,1,Y⟩=Z (U ps ns cs):=af hg 1;have d2:w1.cell? ⟨w.heap.size,2,Y⟩=Z (U pm nm cm):=af hg 2;have d3:w1.cell? ⟨w.heap.size,3,Y⟩=Z (O J px):=af hg 3;have d4:w1.cell? ⟨w.heap.size,4,Y⟩=Z (O J py):=af hg 4;have d5:w1.cell? ⟨w.heap.size,5,Y⟩=Z (O J pz):=af hg 5;have d6:w1.cell? ⟨w.heap.size,6,Y⟩=Z (O J ph):=af hg 6;have d7:w1.cell? ⟨w.heap.size,7,Y⟩=Z (O J pq):=af hg 7;have d8:w1.cell? ⟨w.heap.size,8,Y⟩=Z (U pw nw cw):=af hg 8;have jo:Hid (w1.heap[w.heap.size]?=Z (AT (eQ here (U ps ns cs) (U pm nm cm) px py pz ph pq (U pw nw cw)) 137 (0,0))):=hg;have aaI:w.heap.size<w1.heap.size:=(Ia.1 hg).1;clear df al hg;by_cases h1:ce=0
  .have nq:Hid (res=if me=0 then pe else me):=j3.out.trans (if_pos h1)
   clear j3;subst h1;go_wp2_with fail;refine(HC2.out _ _ (HM.out.below aR.out)).mono ?_;rintro e w2 ⟨rfl,aC⟩;have bw:Hid (Below w.heap.size w w2):=aR.out.trans (aC.mono (by omega));have hg:w2.heap[w.heap.size]?=Z (AT (eQ here (U ps ns cs) (U pm nm cm) px py pz ph pq (U pw nw cw)) 137 (0,0)):=(aC.block _ (by omega)).trans jo.out;clear d0 d1 d2 d3 d4 d5 d6 d7 d8;have d0:w2.cell? ⟨w.heap.size,0,Y⟩=Z (I here):=af hg 0;have d1:w2.cell? ⟨w.heap.size,1,Y⟩=Z (U ps ns cs):=af hg 1;have d2:w2.cell? ⟨w.heap.size,2,Y⟩=Z (U pm nm cm):=af hg 2;have d3:w2.cell? ⟨w.heap.size,3,Y⟩=Z (O J px):=af hg 3;have d4:w2.cell? ⟨w.heap.size,4,Y⟩=Z (O J py):=af hg 4;have d5:w2.cell? ⟨w.heap.size,5,Y⟩=Z (O J pz):=af hg 5;have d6:w2.cell? ⟨w.heap.size,6,Y⟩=Z (O J ph):=af hg 6;have d7:w2.cell? ⟨w.heap.size,7,Y⟩=Z (O J pq):=af hg 7;have d8:w2.cell? ⟨w.heap.size,8,Y⟩=Z (U pw nw cw):=af hg 8;clear aC hg jo;by_cases h2:me=0
   .have vD:Hid (res=pe):=nq.out.trans (if_pos h2)
    subst h2;clear nq;go_wp2_with fail;refine(HC3.out _ (HW.out.below bw.out)).mono ?_;rintro e w3 ⟨rfl,bf⟩;have da:Hid (Below w.heap.size w w3):=bw.out.trans (bf.mono bw.out.size);clear bf;go_wp2_with fail;go_ret;exact⟨aj vD.out.symm,da.out⟩
   .have HR:Hid (res=me):=nq.out.trans (if_neg h2)
    have yA:(me !=0)=true:=by simpa using h2
    go_wp2_with fail;go_ret;exact⟨aj HR.out.symm,bw.out⟩
  .have HR:Hid (res=ce):=j3.out.trans (if_neg h1)
   have CR:(ce !=0)=true:=by simpa using h1
   go_wp2_with fail;go_ret;exact⟨aj HR.out.symm,aR.out⟩
def Pg(q:Qu)(t:Int):Int:=if fo q=0 then(if gz t=true then 0 else 7) else fo q
theorem Hv(q:Qu)(t:Int)(w:World)(hq:q.ok) :
 Calls be 86 #[Im #[I q.service,I q.tag,I q.node,I q.ai],O J t] w λe w'=>e=sh (O J (Pg q t))/\Below w.heap.size w w':=by
 have HK:Hid (Pg q t=if fo q=0 then(if gz t=true then 0 else 7) else fo q):=rfl;have HC:Hid (∀W,Calls be 23 #[Im #[I q.service,I q.tag,I q.node,I q.ai]] W λe w'=>e=sh (O J (fo q))/\Below W.heap.size W w'):=λW=>uq q W hq;have HT:Hid (∀W,Calls be 72 #[O J t] W λe w'=>e=sh (AI (gz t))/\w'=W):=λW=>mX t W;generalize Pg q t=res at *;generalize fo q=ce at *;generalize gz t=tb at *;go_enter Tryz.func86,Tryz.ntmps86;go_wp2_with fail;refine(HC.out _).mono ?_;rintro e w1 ⟨rfl,al⟩;have aR:Hid (Below w.heap.size w w1):=((Ib _ _).alloc (By _) _).trans (al.mono (by simp));clear al;by_cases h1:ce=0
 .have j3:Hid (res=if tb=true then 0 else 7):=HK.out.trans (if_pos h1)
  subst h1;go_wp2_with fail;refine(HT.out _).mono ?_;rintro e w2 ⟨rfl,rfl⟩;cases tb
  .have HR:Hid (res=7):=j3.out
   go_wp2_with fail;go_ret;exact⟨aj HR.out.symm,aR.out⟩
  .have HR:Hid (res=0):=j3.out
   go_wp2_with fail;go_ret;exact⟨aj HR.out.symm,aR.out⟩
 .have HR:Hid (res=ce):=HK.out.trans (if_neg h1)
  have CR:(ce !=0)=true:=by simpa using h1
  go_wp2_with fail;go_ret;exact⟨aj HR.out.symm,aR.out⟩
end Go.Proofs.YtfidjlcdlakceaaGreatDoor
