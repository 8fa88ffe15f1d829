import Derived.Test.YtfidjlcdlakceaaGreatDoortf24
set_option maxHeartbeats 6400000
set_option maxRecDepth 100000
open Go.Value renaming slice→U,string→I,tuple→Il,bool→AI,int→O
open Go.IntKind renaming i64→J
open Nat renaming le_refl→By
open Option renaming some→Z,none→Y
namespace Go.Proofs.YtfidjlcdlakceaaGreatDoor
open Go.RowKit
def sF(s here:ByteArray)(sv:List Sv.aI)(ms:List Mem)(p:Pl)(wh:List Wh.bC):ByteArray:=if sR here sv ms p wh=0 then(if dX s=true then⟨#[]⟩ else Bc s here sv ms p wh) else⟨#[]⟩
def Hy(s here:ByteArray)(sv:List Sv.aI)(ms:List Mem)(p:Pl)(wh:List Wh.bC):Bool:=if sR here sv ms p wh=0 then !dX s else false
theorem Vf:∀n:Fin 256,(bits BinOp.and IntKind.u8 ((n.val:Nat):Int) 128 !=0)=decide (128<=n.val):=by decide +kernel
theorem aaP(x:UInt8):(bits BinOp.and IntKind.u8 ((x.toNat:Nat):Int) 128 !=0)=decide (128<=x.toNat):=Vf ⟨x.toNat,x.toNat_lt⟩
theorem ahM:∀a b:Fin 256,bits BinOp.or IntKind.i64 (wrap64 (wrap64 ((a.val:Nat):Int)*256)) (wrap64 ((b.val:Nat):Int))=256*((a.val:Nat):Int)+((b.val:Nat):Int):=by decide +kernel
theorem or8(a b:UInt8):bits BinOp.or IntKind.i64 (wrap64 (wrap64 ((a.toNat:Nat):Int)*256)) (wrap64 ((b.toNat:Nat):Int))=256*((a.toNat:Nat):Int)+((b.toNat:Nat):Int):=ahM ⟨a.toNat,a.toNat_lt⟩ ⟨b.toNat,b.toNat_lt⟩
theorem byte_at(s:ByteArray)(k:Nat)(h:k<s.size):s[k]=s.data.toList.getD k 0:=by
 have h2:k<s.data.toList.length:=by simpa using h
 rw[List.getD,List.getElem?_eq_getElem h2];rfl
theorem DG(here:ByteArray)(ps pm pw:Option Addr)(ns cs nm cm nw cw:Nat)(px py pz ph pq:Int)(s:ByteArray)(sv:List Sv.aI)(ms:List Mem)(wh:List Wh.bC)(w:World)(oA:ML w)(hk:uu here sv ms ⟨px,py,pz,ph,pq⟩ wh)(hs:Sv.Sl w (U ps ns cs) sv)(hm:Sl w (U pm nm cm) ms)(hw:Wh.Sl w (U pw nw cw) wh) :
 Calls Tryz.prog 80 #[.agg (eQ here (U ps ns cs) (U pm nm cm) px py pz ph pq (U pw nw cw)),I s] w λe w'=>e=.returned (Il #[I (if dX s=true then⟨#[]⟩ else Bc s here sv ms ⟨px,py,pz,ph,pq⟩ wh),AI (!dX s),O J 0])/\Below w.heap.size w w':=by
 have HS:Hid (Sv.Sl w (U ps ns cs) sv):=hs;have HM:Hid (Sl w (U pm nm cm) ms):=hm;have HW:Hid (Wh.Sl w (U pw nw cw) wh):=hw;have hMS:=λ(W:World) (h:ML W) (a1:Sv.Sl W (U ps ns cs) sv) (a2:Sl W (U pm nm cm) ms) (a3:Wh.Sl W (U pw nw cw) wh)=>yX here ps pm pw ns cs nm cm nw cw px py pz ph pq s sv ms wh W h hk a1 a2 a3;have HMS:Hid _:=hMS;have Ve:Hid (ML w):=oA;have kM:=Fz (s:=s) hk;have HFE:Hid (qF (lD s) (gn s here sv ms ⟨px,py,pz,ph,pq⟩ wh).code (gn s here sv ms ⟨px,py,pz,ph,pq⟩ wh).an true false (gn s here sv ms ⟨px,py,pz,ph,pq⟩ wh).R (gn s here sv ms ⟨px,py,pz,ph,pq⟩ wh).rs 512=0):=Vd kM (Pw s);have PB:Hid (Bc s here sv ms ⟨px,py,pz,ph,pq⟩ wh=pd (lD s) (gn s here sv ms ⟨px,py,pz,ph,pq⟩ wh).code (gn s here sv ms ⟨px,py,pz,ph,pq⟩ wh).an true false (gn s here sv ms ⟨px,py,pz,ph,pq⟩ wh).R (gn s here sv ms ⟨px,py,pz,ph,pq⟩ wh).rs 512):=rfl;have Fu:Hid ((gn s here sv ms ⟨px,py,pz,ph,pq⟩ wh).R.size<=maxLen):=by have h:=(gh kM.name).1;show _<=_;unfold maxLen;omega
 have HRO:Hid (∀r∈(gn s here sv ms ⟨px,py,pz,ph,pq⟩ wh).rs,r.ok):=λr hr=>N0 (kM.rs r hr);clear hs hm hw hMS hk oA kM;generalize Bc s here sv ms ⟨px,py,pz,ph,pq⟩ wh=RTX at *;generalize gn s here sv ms ⟨px,py,pz,ph,pq⟩ wh=WX at *;obtain⟨RC,RT,RR,RS⟩:=WX;simp only at *;generalize hTX:(if dX s=true then(⟨#[]⟩:ByteArray) else RTX)=TX at *;have HTX:Hid ((if dX s=true then(⟨#[]⟩:ByteArray) else RTX)=TX):=hTX;generalize hOB:(!dX s)=OB at *;have HOB:Hid ((!dX s)=OB):=hOB;clear hTX hOB;by_cases h12:s.size<12
 .have HQ:Hid (dX s=true):=by show dX s=true;unfold dX;simp[h12]
  have ahN:(s.size:Int)<12:=by omega
  go_enter Tryz.func80,Tryz.ntmps80;go_wp2_with fail;go_ret3
  have e1:TX=⟨#[]⟩:=by rw[<- HTX.out,HQ.out];rfl
  have e2:OB=false:=by rw[<- HOB.out,HQ.out];rfl
  exact⟨by rw[e1,e2];rfl,(Below.refl _ _).alloc (By _) _⟩
 .have ahN:¬ (s.size:Int)<12:=by omega
  have Mh:0<s.size:=by omega
  have hx1:1<s.size:=by omega
  have hx2:2<s.size:=by omega
  have aC:(bits BinOp.and IntKind.u8 ((s[2].toNat:Nat):Int) 128 !=0)=decide (128<=s[2].toNat):=aaP s[2];have HQ:Hid (dX s=decide (128<=s[2].toNat)):=by show dX s=_;unfold dX;rw[byte_at s 2 hx2];simp[h12]
  have HID:Hid (lD s=256*((s[0].toNat:Nat):Int)+((s[1].toNat:Nat):Int)):=by show lD s=_;unfold lD;rw[byte_at s 0 Mh,byte_at s 1 hx1];rfl
  by_cases hq:128<=s[2].toNat
  .rw[decide_eq_true hq] at aC HQ
   go_enter Tryz.func80,Tryz.ntmps80;go_wp2_with fail;go_ret3
   have e1:TX=⟨#[]⟩:=by rw[<- HTX.out,HQ.out];rfl
   have e2:OB=false:=by rw[<- HOB.out,HQ.out];rfl
   exact⟨by rw[e1,e2];rfl,(Below.refl _ _).alloc (By _) _⟩
  .rw[decide_eq_false hq] at aC HQ
   have SK:Hid (TX=RTX):=by show TX=RTX;rw[<- HTX.out,HQ.out];rfl
   have j7:Hid (OB=true):=by show OB=true;rw[<- HOB.out,HQ.out];rfl
   clear hq HTX HOB HQ;generalize lD s=ID at *;have ez:Below w.heap.size w (w.alloc (.cells (eQ here (U ps ns cs) (U pm nm cm) px py pz ph pq (U pw nw cw)) 137)):=(Below.refl _ _).alloc (By _) _;go_enter Tryz.func80,Tryz.ntmps80;go_wp2_with fail;refine Calls.mono (HMS.out _ (Ve.out.below ez) (HS.out.below ez) (HM.out.below ez) (HW.out.below ez)) ?_;rintro e w1 ⟨v,rfl,ho,al⟩;obtain⟨pv,cv,pW⟩:=rR ho;obtain⟨nv,hnv⟩:∃nv,nv=RS.length:=⟨_,rfl⟩;have NH:RS.length<=cv:=by
    rcases ho.2 with⟨h,h0⟩|⟨g,c,cur,h,_,_,eC,_⟩
    .rw[pW] at h;injection h with _ _ h3;omega
    .rw[pW] at h;injection h with _ _ h3;omega
   subst pW;have gI:w.heap.size+1<=w1.heap.size:=by have:=al.size;simpa using this
   have aR:Hid (Below w.heap.size w w1):=ez.trans (al.mono (by simp<;>omega));have nT:Hid (Rc.Own w.heap.size w1 (U pv RS.length cv) RS):=ho.mono (by simp<;>omega);clear ho al hnv ez;have hy0:(0:Int)<(s.size:Int):=by omega
   have hy1:(1:Int)<(s.size:Int):=by omega
   go_wp2_with fail;go_region
   go_wp2_with fail;have zL:bits BinOp.or IntKind.i64 (wrap64 (wrap64 ((s[0].toNat:Nat):Int)*256)) (wrap64 ((s[1].toNat:Nat):Int))=ID:=(or8 s[0] s[1]).trans HID.out.symm;rw[zL];clear zL;have Wy:Below w.heap.size w (w1.alloc (.cells #[O J ID,AI true,AI false,O J RC,I RR,O J RT,U pv RS.length cv] 43)).drew:=(aR.out.alloc (by omega) _).drew;have ads:Rc.Sl (w1.alloc (.cells #[O J ID,AI true,AI false,O J RC,I RR,O J RT,U pv RS.length cv] 43)).drew (U pv RS.length cv) RS:=Rc.gd (nT.out.below ((Below.refl _ _).alloc (By _) _).drew) HRO.out;refine(TN ID RC RT 512 true false RR RS pv cv _ (Ve.out.below Wy) Fu.out ads NH).mono ?_;rintro e w2 ⟨rfl,Hz⟩;have bw:Hid (Below w.heap.size w w2):=Wy.trans (Hz.mono (by simp<;>omega));rw[HFE.out,<- PB.out];clear Hz Wy ads;go_wp2_with fail;go_ret3
   exact⟨by rw[SK.out,j7.out];rfl,bw.out⟩
theorem Ka(here:ByteArray)(ps pm pw:Option Addr)(ns cs nm cm nw cw:Nat)(px py pz ph pq:Int)(s:ByteArray)(sv:List Sv.aI)(ms:List Mem)(wh:List Wh.bC)(w:World)(oA:ML w)(hh:here.size<=maxLen)(hs:Sv.Sl w (U ps ns cs) sv)(hm:Sl w (U pm nm cm) ms)(hw:Wh.Sl w (U pw nw cw) wh) :
 Calls Tryz.prog 32 #[I s,I here,U ps ns cs,U pm nm cm,.agg #[O J px,O J py,O J pz,O J ph,O J pq],U pw nw cw] w λe w'=>e=.returned (Il #[I (sF s here sv ms ⟨px,py,pz,ph,pq⟩ wh),AI (Hy s here sv ms ⟨px,py,pz,ph,pq⟩ wh),O J (sR here sv ms ⟨px,py,pz,ph,pq⟩ wh)])/\Below w.heap.size w w':=by
 have HS:Hid (Sv.Sl w (U ps ns cs) sv):=hs;have HM:Hid (Sl w (U pm nm cm) ms):=hm;have HW:Hid (Wh.Sl w (U pw nw cw) wh):=hw;have Ve:Hid (ML w):=oA;have rL:Hid (∀W,Sv.Sl W (U ps ns cs) sv->Sl W (U pm nm cm) ms->Wh.Sl W (U pw nw cw) wh->Calls Tryz.prog 79 #[.agg (eQ here (U ps ns cs) (U pm nm cm) px py pz ph pq (U pw nw cw))] W λe w'=>e=.returned (O J (sR here sv ms ⟨px,py,pz,ph,pq⟩ wh))/\Below W.heap.size W w'):=λW a1 a2 a3=>uo here ps pm pw ns cs nm cm nw cw px py pz ph pq sv ms wh W hh a1 a2 a3;have HCR:Hid (sR here sv ms ⟨px,py,pz,ph,pq⟩ wh=0->∀W,ML W->Sv.Sl W (U ps ns cs) sv->Sl W (U pm nm cm) ms->Wh.Sl W (U pw nw cw) wh->Calls Tryz.prog 80 #[.agg (eQ here (U ps ns cs) (U pm nm cm) px py pz ph pq (U pw nw cw)),I s] W λe w'=>e=.returned (Il #[I (if dX s=true then⟨#[]⟩ else Bc s here sv ms ⟨px,py,pz,ph,pq⟩ wh),AI (!dX s),O J 0])/\Below W.heap.size W w'):=λh W h2 a1 a2 a3=>DG here ps pm pw ns cs nm cm nw cw px py pz ph pq s sv ms wh W h2 (aaK h) a1 a2 a3;have SK:Hid (sR here sv ms ⟨px,py,pz,ph,pq⟩ wh=0->sF s here sv ms ⟨px,py,pz,ph,pq⟩ wh=(if dX s=true then⟨#[]⟩ else Bc s here sv ms ⟨px,py,pz,ph,pq⟩ wh)/\Hy s here sv ms ⟨px,py,pz,ph,pq⟩ wh = !dX s):=λh=>by unfold sF Hy;rw[if_pos h,if_pos h];exact⟨rfl,rfl⟩
 have si:Hid (sR here sv ms ⟨px,py,pz,ph,pq⟩ wh≠0->sF s here sv ms ⟨px,py,pz,ph,pq⟩ wh=⟨#[]⟩/\Hy s here sv ms ⟨px,py,pz,ph,pq⟩ wh=false):=λh=>by unfold sF Hy;rw[if_neg h,if_neg h];exact⟨rfl,rfl⟩
 clear hs hm hw oA;generalize sF s here sv ms ⟨px,py,pz,ph,pq⟩ wh=TX at *;generalize Hy s here sv ms ⟨px,py,pz,ph,pq⟩ wh=BX at *;generalize sR here sv ms ⟨px,py,pz,ph,pq⟩ wh=ke at *;generalize(if dX s=true then(⟨#[]⟩:ByteArray) else Bc s here sv ms ⟨px,py,pz,ph,pq⟩ wh)=TY at *;generalize(!dX s)=BY at *;go_enter Tryz.func32,Tryz.ntmps32;go_wp2_with fail;obtain⟨W,hW⟩:∃W,W=(w.alloc (.cells #[O J px,O J py,O J pz,O J ph,O J pq] 27)).alloc (.cells (eQ here (U ps ns cs) (U pm nm cm) px py pz ph pq (U pw nw cw)) 137):=⟨_,rfl⟩;rw[<- hW];have ez:Below w.heap.size w W:=by rw[hW];exact((Below.refl _ _).alloc (By _) _).alloc (by simp) _
 have kT:W.heap[w.heap.size+1]?=Z (.cells (eQ here (U ps ns cs) (U pm nm cm) px py pz ph pq (U pw nw cw)) 137 (0,0)):=by
  rw[hW];have h:=heap_alloc_new (w.alloc (.cells #[O J px,O J py,O J pz,O J ph,O J pq] 27)) (.cells (eQ here (U ps ns cs) (U pm nm cm) px py pz ph pq (U pw nw cw)) 137);simpa using h
 have oX:w.heap.size+2<=W.heap.size:=by rw[hW];simp
 clear hW;refine(rL.out W (HS.out.below ez) (HM.out.below ez) (HW.out.below ez)).mono ?_;rintro e w1 ⟨rfl,al⟩;have gI:=al.size;have aR:Hid (Below w.heap.size w w1):=ez.trans (al.mono (by omega));have k1:w1.heap[w.heap.size+1]?=_:=(al.block _ (by omega)).trans kT;have d0:w1.cell? ⟨w.heap.size+1,0,Y⟩=Z (I here):=af k1 0;have d1:w1.cell? ⟨w.heap.size+1,1,Y⟩=Z (U ps ns cs):=af k1 1;have d2:w1.cell? ⟨w.heap.size+1,2,Y⟩=Z (U pm nm cm):=af k1 2;have d3:w1.cell? ⟨w.heap.size+1,3,Y⟩=Z (O J px):=af k1 3;have d4:w1.cell? ⟨w.heap.size+1,4,Y⟩=Z (O J py):=af k1 4;have d5:w1.cell? ⟨w.heap.size+1,5,Y⟩=Z (O J pz):=af k1 5;have d6:w1.cell? ⟨w.heap.size+1,6,Y⟩=Z (O J ph):=af k1 6;have d7:w1.cell? ⟨w.heap.size+1,7,Y⟩=Z (O J pq):=af k1 7;have d8:w1.cell? ⟨w.heap.size+1,8,Y⟩=Z (U pw nw cw):=af k1 8;clear k1 kT al ez;by_cases h0:ke=0
 .obtain⟨r1,r2⟩:=SK.out h0
  have H1:Hid (TX=TY):=r1;have H2:Hid (BX=BY):=r2;have ahP:Hid _:=HCR.out h0;clear r1 r2 SK si HCR;subst h0;go_wp2_with fail;refine Calls.mono (ahP.out w1 (Ve.out.below aR.out) (HS.out.below aR.out) (HM.out.below aR.out) (HW.out.below aR.out)) ?_;rintro e w2 ⟨rfl,aC⟩;have bw:Hid (Below w.heap.size w w2):=aR.out.trans (aC.mono (by omega));clear aC;go_wp2_with fail;go_ret3
  exact⟨by rw[H1.out,H2.out];rfl,bw.out⟩
 .obtain⟨r1,r2⟩:=si.out h0
  have H1:Hid (TX=⟨#[]⟩):=r1;have H2:Hid (BX=false):=r2;have h0':(ke !=0)=true:=by simpa using h0
  clear r1 r2 SK si HCR;go_wp2_with fail;go_ret3
  exact⟨by rw[H1.out,H2.out];rfl,aR.out⟩
end Go.Proofs.YtfidjlcdlakceaaGreatDoor
