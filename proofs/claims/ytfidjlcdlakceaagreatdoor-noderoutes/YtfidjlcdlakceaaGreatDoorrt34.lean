import Derived.Test.YtfidjlcdlakceaaGreatDoorrt33
set_option maxHeartbeats 6400000
set_option maxRecDepth 100000
open Go.Value renaming slice→U,string→I,tuple→Il,bool→AT,int→O
open Go.IntKind renaming i64→J
open Nat renaming le_refl→By
open Option renaming some→Z,none→Y
namespace Go.Proofs.YtfidjlcdlakceaaGreatDoor
open Go.RowKit
def rm(s here:ByteArray)(sv:List Sv.ba)(ms:List Mem)(p:Pl)(wh:List Wh.cd):ByteArray:=if Bn here sv ms p wh=0 then(if dU s=true then⟨#[]⟩ else BF s here sv ms p wh) else⟨#[]⟩
def FO(s here:ByteArray)(sv:List Sv.ba)(ms:List Mem)(p:Pl)(wh:List Wh.cd):Bool:=if Bn here sv ms p wh=0 then !dU s else false
theorem Rb:∀n:Fin 256,(bits BinOp.and IntKind.u8 ((n.val:Nat):Int) 128 !=0)=decide (128<=n.val):=by decide +kernel
theorem We(x:UInt8):(bits BinOp.and IntKind.u8 ((x.toNat:Nat):Int) 128 !=0)=decide (128<=x.toNat):=Rb ⟨x.toNat,x.toNat_lt⟩
theorem agI:∀a b:Fin 256,bits BinOp.or IntKind.i64 (wrap64 (wrap64 ((a.val:Nat):Int)*256)) (wrap64 ((b.val:Nat):Int))=256*((a.val:Nat):Int)+((b.val:Nat):Int):=by decide +kernel
theorem or8(a b:UInt8):bits BinOp.or IntKind.i64 (wrap64 (wrap64 ((a.toNat:Nat):Int)*256)) (wrap64 ((b.toNat:Nat):Int))=256*((a.toNat:Nat):Int)+((b.toNat:Nat):Int):=agI ⟨a.toNat,a.toNat_lt⟩ ⟨b.toNat,b.toNat_lt⟩
theorem byte_at(s:ByteArray)(k:Nat)(h:k<s.size):s[k]=s.data.toList.getD k 0:=by
 have h2:k<s.data.toList.length:=by simpa using h
 rw[List.getD,List.getElem?_eq_getElem h2];rfl
theorem BH(here:ByteArray)(ps pm pw:Option Addr)(ns cs nm cm nw cw:Nat)(px py pz ph pq:Int)(s:ByteArray)(sv:List Sv.ba)(ms:List Mem)(wh:List Wh.cd)(w:World)(nI:ML w)(hk:tj here sv ms ⟨px,py,pz,ph,pq⟩ wh)(hs:Sv.Sl w (U ps ns cs) sv)(hm:Sl w (U pm nm cm) ms)(hw:Wh.Sl w (U pw nw cw) wh) :
 Calls Tryz.prog 80 #[.agg (eH here (U ps ns cs) (U pm nm cm) px py pz ph pq (U pw nw cw)),I s] w λe w'=>e=.returned (Il #[I (if dU s=true then⟨#[]⟩ else BF s here sv ms ⟨px,py,pz,ph,pq⟩ wh),AT (!dU s),O J 0])/\Below w.heap.size w w':=by
 have HS:Hid (Sv.Sl w (U ps ns cs) sv):=hs;have HM:Hid (Sl w (U pm nm cm) ms):=hm;have HW:Hid (Wh.Sl w (U pw nw cw) wh):=hw;have hMS:=λ(W:World) (h:ML W) (a1:Sv.Sl W (U ps ns cs) sv) (a2:Sl W (U pm nm cm) ms) (a3:Wh.Sl W (U pw nw cw) wh)=>xh here ps pm pw ns cs nm cm nw cw px py pz ph pq s sv ms wh W h hk a1 a2 a3;have N3:Hid _:=hMS;have Nj:Hid (ML w):=nI;have mU:=P9 (s:=s) hk;have HFE:Hid (pt (mS s) (fZ s here sv ms ⟨px,py,pz,ph,pq⟩ wh).code (fZ s here sv ms ⟨px,py,pz,ph,pq⟩ wh).al true false (fZ s here sv ms ⟨px,py,pz,ph,pq⟩ wh).R (fZ s here sv ms ⟨px,py,pz,ph,pq⟩ wh).rs 512=0):=Ra mU (Mf s);have GY:Hid (BF s here sv ms ⟨px,py,pz,ph,pq⟩ wh=qU (mS s) (fZ s here sv ms ⟨px,py,pz,ph,pq⟩ wh).code (fZ s here sv ms ⟨px,py,pz,ph,pq⟩ wh).al true false (fZ s here sv ms ⟨px,py,pz,ph,pq⟩ wh).R (fZ s here sv ms ⟨px,py,pz,ph,pq⟩ wh).rs 512):=rfl;have A9:Hid ((fZ s here sv ms ⟨px,py,pz,ph,pq⟩ wh).R.size<=maxLen):=by have h:=(gy mU.name).1;show _<=_;unfold maxLen;omega
 have Wf:Hid (∀r∈(fZ s here sv ms ⟨px,py,pz,ph,pq⟩ wh).rs,r.ok):=λr hr=>LW (mU.rs r hr);clear hs hm hw hMS hk nI mU;generalize BF s here sv ms ⟨px,py,pz,ph,pq⟩ wh=RTX at *;generalize fZ s here sv ms ⟨px,py,pz,ph,pq⟩ wh=SP at *;obtain⟨RC,RT,RR,RS⟩:=SP;simp only at *;generalize hTX:(if dU s=true then(⟨#[]⟩:ByteArray) else RTX)=TX at *;have SQ:Hid ((if dU s=true then(⟨#[]⟩:ByteArray) else RTX)=TX):=hTX;generalize hOB:(!dU s)=OB at *;have HOB:Hid ((!dU s)=OB):=hOB;clear hTX hOB;by_cases h12:s.size<12
 .have HQ:Hid (dU s=true):=by show dU s=true;unfold dU;simp[h12]
  have agJ:(s.size:Int)<12:=by omega
  go_enter Tryz.func80,Tryz.ntmps80;go_wp2_with fail;go_ret3
  have e1:TX=⟨#[]⟩:=by rw[<- SQ.out,HQ.out];rfl
  have e2:OB=false:=by rw[<- HOB.out,HQ.out];rfl
  exact⟨by rw[e1,e2];rfl,(Below.refl _ _).alloc (By _) _⟩
 .have agJ:¬ (s.size:Int)<12:=by omega
  have SM:0<s.size:=by omega
  have hx1:1<s.size:=by omega
  have hx2:2<s.size:=by omega
  have aD:(bits BinOp.and IntKind.u8 ((s[2].toNat:Nat):Int) 128 !=0)=decide (128<=s[2].toNat):=We s[2];have HQ:Hid (dU s=decide (128<=s[2].toNat)):=by show dU s=_;unfold dU;rw[byte_at s 2 hx2];simp[h12]
  have HID:Hid (mS s=256*((s[0].toNat:Nat):Int)+((s[1].toNat:Nat):Int)):=by show mS s=_;unfold mS;rw[byte_at s 0 SM,byte_at s 1 hx1];rfl
  by_cases hq:128<=s[2].toNat
  .rw[decide_eq_true hq] at aD HQ
   go_enter Tryz.func80,Tryz.ntmps80;go_wp2_with fail;go_ret3
   have e1:TX=⟨#[]⟩:=by rw[<- SQ.out,HQ.out];rfl
   have e2:OB=false:=by rw[<- HOB.out,HQ.out];rfl
   exact⟨by rw[e1,e2];rfl,(Below.refl _ _).alloc (By _) _⟩
  .rw[decide_eq_false hq] at aD HQ
   have Nc:Hid (TX=RTX):=by show TX=RTX;rw[<- SQ.out,HQ.out];rfl
   have lT:Hid (OB=true):=by show OB=true;rw[<- HOB.out,HQ.out];rfl
   clear hq SQ HOB HQ;generalize mS s=ID at *;have eG:Below w.heap.size w (w.alloc (.cells (eH here (U ps ns cs) (U pm nm cm) px py pz ph pq (U pw nw cw)) 137)):=(Below.refl _ _).alloc (By _) _;go_enter Tryz.func80,Tryz.ntmps80;go_wp2_with fail;refine Calls.mono (N3.out _ (Nj.out.below eG) (HS.out.below eG) (HM.out.below eG) (HW.out.below eG)) ?_;rintro e w1 ⟨v,rfl,ho,an⟩;obtain⟨pv,cv,oR⟩:=qv ho;obtain⟨nv,hnv⟩:∃nv,nv=RS.length:=⟨_,rfl⟩;have Hx:RS.length<=cv:=by
    rcases ho.2 with⟨h,h0⟩|⟨g,c,cur,h,_,_,fa,_⟩
    .rw[oR] at h;injection h with _ _ h3;omega
    .rw[oR] at h;injection h with _ _ h3;omega
   subst oR;have gi:w.heap.size+1<=w1.heap.size:=by have:=an.size;simpa using this
   have aK:Hid (Below w.heap.size w w1):=eG.trans (an.mono (by simp<;>omega));have mM:Hid (Rc.Own w.heap.size w1 (U pv RS.length cv) RS):=ho.mono (by simp<;>omega);clear ho an hnv eG;have hy0:(0:Int)<(s.size:Int):=by omega
   have hy1:(1:Int)<(s.size:Int):=by omega
   go_wp2_with fail;go_region
   go_wp2_with fail;have xq:bits BinOp.or IntKind.i64 (wrap64 (wrap64 ((s[0].toNat:Nat):Int)*256)) (wrap64 ((s[1].toNat:Nat):Int))=ID:=(or8 s[0] s[1]).trans HID.out.symm;rw[xq];clear xq;have Ss:Below w.heap.size w (w1.alloc (.cells #[O J ID,AT true,AT false,O J RC,I RR,O J RT,U pv RS.length cv] 43)).drew:=(aK.out.alloc (by omega) _).drew;have abc:Rc.Sl (w1.alloc (.cells #[O J ID,AT true,AT false,O J RC,I RR,O J RT,U pv RS.length cv] 43)).drew (U pv RS.length cv) RS:=Rc.fE (mM.out.below ((Below.refl _ _).alloc (By _) _).drew) Wf.out;refine(N6 ID RC RT 512 true false RR RS pv cv _ (Nj.out.below Ss) A9.out abc Hx).mono ?_;rintro e w2 ⟨rfl,Wg⟩;have bD:Hid (Below w.heap.size w w2):=Ss.trans (Wg.mono (by simp<;>omega));rw[HFE.out,<- GY.out];clear Wg Ss abc;go_wp2_with fail;go_ret3
   exact⟨by rw[Nc.out,lT.out];rfl,bD.out⟩
theorem FP(here:ByteArray)(ps pm pw:Option Addr)(ns cs nm cm nw cw:Nat)(px py pz ph pq:Int)(s:ByteArray)(sv:List Sv.ba)(ms:List Mem)(wh:List Wh.cd)(w:World)(nI:ML w)(hh:here.size<=maxLen)(hs:Sv.Sl w (U ps ns cs) sv)(hm:Sl w (U pm nm cm) ms)(hw:Wh.Sl w (U pw nw cw) wh) :
 Calls Tryz.prog 32 #[I s,I here,U ps ns cs,U pm nm cm,.agg #[O J px,O J py,O J pz,O J ph,O J pq],U pw nw cw] w λe w'=>e=.returned (Il #[I (rm s here sv ms ⟨px,py,pz,ph,pq⟩ wh),AT (FO s here sv ms ⟨px,py,pz,ph,pq⟩ wh),O J (Bn here sv ms ⟨px,py,pz,ph,pq⟩ wh)])/\Below w.heap.size w w':=by
 have HS:Hid (Sv.Sl w (U ps ns cs) sv):=hs;have HM:Hid (Sl w (U pm nm cm) ms):=hm;have HW:Hid (Wh.Sl w (U pw nw cw) wh):=hw;have Nj:Hid (ML w):=nI;have oO:Hid (∀W,Sv.Sl W (U ps ns cs) sv->Sl W (U pm nm cm) ms->Wh.Sl W (U pw nw cw) wh->Calls Tryz.prog 79 #[.agg (eH here (U ps ns cs) (U pm nm cm) px py pz ph pq (U pw nw cw))] W λe w'=>e=.returned (O J (Bn here sv ms ⟨px,py,pz,ph,pq⟩ wh))/\Below W.heap.size W w'):=λW a1 a2 a3=>Bp here ps pm pw ns cs nm cm nw cw px py pz ph pq sv ms wh W hh a1 a2 a3;have HCR:Hid (Bn here sv ms ⟨px,py,pz,ph,pq⟩ wh=0->∀W,ML W->Sv.Sl W (U ps ns cs) sv->Sl W (U pm nm cm) ms->Wh.Sl W (U pw nw cw) wh->Calls Tryz.prog 80 #[.agg (eH here (U ps ns cs) (U pm nm cm) px py pz ph pq (U pw nw cw)),I s] W λe w'=>e=.returned (Il #[I (if dU s=true then⟨#[]⟩ else BF s here sv ms ⟨px,py,pz,ph,pq⟩ wh),AT (!dU s),O J 0])/\Below W.heap.size W w'):=λh W h2 a1 a2 a3=>BH here ps pm pw ns cs nm cm nw cw px py pz ph pq s sv ms wh W h2 (af5 h) a1 a2 a3;have Nc:Hid (Bn here sv ms ⟨px,py,pz,ph,pq⟩ wh=0->rm s here sv ms ⟨px,py,pz,ph,pq⟩ wh=(if dU s=true then⟨#[]⟩ else BF s here sv ms ⟨px,py,pz,ph,pq⟩ wh)/\FO s here sv ms ⟨px,py,pz,ph,pq⟩ wh = !dU s):=λh=>by unfold rm FO;rw[if_pos h,if_pos h];exact⟨rfl,rfl⟩
 have xI:Hid (Bn here sv ms ⟨px,py,pz,ph,pq⟩ wh≠0->rm s here sv ms ⟨px,py,pz,ph,pq⟩ wh=⟨#[]⟩/\FO s here sv ms ⟨px,py,pz,ph,pq⟩ wh=false):=λh=>by unfold rm FO;rw[if_neg h,if_neg h];exact⟨rfl,rfl⟩
 clear hs hm hw nI;generalize rm s here sv ms ⟨px,py,pz,ph,pq⟩ wh=TX at *;generalize FO s here sv ms ⟨px,py,pz,ph,pq⟩ wh=BX at *;generalize Bn here sv ms ⟨px,py,pz,ph,pq⟩ wh=ke at *;generalize(if dU s=true then(⟨#[]⟩:ByteArray) else BF s here sv ms ⟨px,py,pz,ph,pq⟩ wh)=TY at *;generalize(!dU s)=BY at *;go_enter Tryz.func32,Tryz.ntmps32;go_wp2_with fail;obtain⟨W,hW⟩:∃W,W=(w.alloc (.cells #[O J px,O J py,O J pz,O J ph,O J pq] 27)).alloc (.cells (eH here (U ps ns cs) (U pm nm cm) px py pz ph pq (U pw nw cw)) 137):=⟨_,rfl⟩;rw[<- hW];have eG:Below w.heap.size w W:=by rw[hW];exact((Below.refl _ _).alloc (By _) _).alloc (by simp) _
 have rA:W.heap[w.heap.size+1]?=Z (.cells (eH here (U ps ns cs) (U pm nm cm) px py pz ph pq (U pw nw cw)) 137 (0,0)):=by
  rw[hW];have h:=heap_alloc_new (w.alloc (.cells #[O J px,O J py,O J pz,O J ph,O J pq] 27)) (.cells (eH here (U ps ns cs) (U pm nm cm) px py pz ph pq (U pw nw cw)) 137);simpa using h
 have pY:w.heap.size+2<=W.heap.size:=by rw[hW];simp
 clear hW;refine(oO.out W (HS.out.below eG) (HM.out.below eG) (HW.out.below eG)).mono ?_;rintro e w1 ⟨rfl,an⟩;have gi:=an.size;have aK:Hid (Below w.heap.size w w1):=eG.trans (an.mono (by omega));have k1:w1.heap[w.heap.size+1]?=_:=(an.block _ (by omega)).trans rA;have d0:w1.cell? ⟨w.heap.size+1,0,Y⟩=Z (I here):=af k1 0;have d1:w1.cell? ⟨w.heap.size+1,1,Y⟩=Z (U ps ns cs):=af k1 1;have d2:w1.cell? ⟨w.heap.size+1,2,Y⟩=Z (U pm nm cm):=af k1 2;have d3:w1.cell? ⟨w.heap.size+1,3,Y⟩=Z (O J px):=af k1 3;have d4:w1.cell? ⟨w.heap.size+1,4,Y⟩=Z (O J py):=af k1 4;have d5:w1.cell? ⟨w.heap.size+1,5,Y⟩=Z (O J pz):=af k1 5;have d6:w1.cell? ⟨w.heap.size+1,6,Y⟩=Z (O J ph):=af k1 6;have d7:w1.cell? ⟨w.heap.size+1,7,Y⟩=Z (O J pq):=af k1 7;have d8:w1.cell? ⟨w.heap.size+1,8,Y⟩=Z (U pw nw cw):=af k1 8;clear k1 rA an eG;by_cases h0:ke=0
 .obtain⟨r1,r2⟩:=Nc.out h0
  have H1:Hid (TX=TY):=r1;have H2:Hid (BX=BY):=r2;have agL:Hid _:=HCR.out h0;clear r1 r2 Nc xI HCR;subst h0;go_wp2_with fail;refine Calls.mono (agL.out w1 (Nj.out.below aK.out) (HS.out.below aK.out) (HM.out.below aK.out) (HW.out.below aK.out)) ?_;rintro e w2 ⟨rfl,aD⟩;have bD:Hid (Below w.heap.size w w2):=aK.out.trans (aD.mono (by omega));clear aD;go_wp2_with fail;go_ret3
  exact⟨by rw[H1.out,H2.out];rfl,bD.out⟩
 .obtain⟨r1,r2⟩:=xI.out h0
  have H1:Hid (TX=⟨#[]⟩):=r1;have H2:Hid (BX=false):=r2;have h0':(ke !=0)=true:=by simpa using h0
  clear r1 r2 Nc xI HCR;go_wp2_with fail;go_ret3
  exact⟨by rw[H1.out,H2.out];rfl,aK.out⟩
end Go.Proofs.YtfidjlcdlakceaaGreatDoor
