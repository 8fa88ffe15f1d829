import Derived.Test.YtfidjlcdlakceaaGreatDoorrt21
set_option maxHeartbeats 6400000
set_option maxRecDepth 100000
open List renaming take_succ_eq_append_getElem→Iw,filter_append→JL
open Go.Value renaming string→I,int→O,bool→AT
open Nat renaming le_refl→By
open Go.Proofs.Tryz renaming func83→OP,ntmps83→OE
namespace Go.Proofs.YtfidjlcdlakceaaGreatDoor
namespace Sv
open Go.RowKit
section
open Go.ChangeShapes Go.WideShapes Go.ChangeAt
variable {H:Type} {enc:TypeId × Value→H} {w:World} {base:Nat} {spare:Nat→Bool} {held:Bool}
end
end Sv
namespace Sv
open Go.RowKit
end Sv
namespace Sv
open Go.RowKit
def keep(name tag:ByteArray)(m:ba):Bool:=(m.name.toList==name.toList)&&((tag.toList==[])||(m.tag.toList==tag.toList))&&m.aO&&!m.gone
def cy(ms:List ba)(name tag:ByteArray):List ba:=ms.filter (keep name tag)
def CK(name tag:ByteArray):Int:=if(aA name&&ki tag)=true then 0 else 1
theorem EV{ms:List ba}{name tag:ByteArray}{k:Nat}(hk:k<ms.length)(h:keep name tag (ms.getD k dm)=true):cy (ms.take (k+1)) name tag=cy (ms.take k) name tag++[ms.getD k dm]:=by
 rw[RL.rK dm hk] at h ⊢;rw[cy,cy,Iw hk,JL,List.filter_cons_of_pos h];rfl
theorem Lb{ms:List ba}{name tag:ByteArray}{k:Nat}(hk:k<ms.length)(h:keep name tag (ms.getD k dm)=false):cy (ms.take (k+1)) name tag=cy (ms.take k) name tag:=by
 rw[RL.rK dm hk] at h;rw[cy,cy,Iw hk,JL,List.filter_cons_of_neg (by rw[h];exact Bool.false_ne_true)];simp
theorem vA(ms:List ba)(name tag:ByteArray):(cy ms name tag).length<=ms.length:=List.length_filter_le _ _
theorem Lc{ms:List ba}{name tag:ByteArray}(h:∀m∈ms,m.ok):∀m∈cy ms name tag,m.ok:=λm hm=>h m (List.mem_filter.1 hm).1
theorem Ld(name tag:ByteArray)(m:ba) : (keep name tag m=false/\((m.name.toList==name.toList)=false\/((m.name.toList==name.toList)=true/\(tag.toList==[])=false/\(m.tag.toList==tag.toList)=false)
   \/ ((m.name.toList==name.toList)=true/\(tag.toList==[])=true/\m.aO=false)\/((m.name.toList==name.toList)=true/\(tag.toList==[])=false/\(m.tag.toList==tag.toList)=true/\m.aO=false)
   \/ ((m.name.toList==name.toList)=true/\(tag.toList==[])=true/\m.aO=true/\m.gone=true)\/((m.name.toList==name.toList)=true/\(tag.toList==[])=false/\(m.tag.toList==tag.toList)=true/\m.aO=true/\m.gone=true)))
 \/ (keep name tag m=true/\(((m.name.toList==name.toList)=true/\(tag.toList==[])=true/\m.aO=true/\m.gone=false)\/((m.name.toList==name.toList)=true/\(tag.toList==[])=false/\(m.tag.toList==tag.toList)=true/\m.aO=true/\m.gone=false))):=by
 unfold keep;generalize(m.name.toList==name.toList)=b1;generalize(tag.toList==[])=b2;generalize(m.tag.toList==tag.toList)=b3;generalize m.aO=b4;generalize m.gone=b5;cases b1<;>cases b2<;>cases b3<;>cases b4<;>cases b5<;>simp
theorem sN(ms:List ba)(v:Value)(name tag:ByteArray)(w:World)(hv:Sl w v ms)(h0:aM ms=0)(hn:name.size<=maxLen)(ht:tag.size<=maxLen)(hl:CK name tag=0) :
 Calls Tryz.prog 193 #[v,I name,I tag] w λe w'=>∃v',e=.returned (.tuple #[v',O .i64 0])/\Own w.heap.size w' v' (cy ms name tag)/\Below w.heap.size w w':=by
 obtain⟨i0,eP,cE,gn,ga⟩:=info_parts Tryz.Le;have he:(aM ms !=0)=false:=by simpa using h0
 have hlen:=(aI h0).1;have HV:Hid (Sl w v ms):=hv;have Xs:aA name=true/\ki tag=true:=by
  unfold CK at hl;split at hl
  .rename_i h;simpa using h
  .cases hl
 obtain⟨h1,h2⟩:=Xs;obtain⟨pa,ca,rfl,_,ha⟩:=hv;have HA:Hid _:=ha;clear ha h0 hl;generalize qK:ms.length=n at *;have HN:Hid (ms.length=n):=qK;clear qK;go_enter Tryz.func193,Tryz.ntmps193;go_wp2_with (first|(go_at_call 129;refine(aR ms _ _ HV.out).mono ?_;rintro e w1 ⟨rfl,an⟩)|(go_at_call 65;refine(aW _ _ hn).mono ?_;rintro e w' ⟨rfl,rfl⟩;rw[h1])|(go_at_call 59;refine(CJ tag _ _ ht (DV _ _)).mono ?_;rintro e w3 ⟨rfl,rfl⟩;rw[h2]));have aK:Hid (Below w.heap.size w _):=an.alloc an.size (.cells #[I tag] 9);have gi:=aK.out.size;clear an HV;go_loopw [9,28] (λkn i w'=>∃k:Nat,k<=n/\i=O .i64 k/\Below w.heap.size w w'/\Hid (Own w.heap.size w' kn (cy (ms.take k) name tag))) (λ_ i _=>n-(intOf i).toNat)
 case atStart=>exact⟨0,Nat.zero_le _,rfl,aK.out,bz _ _⟩
 case round=>
  obtain⟨k,hk,rfl,aL,HO⟩:=hrel;obtain⟨dJ,k8⟩:=cD aL;have bb:=aL.size;have ali:(cy (ms.take k) name tag).length<=40:=by have h1:=vA (ms.take k) name tag;have h2:(ms.take k).length<=k:=List.length_take_le _ _;omega
  by_cases aB:k<n
  .obtain⟨b1,o1,hZ,dX,kF⟩:∃b off,pa=some ⟨b,off,none⟩/\b<w.heap.size/\Row w b off ms:=by
    rcases HA.out with h|h
    .have:=HN.out;rw[h] at this;simp at this;omega
    .exact h
   subst hZ;obtain⟨c0,c1,c2,c3,c4,c5,c6,c7,c8⟩:=kF k (by rw[HN.out];exact aB);clear kF;have Ap:k<ms.length:=by rw[HN.out];exact aB
   have HY:Hid (keep name tag (ms.getD k dm)=true->cy (ms.take (k+1)) name tag=cy (ms.take k) name tag++[ms.getD k dm]):=λh=>EV Ap h;have K4:Hid (keep name tag (ms.getD k dm)=false->cy (ms.take (k+1)) name tag=cy (ms.take k) name tag):=λh=>Lb Ap h;generalize ms.getD k dm=m at *;rcases Ld name tag m with⟨jZ,hw⟩|⟨jZ,hw⟩
   .have o6:Hid (cy (ms.take (k+1)) name tag=cy (ms.take k) name tag):=K4.out jZ
    clear HY K4 jZ;rcases hw with h|⟨h,g1,g2⟩|⟨h,g1,g2⟩|⟨h,g1,g2,g3⟩|⟨h,g1,g2,g3⟩|⟨h,g1,g2,g3,g4⟩;all_goals
     go_wp2_with fail;go_roundw
     case rel=>exact⟨k+1,by omega,by go_num,aL.alloc bb _,by rw[o6.out];exact HO.out.below ((Below.refl _ _).alloc (By _) _)⟩
     case measure=>simp[intOf];omega
   .have o6:Hid (cy (ms.take (k+1)) name tag=cy (ms.take k) name tag++[m]):=HY.out jZ
    clear HY K4 jZ;generalize cy (ms.take k) name tag=L at *;rcases hw with⟨h,g1,gp,gg⟩|⟨h,g1,g2,gp,gg⟩;all_goals
     go_wp2_with (at_builtin;refine wpList_append_own _ rfl _ _ 24 rfl w.heap.size 52 i0 _ 9 104 Tryz.underlying24 eP cE gn ga rfl (by omega) _ L.length (fl L) rfl ?hown ⟨wr.heap.size+1,0,none⟩ 1 1 m.cs rfl rfl ?hnews (da _) ?h63 ?hbytes ?hbase ?_)
     case hown=>exact HO.out.below (((Below.refl _ _).alloc (By _) _).alloc (by simp) _)
     case hnews=>(intro j u hj;rw[Addr.add_lit];exact(dF (by simp)).trans (by simpa[ba.cs,gp,gg] using hj))
     case h63=>(unfold maxLen;omega)
     case hbytes=>omega
     case hbase=>(simp;omega)
     all_goals
      intro v' w2 r1 r2 r3;have gV:Hid (Below w.heap.size w w2):=((aL.alloc bb _).alloc (by simp;omega) _).grown r2 (by simp;omega) (λj hj=>(HO.out.lt j hj).1);have Sf:Hid (Own w.heap.size w2 v' (L++[m])):=ew r1;clear r1 r2 r3;go_wp2_with fail;go_roundw
      case rel=>exact⟨k+1,by omega,by go_num,gV.out,by rw[o6.out];exact Sf.out⟩
      case measure=>simp[intOf];omega
  .have gj:k=n:=by omega
   subst gj;have HFO:Hid (Own w.heap.size wr u9 (cy ms name tag)):=by
    have h:=HO.out;rw[List.take_of_length_le (by rw[HN.out];exact By _)] at h;exact h
   go_wp2_with fail;go_ret2;exact⟨u9,rfl,HFO.out,aL⟩
end Sv
namespace Sv
open Go.RowKit
end Sv
namespace Sv
open Go.RowKit
end Sv
namespace Sv
open Go.RowKit
theorem afB(m:ba):m.e=if aA m.node=true then(if aA m.cF=true then(if aA m.name=true then(if ki m.tag=true then(if within m.addr 0 4294967295=true then(if within m.port 0 65535=true then(if within m.version 1 1000000=true then 0 else 3) else 3) else 3) else 1) else 1) else 1) else 1:=by
 unfold ba.e;cases aA m.node<;>cases aA m.cF<;>cases aA m.name<;>cases ki m.tag<;>cases within m.addr 0 4294967295<;>cases within m.port 0 65535<;>cases within m.version 1 1000000<;>rfl
theorem Bh(m:ba)(w:World)(hm:m.ok) :
 ij 83 #[.agg #[I m.node,I m.cF,I m.name,I m.tag,O .i64 m.addr,O .i64 m.port,AT m.aO,O .i64 m.version,AT m.gone]] w (O .i64 m.e):=by
 obtain⟨gi,nP,Ni,yw⟩:=hm;have hB:Hid (Below w.heap.size w (w.alloc (.cells #[I m.node,I m.cF,I m.name,I m.tag,O .i64 m.addr,O .i64 m.port,AT m.aO,O .i64 m.version,AT m.gone] 52))):=(Below.refl _ _).alloc (By _) _;have HD:Hid (m.e=_):=afB m;have GQ:Hid (∀s:ByteArray,(s=m.node\/s=m.cF\/s=m.name\/s=m.tag)->s.size<=maxLen):=by rintro s (rfl|rfl|rfl|rfl)<;>assumption
 clear gi nP Ni yw;rcases h1:aA m.node with _|_
 .go_enter OP,OE
  go_wp2_with (go_at_call 33;refine(aN _ _ (GQ.out _ (by simp))).mono ?_;rintro e w' ⟨rfl,rfl⟩;first|rw[h1]);go_ret;exact⟨aj (by rw[HD.out];simp[h1]),hB.out⟩
 .rcases h2:aA m.cF with _|_
  .go_enter OP,OE
   go_wp2_with (go_at_call 33;refine(aN _ _ (GQ.out _ (by simp))).mono ?_;rintro e w' ⟨rfl,rfl⟩;first|rw[h1]|rw[h2]);go_ret;exact⟨aj (by rw[HD.out];simp[h1,h2]),hB.out⟩
  .rcases h3:aA m.name with _|_
   .go_enter OP,OE
    go_wp2_with (go_at_call 33;refine(aN _ _ (GQ.out _ (by simp))).mono ?_;rintro e w' ⟨rfl,rfl⟩;first|rw[h1]|rw[h2]|rw[h3]);go_ret;exact⟨aj (by rw[HD.out];simp[h1,h2,h3]),hB.out⟩
   .by_cases ht:m.tag=ByteArray.empty
    .have ht1:m.tag.toList=[]:=by rw[ht,Lib.toList_data];rfl
     have Af:(m.tag.toList==[])=true:=by rw[ht1];rfl
     have EJ:ki m.tag=true:=by simp[ki,ht]
     clear ht;rcases h5:within m.addr 0 4294967295 with _|_
     .go_enter OP,OE
      go_wp2_with (first|(go_at_call 33;refine(aN _ _ (GQ.out _ (by simp))).mono ?_;rintro e w' ⟨rfl,rfl⟩;first|rw[h1]|rw[h2]|rw[h3])|(go_at_call 85;refine(bW _ _).mono ?_;rintro e w' ⟨rfl,rfl⟩;rw[h5]));go_ret;exact⟨aj (by rw[HD.out];simp[h1,h2,h3,EJ,h5]),hB.out⟩
     .rcases h6:within m.port 0 65535 with _|_
      .go_enter OP,OE
       go_wp2_with (first|(go_at_call 33;refine(aN _ _ (GQ.out _ (by simp))).mono ?_;rintro e w' ⟨rfl,rfl⟩;first|rw[h1]|rw[h2]|rw[h3])|(go_at_call 85;refine(bW _ _).mono ?_;rintro e w' ⟨rfl,rfl⟩;rw[h5])|(go_at_call 82;refine(cj _ _ _ _).mono ?_;rintro e w' ⟨rfl,rfl⟩;first|rw[h6]));go_ret;exact⟨aj (by rw[HD.out];simp[h1,h2,h3,EJ,h5,h6]),hB.out⟩
      .rcases h7:within m.version 1 1000000 with _|_
       .go_enter OP,OE
        go_wp2_with (first|(go_at_call 33;refine(aN _ _ (GQ.out _ (by simp))).mono ?_;rintro e w' ⟨rfl,rfl⟩;first|rw[h1]|rw[h2]|rw[h3])|(go_at_call 85;refine(bW _ _).mono ?_;rintro e w' ⟨rfl,rfl⟩;rw[h5])|(go_at_call 82;refine(cj _ _ _ _).mono ?_;rintro e w' ⟨rfl,rfl⟩;first|rw[h6]|rw[h7]));go_ret;exact⟨aj (by rw[HD.out];simp[h1,h2,h3,EJ,h5,h6,h7]),hB.out⟩
       .go_enter OP,OE
        go_wp2_with (first|(go_at_call 33;refine(aN _ _ (GQ.out _ (by simp))).mono ?_;rintro e w' ⟨rfl,rfl⟩;first|rw[h1]|rw[h2]|rw[h3])|(go_at_call 85;refine(bW _ _).mono ?_;rintro e w' ⟨rfl,rfl⟩;rw[h5])|(go_at_call 82;refine(cj _ _ _ _).mono ?_;rintro e w' ⟨rfl,rfl⟩;first|rw[h6]|rw[h7]));go_ret;exact⟨aj (by rw[HD.out];simp[h1,h2,h3,EJ,h5,h6,h7]),hB.out⟩
    .have ht1:¬ m.tag.toList=[]:=λe=>(eJ ht).2 (by rw[e,Lib.toList_data];rfl)
     have Af:(m.tag.toList==[])=false:=by simpa using ht1
     have HTT:Hid (ki m.tag=aA m.tag):=(show ki m.tag=aA m.tag by simp[ki,ht]);clear ht;rcases h4:aA m.tag with _|_
     .have EJ:ki m.tag=false:=HTT.out.trans h4
      go_enter OP,OE;go_wp2_with (go_at_call 33;refine(aN _ _ (GQ.out _ (by simp))).mono ?_;rintro e w' ⟨rfl,rfl⟩;first|rw[h1]|rw[h2]|rw[h3]|rw[h4]);go_ret;exact⟨aj (by rw[HD.out];simp[h1,h2,h3,EJ]),hB.out⟩
     .have EJ:ki m.tag=true:=HTT.out.trans h4
      rcases h5:within m.addr 0 4294967295 with _|_
      .go_enter OP,OE
       go_wp2_with (first|(go_at_call 33;refine(aN _ _ (GQ.out _ (by simp))).mono ?_;rintro e w' ⟨rfl,rfl⟩;first|rw[h1]|rw[h2]|rw[h3]|rw[h4])|(go_at_call 85;refine(bW _ _).mono ?_;rintro e w' ⟨rfl,rfl⟩;rw[h5]));go_ret;exact⟨aj (by rw[HD.out];simp[h1,h2,h3,EJ,h5]),hB.out⟩
      .rcases h6:within m.port 0 65535 with _|_
       .go_enter OP,OE
        go_wp2_with (first|(go_at_call 33;refine(aN _ _ (GQ.out _ (by simp))).mono ?_;rintro e w' ⟨rfl,rfl⟩;first|rw[h1]|rw[h2]|rw[h3]|rw[h4])|(go_at_call 85;refine(bW _ _).mono ?_;rintro e w' ⟨rfl,rfl⟩;rw[h5])|(go_at_call 82;refine(cj _ _ _ _).mono ?_;rintro e w' ⟨rfl,rfl⟩;first|rw[h6]));go_ret;exact⟨aj (by rw[HD.out];simp[h1,h2,h3,EJ,h5,h6]),hB.out⟩
       .rcases h7:within m.version 1 1000000 with _|_
        .go_enter OP,OE
         go_wp2_with (first|(go_at_call 33;refine(aN _ _ (GQ.out _ (by simp))).mono ?_;rintro e w' ⟨rfl,rfl⟩;first|rw[h1]|rw[h2]|rw[h3]|rw[h4])|(go_at_call 85;refine(bW _ _).mono ?_;rintro e w' ⟨rfl,rfl⟩;rw[h5])|(go_at_call 82;refine(cj _ _ _ _).mono ?_;rintro e w' ⟨rfl,rfl⟩;first|rw[h6]|rw[h7]));go_ret;exact⟨aj (by rw[HD.out];simp[h1,h2,h3,EJ,h5,h6,h7]),hB.out⟩
        .go_enter OP,OE
         go_wp2_with (first|(go_at_call 33;refine(aN _ _ (GQ.out _ (by simp))).mono ?_;rintro e w' ⟨rfl,rfl⟩;first|rw[h1]|rw[h2]|rw[h3]|rw[h4])|(go_at_call 85;refine(bW _ _).mono ?_;rintro e w' ⟨rfl,rfl⟩;rw[h5])|(go_at_call 82;refine(cj _ _ _ _).mono ?_;rintro e w' ⟨rfl,rfl⟩;first|rw[h6]|rw[h7]));go_ret;exact⟨aj (by rw[HD.out];simp[h1,h2,h3,EJ,h5,h6,h7]),hB.out⟩
end Sv
namespace Sv
open Go.RowKit
end Sv
end Go.Proofs.YtfidjlcdlakceaaGreatDoor
