import Derived.Test.YtfidjlcdlakceaaGreatDoorrt25
import Derived.Test.YtfidjlcdlakceaaGreatDoorrt29
set_option maxHeartbeats 12800000
set_option maxRecDepth 100000
open Go.Value renaming agg→Ip,string→I,int→O,bool→AT,slice→U,tuple→Il
open Go.IntKind renaming i64→J
open Go.Obj renaming cells→AI
open Go.RowKit.Below renaming refl→Ia,heap_alloc→It
open Nat renaming le_refl→By,zero_le→IF,not_lt_zero→IP,lt_succ_iff_lt_or_eq→II
open Option renaming some→Z,none→Y
open Go.Ending renaming returned→sh
open Go.Sort renaming grow→Im
open Go renaming redrawn→Ix,cell_regrown→Iq,wp_region_quiet_below→IT,maxLen→Ii,heap_alloc_new→Ie
open Go.Proofs.Tryz renaming prog→be
namespace Go.Proofs.YtfidjlcdlakceaaGreatDoor
namespace Sv
open Go.RowKit
theorem VW(a b:ba):decide (ord a b<0)=(less a.node b.node||(a.node.toList==b.node.toList&&less a.cF b.cF)):=by
 have hd:ord a b=if bl a.node b.node=0 then bl a.cF b.cF else bl a.node b.node:=rfl;rw[hd];by_cases he:a.node=b.node
 .have h0:=(cK _ _).2 he
  rw[if_pos h0,he,iZ,Bool.eq_iff_iff,decide_eq_true_eq,dx];simp
 .have h0:¬ bl a.node b.node=0:=λh=>he ((cK _ _).1 h)
  rw[if_neg h0,(eJ he).1,Bool.false_and,Bool.or_false,Bool.eq_iff_iff,decide_eq_true_eq,dx]
theorem Fx(a b:ba)(w:World) :
 ij 84 #[Ip #[I a.node,I a.cF,I a.name,I a.tag,O J a.addr,O J a.port,AT a.aO,O J a.version,AT a.gone],Ip #[I b.node,I b.cF,I b.name,I b.tag,O J b.addr,O J b.port,AT b.aO,O J b.version,AT b.gone]] w (AT (decide (ord a b<0))):=by
 have hB:Hid (Below w.heap.size w ((w.alloc (AI #[I a.node,I a.cF,I a.name,I a.tag,O J a.addr,O J a.port,AT a.aO,O J a.version,AT a.gone] 52)).alloc (AI #[I b.node,I b.cF,I b.name,I b.tag,O J b.addr,O J b.port,AT b.aO,O J b.version,AT b.gone] 52))):=((Ia _ _).alloc (By _) _).alloc (by simp) _;have HD:Hid (decide (ord a b<0)=(less a.node b.node||(a.node.toList==b.node.toList&&less a.cF b.cF))):=VW a b;generalize decide (ord a b<0)=res at *;rcases h1:Op.bytesLess a.node.toList b.node.toList with _|_
 .rcases h2:(a.node.toList==b.node.toList) with _|_
  .have h3:¬ a.node.toList=b.node.toList:=by simpa using h2
   have HR:Hid (res=false):=(show res=false by rw[HD.out,h2];simp[less,h1]);go_enter Tryz.func84,Tryz.ntmps84;go_wp2;go_ret;exact⟨az HR.out.symm,hB.out⟩
  .have h3:a.node.toList=b.node.toList:=by simpa using h2
   have HR:Hid (res=Op.bytesLess a.cF.toList b.cF.toList):=(show res=_ by rw[HD.out,h2];simp[less,h1]);rw[h3] at h1;go_enter Tryz.func84,Tryz.ntmps84;go_wp2;go_ret;exact⟨az HR.out.symm,hB.out⟩
 .have HR:Hid (res=true):=(show res=true by rw[HD.out];simp[less,h1])
  go_enter Tryz.func84,Tryz.ntmps84;go_wp2;go_ret;exact⟨az HR.out.symm,hB.out⟩
theorem fR(ms:List ba)(b off cap:Nat)(w:World)(hr:Row w b off ms)(hb:b<w.heap.size)(hn:ms.length<=40)(hs:∀j,(ms.getD j dm).ok) :
 ij 36 #[U (Z ⟨b,off,Y⟩) ms.length cap] w (O J (aM ms)):=by
 have HR:Hid (Row w b off ms):=hr;clear hr;have HE:Hid (∀k,k<ms.length->(∀j,j<k->(ms.getD j dm).e=0)->(ms.getD k dm).e≠0->aM ms=(ms.getD k dm).e):=λk h1 h2 h3=>ll ms k hn h1 h2 h3;have H4:Hid ((∀j,j<ms.length->(ms.getD j dm).e=0)->∀k,k+1<ms.length->0<=ord (ms.getD k dm) (ms.getD (k+1) dm)->aM ms=4):=λh1 k h2 h3=>sf ms k hn h1 h2 (by omega);have H0:Hid ((∀j,j<ms.length->(ms.getD j dm).e=0)->(∀j,j+1<ms.length->ord (ms.getD j dm) (ms.getD (j+1) dm)<0)->aM ms=0):=λh1 h2=>sg ms hn h1 h2;generalize hN:ms.length=n at *;have HN:Hid (ms.length=n):=hN;clear hN;have HS:Hid (∀j,(ms.getD j dm).ok):=hs;clear hs;generalize hC:aM ms=res at *;clear hC;go_enter Tryz.func36,Tryz.ntmps36;go_wp2_with fail;go_loopw [3] (λi w'=>∃k:Nat,k<=n/\i=O J k/\Below w.heap.size w w'/\Hid (∀j,j<k->(ms.getD j dm).e=0)) (λi _=>n-(intOf i).toNat)
 case atStart=>exact⟨0,IF _,rfl,Ia _ _,λj h=>absurd h (IP _)⟩
 case round=>
  obtain⟨k,hk,rfl,aL,hz⟩:=hrel;obtain⟨dJ,k8⟩:=cD aL;have bb:=aL.size;by_cases aB:k<n
  .obtain⟨c0,c1,c2,c3,c4,c5,c6,c7,c8⟩:=HR.out k (by rw[HN.out];exact aB)
   have GH:Hid ((ms.getD k dm).ok):=HS.out k;have HK:Hid ((ms.getD k dm).e≠0->res=(ms.getD k dm).e):=λh=>HE.out k aB hz.out h;have HZ:Hid ((ms.getD k dm).e=0->∀j,j<k+1->(ms.getD j dm).e=0):=λh j hj=>by
    rcases II.1 hj with h2|rfl
    .exact hz.out j h2
    .exact h
   generalize ms.getD k dm=m at *;have HO:Hid (∀w,ij 83 #[Ip #[I m.node,I m.cF,I m.name,I m.tag,O J m.addr,O J m.port,AT m.aO,O J m.version,AT m.gone]] w (O J m.e)):=λw=>Bh m w GH.out;generalize m.e=me at *;rcases he:decide (me=0) with _|_
   .have gJ:(me !=0)=true:=by simpa using he
    clear he;go_wp2_with (go_at_call 83;refine(HO.out _).mono ?_;rintro e w' ⟨rfl,aD⟩);go_ret;have bE:me≠0:=by simpa using gJ
    have iS:res=me:=HK.out bE;exact⟨aj iS.symm,aL.trans (aD.mono bb)⟩
   .have gJ:(me !=0)=false:=by simpa using he
    clear he;go_wp2_with (go_at_call 83;refine(HO.out _).mono ?_;rintro e w' ⟨rfl,aD⟩);go_roundw
    case rel=>
     have Kd:me=0:=by simpa using gJ
     exact⟨k+1,by omega,by go_num,aL.trans (aD.mono bb),HZ.out Kd⟩
    case measure=>simp[intOf];omega
  .have cX:Hid (∀j,j<n->(ms.getD j dm).e=0):=λj hj=>hz.out j (by omega)
   clear hz;go_wp2_with fail;go_loopw [5] (λi w'=>∃k:Nat,(k+1<=n\/k=0)/\i=O J (k+1)/\Below w.heap.size w w'/\Hid (∀j,j<k->ord (ms.getD j dm) (ms.getD (j+1) dm)<0)) (λi _=>n-(intOf i).toNat)
   case atStart=>exact⟨0,.inr rfl,rfl,aL,λj h=>absurd h (IP _)⟩
   case round=>
    clear dJ k8 bb aL;obtain⟨q,hq,rfl,aL,hz⟩:=hrel;obtain⟨dJ,k8⟩:=cD aL;have bb:=aL.size;by_cases aB:q+1<n
    .obtain⟨c0,c1,c2,c3,c4,c5,c6,c7,c8⟩:=HR.out q (by rw[HN.out];omega)
     obtain⟨d0,d1,d2,d3,d4,d5,d6,d7,d8⟩:=HR.out (q+1) (by rw[HN.out];exact aB);have HK:Hid (0<=ord (ms.getD q dm) (ms.getD (q+1) dm)->res=4):=λh=>H4.out cX.out q aB h;have HZ:Hid (ord (ms.getD q dm) (ms.getD (q+1) dm)<0->∀j,j<q+1->ord (ms.getD j dm) (ms.getD (j+1) dm)<0):=λh j hj=>by
      rcases II.1 hj with h2|rfl
      .exact hz.out j h2
      .exact h
     generalize ms.getD q dm=m1 at *;generalize ms.getD (q+1) dm=m2 at *;have hN:∀d os,aT 84 #[Ip #[I m1.node,I m1.cF,I m1.name,I m1.tag,O J m1.addr,O J m1.port,AT m1.aO,O J m1.version,AT m1.gone],Ip #[I m2.node,I m2.cF,I m2.name,I m2.tag,O J m2.addr,O J m2.port,AT m2.aO,O J m2.version,AT m2.gone]] (Im (Ix wr d) os) λe kE=>e=sh (AT (decide (ord m1 m2<0)))/\∃p:Regrown,kE=Im (Ix wr p.d) p.os:=λd os=>Calls.regrown_of (Fx m1 m2 _);have F0:∀d os,(Im (Ix wr d) os).cell? ⟨b,off+q*9,Y⟩=Z (I m1.node):=Iq ((dJ _ _ hb).trans c0);have F1:∀d os,(Im (Ix wr d) os).cell? ⟨b,off+q*9+1,Y⟩=Z (I m1.cF):=Iq ((dJ _ _ hb).trans c1);have F2:∀d os,(Im (Ix wr d) os).cell? ⟨b,off+q*9+2,Y⟩=Z (I m1.name):=Iq ((dJ _ _ hb).trans c2);have F3:∀d os,(Im (Ix wr d) os).cell? ⟨b,off+q*9+3,Y⟩=Z (I m1.tag):=Iq ((dJ _ _ hb).trans c3);have F4:∀d os,(Im (Ix wr d) os).cell? ⟨b,off+q*9+4,Y⟩=Z (O J m1.addr):=Iq ((dJ _ _ hb).trans c4);have F5:∀d os,(Im (Ix wr d) os).cell? ⟨b,off+q*9+5,Y⟩=Z (O J m1.port):=Iq ((dJ _ _ hb).trans c5);have F6:∀d os,(Im (Ix wr d) os).cell? ⟨b,off+q*9+6,Y⟩=Z (AT m1.aO):=Iq ((dJ _ _ hb).trans c6);have F7:∀d os,(Im (Ix wr d) os).cell? ⟨b,off+q*9+7,Y⟩=Z (O J m1.version):=Iq ((dJ _ _ hb).trans c7);have F8:∀d os,(Im (Ix wr d) os).cell? ⟨b,off+q*9+8,Y⟩=Z (AT m1.gone):=Iq ((dJ _ _ hb).trans c8);have G0:∀d os,(Im (Ix wr d) os).cell? ⟨b,off+(q+1)*9,Y⟩=Z (I m2.node):=Iq ((dJ _ _ hb).trans d0);have G1:∀d os,(Im (Ix wr d) os).cell? ⟨b,off+(q+1)*9+1,Y⟩=Z (I m2.cF):=Iq ((dJ _ _ hb).trans d1);have G2:∀d os,(Im (Ix wr d) os).cell? ⟨b,off+(q+1)*9+2,Y⟩=Z (I m2.name):=Iq ((dJ _ _ hb).trans d2);have G3:∀d os,(Im (Ix wr d) os).cell? ⟨b,off+(q+1)*9+3,Y⟩=Z (I m2.tag):=Iq ((dJ _ _ hb).trans d3);have G4:∀d os,(Im (Ix wr d) os).cell? ⟨b,off+(q+1)*9+4,Y⟩=Z (O J m2.addr):=Iq ((dJ _ _ hb).trans d4);have G5:∀d os,(Im (Ix wr d) os).cell? ⟨b,off+(q+1)*9+5,Y⟩=Z (O J m2.port):=Iq ((dJ _ _ hb).trans d5);have G6:∀d os,(Im (Ix wr d) os).cell? ⟨b,off+(q+1)*9+6,Y⟩=Z (AT m2.aO):=Iq ((dJ _ _ hb).trans d6);have G7:∀d os,(Im (Ix wr d) os).cell? ⟨b,off+(q+1)*9+7,Y⟩=Z (O J m2.version):=Iq ((dJ _ _ hb).trans d7);have G8:∀d os,(Im (Ix wr d) os).cell? ⟨b,off+(q+1)*9+8,Y⟩=Z (AT m2.gone):=Iq ((dJ _ _ hb).trans d8);clear c0 c1 c2 c3 c4 c5 c6 c7 c8 d0 d1 d2 d3 d4 d5 d6 d7 d8 dJ k8;have uR:IntKind.i64.wrap (q:Int)=(q:Int):=by rw[IntKind.wrap_i64];omega
     have TA:q<n:=by omega
     have gU:(q:Int)+1<(n:Int):=by omega
     have hq0:(0:Int)<=(q:Int)+1:=by omega
     have Xo:((q:Int)+1).toNat=q+1:=by omega
     rcases hl:decide (ord m1 m2<0) with _|_
     .have h4:Hid (res=4):=HK.out (by simpa using hl)
      rw[hl] at hN;clear hl;go_wp2_with fail;refine IT (by kernel_rfl) (by kernel_rfl) ?_;repeat(quiet_step (exact hN _ _))
      refine cA λdq oN gC=>?_;clear hN F0 F1 F2 F3 F4 F5 F6 F7 F8 G0 G1 G2 G3 G4 G5 G6 G7 G8;go_wp2_with fail;go_ret;exact⟨aj h4.out.symm,aL.trans (gC.out.mono bb)⟩
     .have HL:Hid (ord m1 m2<0):=(show ord m1 m2<0 by simpa using hl)
      rw[hl] at hN;clear hl;go_wp2_with fail;refine IT (by kernel_rfl) (by kernel_rfl) ?_;repeat(quiet_step (exact hN _ _))
      refine cA λdq oN gC=>?_;clear hN F0 F1 F2 F3 F4 F5 F6 F7 F8 G0 G1 G2 G3 G4 G5 G6 G7 G8;go_wp2_with fail;go_roundw
      case rel=>exact⟨q+1,.inl (by omega),by go_num,aL.trans (gC.out.mono bb),HZ.out HL.out⟩
      case measure=>simp[intOf];omega
    .have h0:Hid (res=0):=H0.out cX.out λj hj=>hz.out j (by omega)
     go_wp2_with fail;go_ret;exact⟨aj h0.out.symm,aL⟩
theorem fj(a:Option Addr)(n cap:Nat)(w:World)(hn:40<n) :
 aT 36 #[U a n cap] w λe w'=>e=sh (O J 2)/\w'=w:=by
 go_enter Tryz.func36,Tryz.ntmps36;go_wp2_with fail;go_ret;exact⟨rfl,rfl⟩
theorem fk(a:Option Addr)(cap:Nat)(w:World) :
 aT 36 #[U a 0 cap] w λe w'=>e=sh (O J 0)/\w'=w:=by
 go_enter Tryz.func36,Tryz.ntmps36;go_wp2_with fail;go_loop [3] (λi=>i=O J 0) (λ_=>0)
 case atStart=>rfl
 case round=>
  subst hrel;go_wp2_with fail;go_loop [5] (λi=>i=O J 1) (λ_=>0)
  case atStart=>rfl
  case round=>
   subst hrel;go_wp2_with fail;go_ret;exact⟨rfl,rfl⟩
theorem fS(ms:List ba)(v:Value)(w:World)(h:Sl w v ms) :
 ij 36 #[v] w (O J (aM ms)):=by
 obtain⟨a,cap,rfl,hs,h⟩:=h;by_cases hn:40<ms.length
 .refine(fj a ms.length cap w hn).mono ?_
  rintro e w' ⟨rfl,rfl⟩;exact⟨aj (by rw[aM,if_pos hn]),Ia _ _⟩
 .rcases h with rfl|⟨b,off,rfl,hb,hr⟩
  .refine(fk a cap w).mono ?_
   rintro e w' ⟨rfl,rfl⟩;exact⟨rfl,Ia _ _⟩
  .exact fR ms b off cap w hr hb (by omega) hs
end Sv
namespace Sv
open Go.RowKit
end Sv
end Go.Proofs.YtfidjlcdlakceaaGreatDoor
namespace Go.Proofs.YtfidjlcdlakceaaGreatDoor
open Go.RowKit
theorem rcI:(Tryz.prog.info? 64).map (λi=>(i.zero,i.size,i.bytes))=Z (Z (Ip #[I ⟨#[]⟩,O J 0,O J 0,O J 0,I ⟨#[]⟩,O J 0,I ⟨#[]⟩]),7,80):=by kernel_rfl
theorem LP{L:List Sv.ba}{f:Sv.ba->Rc.Rec}{k:Nat}(h:k<L.length):(L.take (k+1)).map f=(L.take k).map f++[f (L.getD k Sv.dm)]:=by
 rw[sV h];simp
theorem yX{q:Qu}{tag:ByteArray}(h:fO q=0)(hn:q.node.size=0)(ht:tag=q.tag\/tag=⟨#[]⟩):Sv.CK q.service tag=0:=by
 obtain⟨z0,z1,z2,_,_,_⟩:=jN h;have hs:q.service.size≠0:=λe=>by unfold wP at z0;simp[e,hn] at z0
 have hl:aA q.service=true:=by
  have h1:(decide (q.service=ByteArray.empty)||aA q.service)=true:=z1;have h2:decide (q.service=ByteArray.empty)=false:=by simpa using λe=>hs (by rw[e];rfl)
  rw[h2] at h1;simpa using h1
 have htg:Sv.ki tag=true:=by
  rcases ht with rfl|rfl
  .exact z2
  .rfl
 unfold Sv.CK;rw[hl,htg];rfl
theorem yY{B:Nat}{w:World}{v:Value}{ms:List Sv.ba}(h:Sv.Own B w v ms):∃p c,v=U p ms.length c:=by
 rcases h.2 with⟨hv,h0⟩|⟨g,c,cur,hv,_⟩
 .exact⟨Y,0,by rw[hv,h0]⟩
 .exact⟨_,c,hv⟩
structure tj(here:ByteArray)(sv:List Sv.ba)(ms:List Mem)(p:Pl)(wh:List Wh.cd):Prop where
 lab:aA here=true
 sv:Sv.aM sv=0
 ms:aM ms=0
 pl:yJ p wh=0
theorem af5{here:ByteArray}{sv:List Sv.ba}{ms:List Mem}{p:Pl}{wh:List Wh.cd}(h:Bn here sv ms p wh=0):tj here sv ms p wh:=by
 unfold Bn at h;by_cases h1:aA here=true
 .rw[if_pos h1] at h
  by_cases h2:Sv.aM sv=0
  .rw[if_pos h2] at h
   by_cases h3:aM ms=0
   .rw[if_pos h3] at h
    exact⟨h1,h2,h3,h⟩
   .rw[if_neg h3] at h;exact absurd h h3
  .rw[if_neg h2] at h;exact absurd h h2
 .rw[if_neg h1] at h;omega
theorem tj.sort{here:ByteArray}{sv:List Sv.ba}{ms:List Mem}{p:Pl}{wh:List Wh.cd}(h:tj here sv ms p wh){ns:List ByteArray}(hn:ns.length<=100):ot p wh ns=0/\ou p wh ns=GR p wh ns:=by
 have h1:=h.pl;unfold yJ at h1;by_cases hm:20<wh.length
 .rw[if_pos hm] at h1;omega
 .rw[if_neg hm] at h1
  have e:ot p wh ns=0:=by unfold ot;rw[if_neg (by omega)];exact h1
  exact⟨e,by unfold ou;rw[if_pos e]⟩
theorem PU(p:Pl)(wh:List Wh.cd)(ns:List ByteArray):(GR p wh ns).length=ns.length:=by
 unfold GR;have:=So.Bj (wO (dV (Dd (iv p) wh wh.length))) ns (EX _) ns.length (By _)
 rwa [List.take_length] at this
theorem PV{s:ByteArray}(h:aA s=true):s.size<=Ii:=by
 unfold aA at h;simp at h;unfold Ii;omega
theorem LQ(here:ByteArray)(ps pm pw:Option Addr)(ns cs nm cm nw cw:Nat)(px py pz ph pq:Int)(sv:List Sv.ba)(ms:List Mem)(wh:List Wh.cd)(found:List Sv.ba)(vf:Value)(w:World)(hk:tj here sv ms ⟨px,py,pz,ph,pq⟩ wh)(hm:Sl w (U pm nm cm) ms)(hw:Wh.Sl w (U pw nw cw) wh)(hf:Sv.Sl w vf found)(qP:found.length<=40) :
 Calls be 194 #[Ip (eH here (U ps ns cs) (U pm nm cm) px py pz ph pq (U pw nw cw)),vf] w λe w'=>∃v',e=sh v'/\Sv.Sl w' v' (iL ⟨px,py,pz,ph,pq⟩ wh ms found)/\Below w.heap.size w w':=by
 have hl:=pN ms found;have dK:=sS (bP ms found);have hn:nm<=1000:=by
  obtain⟨_,_,he,_,_⟩:=id hm;simp only[Value.slice.injEq] at he;have:=(aI hk.ms).1;omega
 obtain⟨hE,hL⟩:=hk.sort (ns:=bO (bP ms found)) (by omega);refine yN here ps pm pw ns cs nm cm nw cw px py pz ph pq ms found wh (GR ⟨px,py,pz,ph,pq⟩ wh (bO (bP ms found))) vf w hm hf hw hn qP (λvn W h1 h2=>?_) (λx hx=>PG.1 hx) (by rw[PU];omega);refine(LC ⟨px,py,pz,ph,pq⟩ wh (U pw nw cw) vn _ W h1 h2).mono ?_;rintro e w' ⟨v',rfl,h3,_,h4⟩;rw[hL] at h3;exact⟨v',_,rfl,h3,h4⟩
theorem uF(here:ByteArray)(ps pm pw:Option Addr)(ns cs nm cm nw cw:Nat)(px py pz ph pq:Int)(q:Qu)(name:ByteArray)(t:Int)(sv:List Sv.ba)(ms:List Mem)(wh:List Wh.cd)(w:World)(hq:q.ok)(h0:fO q=0)(T8:q.node.size=0)(hk:tj here sv ms ⟨px,py,pz,ph,pq⟩ wh)(hs:Sv.Sl w (U ps ns cs) sv)(hm:Sl w (U pm nm cm) ms)(hw:Wh.Sl w (U pw nw cw) wh)(yZ:name=kK q) :
 Calls be 139 #[Ip (eH here (U ps ns cs) (U pm nm cm) px py pz ph pq (U pw nw cw)),Ip #[I q.service,I q.tag,I q.node,I q.ai],Ip #[I name,O J t,O J 0,O J 0,I ⟨#[]⟩,O J 0,I ⟨#[]⟩]] w λe w'=>∃v,e=sh (Il #[v,O J (kj q t here sv ms ⟨px,py,pz,ph,pq⟩ wh).code,O J (kj q t here sv ms ⟨px,py,pz,ph,pq⟩ wh).e])/\Rc.Own w.heap.size w' v (kj q t here sv ms ⟨px,py,pz,ph,pq⟩ wh).rs/\Below w.heap.size w w':=by
 obtain⟨i0,eP,cE,gn,ga⟩:=info_parts rcI;have hF1:=λ(W:World) (h:Sv.Sl W (U ps ns cs) sv)=>Sv.sN sv (U ps ns cs) q.service ⟨#[]⟩ W h hk.sv hq.1 (by decide) (yX h0 T8 (.inr rfl));have hF2:=λ(W:World) (h:Sv.Sl W (U ps ns cs) sv)=>Sv.sN sv (U ps ns cs) q.service q.tag W h hk.sv hq.1 hq.2.1 (yX h0 T8 (.inl rfl));have xp:Hid _:=hF1;have qV:Hid _:=hF2;have qP:(Sv.cy sv q.service q.tag).length<=40:=by have h1:=Sv.vA sv q.service q.tag;have h2:=(Sv.aI hk.sv).1;omega
 have HFO:Hid (∀x∈Sv.cy sv q.service q.tag,x.ok):=Sv.Lc (by obtain⟨_,_,_,h,_⟩:=hs;exact Sv.eK h);have GV:Hid (∀W vf,Sl W (U pm nm cm) ms->Wh.Sl W (U pw nw cw) wh->Sv.Sl W vf (Sv.cy sv q.service q.tag)->Calls be 194 #[Ip (eH here (U ps ns cs) (U pm nm cm) px py pz ph pq (U pw nw cw)),vf] W λe w'=>∃v',e=sh v'/\Sv.Sl w' v' (iL ⟨px,py,pz,ph,pq⟩ wh ms (Sv.cy sv q.service q.tag))/\Below W.heap.size W w'):=λW vf h1 h2 h3=>LQ here ps pm pw ns cs nm cm nw cw px py pz ph pq sv ms wh _ vf W hk h1 h2 h3 qP;have CZ:Hid (Sv.cy sv q.service ⟨#[]⟩=[]->kj q t here sv ms ⟨px,py,pz,ph,pq⟩ wh=⟨[],3,0⟩):=λh=>by unfold kj;rw[if_pos h]
 have tl:Hid (Sv.cy sv q.service ⟨#[]⟩≠[]->gS here t (iL ⟨px,py,pz,ph,pq⟩ wh ms (Sv.cy sv q.service q.tag))=0->kj q t here sv ms ⟨px,py,pz,ph,pq⟩ wh=⟨(iL ⟨px,py,pz,ph,pq⟩ wh ms (Sv.cy sv q.service q.tag)).map (iM name here t),0,0⟩):=λh h2=>by unfold kj;rw[if_neg h,if_pos h2,yZ]
 have wX:Hid (Sv.cy sv q.service ⟨#[]⟩≠[]->gS here t (iL ⟨px,py,pz,ph,pq⟩ wh ms (Sv.cy sv q.service q.tag))≠0->kj q t here sv ms ⟨px,py,pz,ph,pq⟩ wh=⟨[],0,gS here t (iL ⟨px,py,pz,ph,pq⟩ wh ms (Sv.cy sv q.service q.tag))⟩):=λh h2=>by unfold kj;rw[if_neg h,if_neg h2]
 have Xq:=yK ⟨px,py,pz,ph,pq⟩ wh ms (Sv.cy sv q.service q.tag);have Vm:Hid (∀(s:Sv.ba) (W:World),s.node.size<=Ii->Calls be 195 #[Ip (eH here (U ps ns cs) (U pm nm cm) px py pz ph pq (U pw nw cw)),Ip #[I name,O J t,O J 0,O J 0,I ⟨#[]⟩,O J 0,I ⟨#[]⟩],Ip #[I s.node,I s.cF,I s.name,I s.tag,O J s.addr,O J s.port,AT s.aO,O J s.version,AT s.gone]] W λe w'=>∃r:Rc.Rec,e=sh (Il #[Ip #[I r.name,O J r.al,O J r.aE,O J r.addr,I r.text,O J r.port,I r.target],O J (gR here t s)])/\(gR here t s=0->r=iM name here t s)/\Below W.heap.size W w'):=λs W h=>yP here ps pm pw ns cs nm cm nw cw px py pz ph pq name t s W (PV hk.lab) h;have HS:Hid (Sv.Sl w (U ps ns cs) sv):=hs;have HM:Hid (Sl w (U pm nm cm) ms):=hm;have HW:Hid (Wh.Sl w (U pw nw cw) wh):=hw;clear hF1 hF2 hs hm hw hk T8 h0 yZ;generalize kj q t here sv ms ⟨px,py,pz,ph,pq⟩ wh=A at *;generalize iL ⟨px,py,pz,ph,pq⟩ wh ms (Sv.cy sv q.service q.tag)=NL at *;generalize Sv.cy sv q.service q.tag=FL at *;generalize Sv.cy sv q.service ⟨#[]⟩=F0 at *;obtain⟨qs,qt,qn,qc⟩:=q;simp only at *;go_enter Tryz.func139,Tryz.ntmps139;go_wp2_with fail;obtain⟨W,hW⟩:∃W,W=((w.alloc (AI (eH here (U ps ns cs) (U pm nm cm) px py pz ph pq (U pw nw cw)) 137)).alloc (AI #[I qs,I qt,I qn,I qc] 32)).alloc (AI #[I name,O J t,O J 0,O J 0,I ⟨#[]⟩,O J 0,I ⟨#[]⟩] 64):=⟨_,rfl⟩;rw[<- hW];have eG:Below w.heap.size w W:=by rw[hW];exact(((Ia _ _).alloc (By _) _).alloc (by simp) _).alloc (by simp<;>omega) _
 have yO:Hid (W.heap[w.heap.size]?=Z (AI (eH here (U ps ns cs) (U pm nm cm) px py pz ph pq (U pw nw cw)) 137 (0,0))):=by
  rw[hW,It _ _ _ (by simp<;>omega),It _ _ _ (by simp)];exact Ie w _
 have rA:W.heap[w.heap.size+1]?=Z (AI #[I qs,I qt,I qn,I qc] 32 (0,0)):=by
  rw[hW,It _ _ _ (by simp)];have h:=Ie (w.alloc (AI (eH here (U ps ns cs) (U pm nm cm) px py pz ph pq (U pw nw cw)) 137)) (AI #[I qs,I qt,I qn,I qc] 32);simpa using h
 have Vt:W.heap[w.heap.size+2]?=Z (AI #[I name,O J t,O J 0,O J 0,I ⟨#[]⟩,O J 0,I ⟨#[]⟩] 64 (0,0)):=by
  rw[hW];have h:=Ie ((w.alloc (AI (eH here (U ps ns cs) (U pm nm cm) px py pz ph pq (U pw nw cw)) 137)).alloc (AI #[I qs,I qt,I qn,I qc] 32)) (AI #[I name,O J t,O J 0,O J 0,I ⟨#[]⟩,O J 0,I ⟨#[]⟩] 64);simpa using h
 have ji:Hid _:=rA;have oP:Hid _:=Vt;clear rA Vt;have pY:w.heap.size+3<=W.heap.size:=by rw[hW];simp
 clear hW;refine Calls.mono (xp.out W (HS.out.below eG)) ?_;rintro e w1 ⟨v1,rfl,uP,an⟩;obtain⟨p1,c1,rfl⟩:=yY uP;have aK:Hid (Below w.heap.size w w1):=eG.trans (an.mono (by omega));have CV:Hid (Below W.heap.size W w1):=an;have gi:=an.size;clear uP an;by_cases he:F0=[]
 .have HR:Hid (A=⟨[],3,0⟩):=CZ.out he
  have h00:F0.length=0:=by rw[he];rfl
  clear he CZ tl wX;generalize F0.length=n0 at *;subst h00;go_wp2_with fail;go_ret3
  exact⟨U Y 0 0,by rw[HR.out];rfl,by rw[HR.out];exact Rc.bz _ _,aK.out⟩
 .have h00:(((F0.length:Nat):Int)==0)=false:=by
   have:F0.length≠0:=λh=>he (List.eq_nil_of_length_eq_zero h)
   simpa using this
  have rh:Hid _:=tl.out he;have zc:Hid _:=wX.out he;clear CZ tl wX he;generalize F0.length=n0 at *;have k0:w1.heap[w.heap.size]?=Z (AI (eH here (U ps ns cs) (U pm nm cm) px py pz ph pq (U pw nw cw)) 137 (0,0)):=(CV.out.block _ (by omega)).trans yO.out;have k1:w1.heap[w.heap.size+1]?=Z (AI #[I qs,I qt,I qn,I qc] 32 (0,0)):=(CV.out.block _ (by omega)).trans ji.out;have d0:w1.cell? ⟨w.heap.size,0,Y⟩=Z (I here):=af k0 0;have d1:w1.cell? ⟨w.heap.size,1,Y⟩=Z (U ps ns cs):=af k0 1;have d2:w1.cell? ⟨w.heap.size,2,Y⟩=Z (U pm nm cm):=af k0 2;have d3:w1.cell? ⟨w.heap.size,3,Y⟩=Z (O J px):=af k0 3;have d4:w1.cell? ⟨w.heap.size,4,Y⟩=Z (O J py):=af k0 4;have d5:w1.cell? ⟨w.heap.size,5,Y⟩=Z (O J pz):=af k0 5;have d6:w1.cell? ⟨w.heap.size,6,Y⟩=Z (O J ph):=af k0 6;have d7:w1.cell? ⟨w.heap.size,7,Y⟩=Z (O J pq):=af k0 7;have d8:w1.cell? ⟨w.heap.size,8,Y⟩=Z (U pw nw cw):=af k0 8;have q0:w1.cell? ⟨w.heap.size+1,0,Y⟩=Z (I qs):=af k1 0;have q1:w1.cell? ⟨w.heap.size+1,1,Y⟩=Z (I qt):=af k1 1;have q2:w1.cell? ⟨w.heap.size+1,2,Y⟩=Z (I qn):=af k1 2;have q3:w1.cell? ⟨w.heap.size+1,3,Y⟩=Z (I qc):=af k1 3;clear k0 k1;go_wp2_with fail;refine Calls.mono (qV.out w1 (HS.out.below aK.out)) ?_;rintro e w2 ⟨v2,rfl,ky,aD⟩;have nP:=aD.size;have HX2:Hid (Below W.heap.size W w2):=CV.out.trans (aD.mono gi);have bD:Hid (Below w.heap.size w w2):=aK.out.trans (aD.mono (by omega));have HSF:Hid (Sv.Sl w2 v2 FL):=Sv.fE ky HFO.out;clear d0 d1 d2 d3 d4 d5 d6 d7 d8 q0 q1 q2 q3 ky aD;have k0:w2.heap[w.heap.size]?=Z (AI (eH here (U ps ns cs) (U pm nm cm) px py pz ph pq (U pw nw cw)) 137 (0,0)):=(HX2.out.block _ (by omega)).trans yO.out;have d0:w2.cell? ⟨w.heap.size,0,Y⟩=Z (I here):=af k0 0;have d1:w2.cell? ⟨w.heap.size,1,Y⟩=Z (U ps ns cs):=af k0 1;have d2:w2.cell? ⟨w.heap.size,2,Y⟩=Z (U pm nm cm):=af k0 2;have d3:w2.cell? ⟨w.heap.size,3,Y⟩=Z (O J px):=af k0 3;have d4:w2.cell? ⟨w.heap.size,4,Y⟩=Z (O J py):=af k0 4;have d5:w2.cell? ⟨w.heap.size,5,Y⟩=Z (O J pz):=af k0 5;have d6:w2.cell? ⟨w.heap.size,6,Y⟩=Z (O J ph):=af k0 6;have d7:w2.cell? ⟨w.heap.size,7,Y⟩=Z (O J pq):=af k0 7;have d8:w2.cell? ⟨w.heap.size,8,Y⟩=Z (U pw nw cw):=af k0 8;clear k0;go_wp2_with fail;refine Calls.mono (GV.out w2 v2 (HM.out.below bD.out) (HW.out.below bD.out) HSF.out) ?_;rintro e X ⟨v3,rfl,PL,bn⟩;have Ni:=bn.size;have HX3:Hid (Below W.heap.size W X):=HX2.out.trans (bn.mono (by omega));have cT:Hid (Below w.heap.size w X):=bD.out.trans (bn.mono (by omega));clear d0 d1 d2 d3 d4 d5 d6 d7 d8 bn;obtain⟨pn,cn,rfl,GS,qK⟩:=PL;have HNA:Hid (NL=[]\/∃b off,pn=Z ⟨b,off,Y⟩/\b<X.heap.size/\Sv.Row X b off NL):=qK;have HNZ:Hid (∀j,(NL.getD j Sv.dm).ok):=GS;have K0:Hid (X.heap[w.heap.size]?=Z (AI (eH here (U ps ns cs) (U pm nm cm) px py pz ph pq (U pw nw cw)) 137 (0,0))):=(HX3.out.block _ (by omega)).trans yO.out;have K2:Hid (X.heap[w.heap.size+2]?=Z (AI #[I name,O J t,O J 0,O J 0,I ⟨#[]⟩,O J 0,I ⟨#[]⟩] 64 (0,0))):=(HX3.out.block _ (by omega)).trans oP.out;have hKX:w.heap.size+3<=X.heap.size:=by omega
  clear qK GS;generalize Kn:NL.length=n at *;have tW:Hid (NL.length=n):=Kn;clear Kn;go_wp2_with fail;go_loopw [13,43] (λvl i wr=>∃k:Nat,k<=n/\i=O J k/\Hid (Rc.Own X.heap.size wr vl ((NL.take k).map (iM name here t)))/\Hid (Below X.heap.size X wr)/\Hid (∀j,j<k->gR here t (NL.getD j Sv.dm)=0)) (λ_ i _=>n-(intOf i).toNat)
  case atStart=>exact⟨0,IF _,rfl,Rc.bz _ _,Ia _ _,λj hj=>absurd hj (IP _)⟩
  case round=>
   obtain⟨k,hk,rfl,HO,HB,HZ⟩:=hrel;have hsr:=HB.out.size;by_cases aB:k<n
   .obtain⟨b,off,hZ,dX,hr⟩:∃b off,pn=Z ⟨b,off,Y⟩/\b<X.heap.size/\Sv.Row X b off NL:=by
     rcases HNA.out with h|h
     .have:=tW.out;rw[h] at this;simp at this;omega
     .exact h
    subst hZ;have Ap:k<NL.length:=by rw[tW.out];exact aB
    obtain⟨c0,c1,c2,c3,c4,c5,c6,c7,c8⟩:=hr.later HB.out dX k Ap;clear hr;have N3:Hid ((NL.take (k+1)).map (iM name here t)=(NL.take k).map (iM name here t)++[iM name here t (NL.getD k Sv.dm)]):=LP Ap;have sW:(NL.getD k Sv.dm).node.size<=Ii:=(HNZ.out k).1;have HER:Hid (gR here t (NL.getD k Sv.dm)≠0->gS here t NL=gR here t (NL.getD k Sv.dm)):=λh=>yI Ap HZ.out h;have fm:Hid (gR here t (NL.getD k Sv.dm)=0->∀j,j<k+1->gR here t (NL.getD j Sv.dm)=0):=λh j hj=>by
     by_cases e:j=k
     .subst e;exact h
     .exact HZ.out j (by omega)
    have hRC:=λW=>Vm.out (NL.getD k Sv.dm) W sW;have A7:Hid _:=hRC;clear hRC;have RW:((NL.take k).map (iM name here t)).length<=20:=by rw[List.length_map];have:=List.length_take_le k NL;omega
    generalize NL.getD k Sv.dm=x at *;generalize gR here t x=ek at *;generalize iM name here t x=rk at *;generalize(NL.take k).map (iM name here t)=DL at *;obtain⟨nd,cF,CT,tag,ad,po,kT,kU,kV⟩:=x;simp only at c0 c1 c2 c3 c4 c5 c6 c7 c8 sW;have hd:∀ob,(wr.alloc ob).heap[w.heap.size]?=Z (AI (eH here (U ps ns cs) (U pm nm cm) px py pz ph pq (U pw nw cw)) 137 (0,0)):=λob=>by rw[It _ _ _ (by omega),HB.out.block _ (by omega)];exact K0.out
    have En:∀ob,(wr.alloc ob).heap[w.heap.size+2]?=Z (AI #[I name,O J t,O J 0,O J 0,I ⟨#[]⟩,O J 0,I ⟨#[]⟩] 64 (0,0)):=λob=>by rw[It _ _ _ (by omega),HB.out.block _ (by omega)];exact K2.out
    have d0:∀ob,(wr.alloc ob).cell? ⟨w.heap.size,0,Y⟩=Z (I here):=λob=>af (hd ob) 0;have d1:∀ob,(wr.alloc ob).cell? ⟨w.heap.size,1,Y⟩=Z (U ps ns cs):=λob=>af (hd ob) 1;have d2:∀ob,(wr.alloc ob).cell? ⟨w.heap.size,2,Y⟩=Z (U pm nm cm):=λob=>af (hd ob) 2;have d3:∀ob,(wr.alloc ob).cell? ⟨w.heap.size,3,Y⟩=Z (O J px):=λob=>af (hd ob) 3;have d4:∀ob,(wr.alloc ob).cell? ⟨w.heap.size,4,Y⟩=Z (O J py):=λob=>af (hd ob) 4;have d5:∀ob,(wr.alloc ob).cell? ⟨w.heap.size,5,Y⟩=Z (O J pz):=λob=>af (hd ob) 5;have d6:∀ob,(wr.alloc ob).cell? ⟨w.heap.size,6,Y⟩=Z (O J ph):=λob=>af (hd ob) 6;have d7:∀ob,(wr.alloc ob).cell? ⟨w.heap.size,7,Y⟩=Z (O J pq):=λob=>af (hd ob) 7;have d8:∀ob,(wr.alloc ob).cell? ⟨w.heap.size,8,Y⟩=Z (U pw nw cw):=λob=>af (hd ob) 8;have l0:∀ob,(wr.alloc ob).cell? ⟨w.heap.size+1+1,0,Y⟩=Z (I name):=λob=>af (En ob) 0;have l1:∀ob,(wr.alloc ob).cell? ⟨w.heap.size+1+1,1,Y⟩=Z (O J t):=λob=>af (En ob) 1;have l2:∀ob,(wr.alloc ob).cell? ⟨w.heap.size+1+1,2,Y⟩=Z (O J 0):=λob=>af (En ob) 2;have l3:∀ob,(wr.alloc ob).cell? ⟨w.heap.size+1+1,3,Y⟩=Z (O J 0):=λob=>af (En ob) 3;have l4:∀ob,(wr.alloc ob).cell? ⟨w.heap.size+1+1,4,Y⟩=Z (I ⟨#[]⟩):=λob=>af (En ob) 4;have l5:∀ob,(wr.alloc ob).cell? ⟨w.heap.size+1+1,5,Y⟩=Z (O J 0):=λob=>af (En ob) 5;have l6:∀ob,(wr.alloc ob).cell? ⟨w.heap.size+1+1,6,Y⟩=Z (I ⟨#[]⟩):=λob=>af (En ob) 6;clear hd En;go_wp2_with fail;refine Calls.mono (A7.out _) ?_;rintro e w5 ⟨r,rfl,Cn,jI⟩;have SH:wr.heap.size+1<=w5.heap.size:=by have:=jI.size;simpa using this
    have ia:Hid (Below X.heap.size X w5):=(HB.out.alloc hsr _).trans (jI.mono (by simp<;>omega));have mM:Hid (Rc.Own X.heap.size w5 u13 DL):=(HO.out.below ((Ia _ _).alloc (By _) _)).below jI;clear jI d0 d1 d2 d3 d4 d5 d6 d7 d8 l0 l1 l2 l3 l4 l5 l6;by_cases hz:ek=0
    .have jM:Hid (∀j,j<k+1->gR here t (NL.getD j Sv.dm)=0):=fm.out hz
     have GL:Hid (r=rk):=Cn hz;clear Cn fm HER;subst hz;obtain⟨rn,rt1,rl,ra,rx,rp,rg⟩:=r;go_wp2_with (at_builtin;refine wpList_append_own _ rfl _ _ 41 rfl X.heap.size 64 i0 _ 7 80 Tryz.underlying41 eP cE gn ga rfl (by omega) _ DL.length (Rc.fl DL) rfl ?hown ⟨w5.heap.size+1,0,Y⟩ 1 1 [I rn,O J rt1,O J rl,O J ra,I rx,O J rp,I rg] rfl rfl ?hnews (Rc.da ⟨rn,rt1,rl,ra,rx,rp,rg⟩) ?h63 ?hbytes ?hbase ?_)
     case hown=>exact mM.out.below (((Ia _ _).alloc (By _) _).alloc (by simp) _)
     case hnews=>(intro j u hj;rw[Addr.add_lit];exact(dF (by simp)).trans (by simpa using hj))
     case h63=>(unfold Ii;omega)
     case hbytes=>omega
     case hbase=>(simp;omega)
     intro v' w6 r1 r2 r3;have iW:Hid (Below X.heap.size X w6):=((ia.out.alloc (by omega) _).alloc (by simp<;>omega) _).grown r2 (by simp<;>omega) (λj hj=>(mM.out.lt j hj).1);have nG:Hid (Rc.Own X.heap.size w6 v' (DL++[⟨rn,rt1,rl,ra,rx,rp,rg⟩])):=Rc.ew r1;clear r1 r2 r3;go_wp2_with fail;go_roundw
     case rel=>exact⟨k+1,by omega,by go_num,by rw[N3.out,<- GL.out];exact nG.out,iW,jM⟩
     case measure=>simp[intOf];omega
    .have HE:Hid (gS here t NL=ek):=HER.out hz
     have HR:Hid (A=⟨[],0,ek⟩):=by have h:=zc.out (by rw[HE.out];exact hz);rw[HE.out] at h;exact h
     have RM:(ek !=0)=true:=by simpa using hz
     have Xz:Hid (Below w.heap.size w w5):=cT.out.trans (ia.out.mono (by omega));obtain⟨rn,rt1,rl,ra,rx,rp,rg⟩:=r;go_wp2_with fail;go_ret3
     exact⟨U Y 0 0,by rw[HR.out];rfl,by rw[HR.out];exact Rc.bz _ _,Xz.out.alloc (by omega) _⟩
   .have HE:Hid (gS here t NL=0):=vE λj hj=>HZ.out j (by have:=tW.out;omega)
    have HR:Hid (A=⟨NL.map (iM name here t),0,0⟩):=rh.out HE.out;have HOE:Hid (Rc.Own w.heap.size wr u13 (NL.map (iM name here t))):=by
     have h:=HO.out;rw[List.take_of_length_le (by rw[tW.out];omega)] at h;exact h.mono (by omega)
    have Xz:Hid (Below w.heap.size w wr):=cT.out.trans (HB.out.mono (by omega));go_wp2_with fail;go_ret3
    exact⟨u13,by rw[HR.out];rfl,by rw[HR.out];exact HOE.out,Xz.out⟩
theorem Bz(here:ByteArray)(ps pm pw:Option Addr)(ns cs nm cm nw cw:Nat)(px py pz ph pq:Int)(q:Qu)(name:ByteArray)(t:Int)(ms:List Mem)(w:World)(hn:nm<=1000)(hm:Sl w (U pm nm cm) ms)(yZ:name=kK q) :
 Calls be 138 #[Ip (eH here (U ps ns cs) (U pm nm cm) px py pz ph pq (U pw nw cw)),I q.node,Ip #[I name,O J t,O J 0,O J 0,I ⟨#[]⟩,O J 0,I ⟨#[]⟩]] w λe w'=>∃v,e=sh (Il #[v,O J (jO q t ms).code])/\Rc.Own w.heap.size w' v (jO q t ms).rs/\Below w.heap.size w w':=by
 have GU:Hid (∀W,Sl W (U pm nm cm) ms->Calls be 192 #[Ip (eH here (U ps ns cs) (U pm nm cm) px py pz ph pq (U pw nw cw)),I q.node] W λe w'=>e=sh (Ip #[I (dZ ms q.node).name,O J (dZ ms q.node).state,O J (dZ ms q.node).aP,O J (dZ ms q.node).addr,AT (dZ ms q.node).server])/\Below W.heap.size W w'):=λW h=>qi here ps pm pw ns cs nm cm nw cw px py pz ph pq ms q.node W h hn;have CZ:Hid (¬ ((dZ ms q.node).state=1\/(dZ ms q.node).state=2)->jO q t ms=⟨[],3,0⟩):=λh=>by unfold jO;rw[if_neg h]
 have tl:Hid (((dZ ms q.node).state=1\/(dZ ms q.node).state=2)->t≠1->jO q t ms=⟨[],0,0⟩):=λh h2=>by unfold jO;rw[if_pos h,if_neg h2]
 have wX:Hid (((dZ ms q.node).state=1\/(dZ ms q.node).state=2)->t=1->jO q t ms=⟨[⟨name,1,0,(dZ ms q.node).addr,⟨#[]⟩,0,⟨#[]⟩⟩],0,0⟩):=λh h2=>by unfold jO;rw[if_pos h,if_pos h2,yZ]
 have HM:Hid (Sl w (U pm nm cm) ms):=hm;clear hm yZ;generalize jO q t ms=A at *;generalize dZ ms q.node=m at *;generalize q.node=nd at *;obtain⟨mn,st,lf,ad,sb⟩:=m;simp only at *;go_enter Tryz.func138,Tryz.ntmps138;go_wp2_with fail;obtain⟨W,hW⟩:∃W,W=(w.alloc (AI (eH here (U ps ns cs) (U pm nm cm) px py pz ph pq (U pw nw cw)) 137)).alloc (AI #[I name,O J t,O J 0,O J 0,I ⟨#[]⟩,O J 0,I ⟨#[]⟩] 64):=⟨_,rfl⟩;rw[<- hW];have eG:Below w.heap.size w W:=by rw[hW];exact((Ia _ _).alloc (By _) _).alloc (by simp) _
 have rA:W.heap[w.heap.size+1]?=Z (AI #[I name,O J t,O J 0,O J 0,I ⟨#[]⟩,O J 0,I ⟨#[]⟩] 64 (0,0)):=by
  rw[hW];have h:=Ie (w.alloc (AI (eH here (U ps ns cs) (U pm nm cm) px py pz ph pq (U pw nw cw)) 137)) (AI #[I name,O J t,O J 0,O J 0,I ⟨#[]⟩,O J 0,I ⟨#[]⟩] 64);simpa using h
 have pY:w.heap.size+2<=W.heap.size:=by rw[hW];simp
 clear hW;refine(GU.out W (HM.out.below eG)).mono ?_;rintro e w1 ⟨rfl,an⟩;have gi:=an.size;have aK:Hid (Below w.heap.size w w1):=eG.trans (an.mono (by omega));have bf:w1.heap[w.heap.size+1]?=_:=(an.block _ (by omega)).trans rA;have hd:∀ob,(w1.alloc ob).heap[w.heap.size+1]?=Z (AI #[I name,O J t,O J 0,O J 0,I ⟨#[]⟩,O J 0,I ⟨#[]⟩] 64 (0,0)):=λob=>by rw[It _ _ _ (by omega)];exact bf
 have l0:∀ob,(w1.alloc ob).cell? ⟨w.heap.size+1,0,Y⟩=Z (I name):=λob=>af (hd ob) 0;have l1:∀ob,(w1.alloc ob).cell? ⟨w.heap.size+1,1,Y⟩=Z (O J t):=λob=>af (hd ob) 1;have l2:∀ob,(w1.alloc ob).cell? ⟨w.heap.size+1,2,Y⟩=Z (O J 0):=λob=>af (hd ob) 2;have l3:∀ob,(w1.alloc ob).cell? ⟨w.heap.size+1,3,Y⟩=Z (O J 0):=λob=>af (hd ob) 3;have l4:∀ob,(w1.alloc ob).cell? ⟨w.heap.size+1,4,Y⟩=Z (I ⟨#[]⟩):=λob=>af (hd ob) 4;have l5:∀ob,(w1.alloc ob).cell? ⟨w.heap.size+1,5,Y⟩=Z (O J 0):=λob=>af (hd ob) 5;have l6:∀ob,(w1.alloc ob).cell? ⟨w.heap.size+1,6,Y⟩=Z (I ⟨#[]⟩):=λob=>af (hd ob) 6;have z3:∀ob,(w1.alloc ob).frozen? ⟨w.heap.size+1,3,Y⟩=false:=λob=>by simp[World.frozen?,hd ob]
 have nH:Hid (∀ob,Below w.heap.size w (w1.alloc ob)):=λob=>aK.out.alloc (by omega) ob;clear eG rA an bf hd;by_cases hs:st=1\/st=2
 .have rh:Hid (t≠1->A=⟨[],0,0⟩):=tl.out hs
  have zc:Hid (t=1->A=⟨[⟨name,1,0,ad,⟨#[]⟩,0,⟨#[]⟩⟩],0,0⟩):=wX.out hs;clear CZ tl wX;by_cases ht:t=1
  .have HR:Hid (A=⟨[⟨name,1,0,ad,⟨#[]⟩,0,⟨#[]⟩⟩],0,0⟩):=zc.out ht
   clear rh zc;subst ht;rcases hs with hs|hs;all_goals
    subst hs;go_wp2_with fail;go_ret2;refine⟨_,by rw[HR.out];rfl,?_,?_⟩
    .rw[HR.out]
     refine Rc.pB (G:=1) (cur:=#[I name,O J 1,O J 0,O J ad,I ⟨#[]⟩,O J 0,I ⟨#[]⟩]) ?_ ?_ rfl (By _) (by decide) rfl;rotate_left
     .first|exact Ie _ _|(have h:=Ie ((w1.alloc (AI #[I mn,O J 1,O J lf,O J ad,AT sb] 70)).setCell ⟨w.heap.size+1,3,Y⟩ (O J ad)) (AI #[I name,O J 1,O J 0,O J ad,I ⟨#[]⟩,O J 0,I ⟨#[]⟩] 64);simpa using h)  | (have h:=Ie ((w1.alloc (AI #[I mn,O J 2,O J lf,O J ad,AT sb] 70)).setCell ⟨w.heap.size+1,3,Y⟩ (O J ad)) (AI #[I name,O J 1,O J 0,O J ad,I ⟨#[]⟩,O J 0,I ⟨#[]⟩] 64);simpa using h)
     ·(try simp)<;>omega
    .exact((nH.out _).setCell (p:=⟨w.heap.size+1,3,Y⟩) (by simp) _).alloc (by simp<;>omega) _
  .have HR:Hid (A=⟨[],0,0⟩):=rh.out ht
   have ht':(t !=1)=true:=by simpa using ht
   clear rh zc;rcases hs with hs|hs;all_goals
    subst hs;go_wp2_with fail;go_ret2;exact⟨U Y 0 0,by rw[HR.out];rfl,by rw[HR.out];exact Rc.bz _ _,nH.out _⟩
 .have HR:Hid (A=⟨[],3,0⟩):=CZ.out hs
  have g1:(st !=1)=true:=by simpa using λh=>hs (.inl h)
  have g2:(st !=2)=true:=by simpa using λh=>hs (.inr h)
  clear CZ tl wX hs;go_wp2_with fail;go_ret2;exact⟨U Y 0 0,by rw[HR.out];rfl,by rw[HR.out];exact Rc.bz _ _,nH.out _⟩
theorem wY(here:ByteArray)(ps pm pw:Option Addr)(ns cs nm cm nw cw:Nat)(px py pz ph pq:Int)(q:Qu)(t:Int)(sv:List Sv.ba)(ms:List Mem)(wh:List Wh.cd)(w:World)(hq:q.ok)(hk:tj here sv ms ⟨px,py,pz,ph,pq⟩ wh)(hs:Sv.Sl w (U ps ns cs) sv)(hm:Sl w (U pm nm cm) ms)(hw:Wh.Sl w (U pw nw cw) wh) :
 Calls be 87 #[Ip (eH here (U ps ns cs) (U pm nm cm) px py pz ph pq (U pw nw cw)),Ip #[I q.service,I q.tag,I q.node,I q.ai],O J t] w λe w'=>∃v,e=sh (Il #[v,O J (oo q t here sv ms ⟨px,py,pz,ph,pq⟩ wh).code,O J (oo q t here sv ms ⟨px,py,pz,ph,pq⟩ wh).e])/\Rc.Own w.heap.size w' v (oo q t here sv ms ⟨px,py,pz,ph,pq⟩ wh).rs/\Below w.heap.size w w':=by
 have hn:nm<=1000:=by
  obtain⟨_,_,he,_,_⟩:=id hm;simp only[Value.slice.injEq] at he;have:=(aI hk.ms).1;omega
 have HS:Hid (Sv.Sl w (U ps ns cs) sv):=hs;have HM:Hid (Sl w (U pm nm cm) ms):=hm;have HW:Hid (Wh.Sl w (U pw nw cw) wh):=hw;have HP:Hid (∀W,Calls be 8 #[Ip #[I q.service,I q.tag,I q.node,I q.ai]] W λe w'=>e=sh (Il #[I (kK q),O J (iY q)])/\Below W.heap.size W w'):=λW=>mq q W hq;have hPQ:iY q=0->fO q=0:=λh=>by unfold iY at h;by_cases h2:fO q=0;exact h2;rw[if_neg h2] at h;exact absurd h h2
 have HND:Hid (∀W,Sl W (U pm nm cm) ms->Calls be 138 #[Ip (eH here (U ps ns cs) (U pm nm cm) px py pz ph pq (U pw nw cw)),I q.node,Ip #[I (kK q),O J t,O J 0,O J 0,I ⟨#[]⟩,O J 0,I ⟨#[]⟩]] W λe w'=>∃v,e=sh (Il #[v,O J (jO q t ms).code])/\Rc.Own W.heap.size w' v (jO q t ms).rs/\Below W.heap.size W w'):=λW h=>Bz here ps pm pw ns cs nm cm nw cw px py pz ph pq q (kK q) t ms W hn h rfl;have HSV:Hid (iY q=0->q.node.size=0->∀W,Sv.Sl W (U ps ns cs) sv->Sl W (U pm nm cm) ms->Wh.Sl W (U pw nw cw) wh->Calls be 139 #[Ip (eH here (U ps ns cs) (U pm nm cm) px py pz ph pq (U pw nw cw)),Ip #[I q.service,I q.tag,I q.node,I q.ai],Ip #[I (kK q),O J t,O J 0,O J 0,I ⟨#[]⟩,O J 0,I ⟨#[]⟩]] W λe w'=>∃v,e=sh (Il #[v,O J (kj q t here sv ms ⟨px,py,pz,ph,pq⟩ wh).code,O J (kj q t here sv ms ⟨px,py,pz,ph,pq⟩ wh).e])/\Rc.Own W.heap.size w' v (kj q t here sv ms ⟨px,py,pz,ph,pq⟩ wh).rs/\Below W.heap.size W w'):=λh0 h1 W a1 a2 a3=>uF here ps pm pw ns cs nm cm nw cw px py pz ph pq q (kK q) t sv ms wh W hq (hPQ h0) h1 hk a1 a2 a3 rfl;have GV:Hid ((jO q t ms).e=0):=by show(jO q t ms).e=0;unfold jO;(repeat' split)<;>rfl
 have SJ:Hid (iY q≠0->oo q t here sv ms ⟨px,py,pz,ph,pq⟩ wh=⟨[],0,iY q⟩):=λh=>by unfold oo;rw[if_neg h]
 have CZ:Hid (iY q=0->q.ai.size≠0->q.ai≠here->oo q t here sv ms ⟨px,py,pz,ph,pq⟩ wh=⟨[],3,0⟩):=λh h1 h2=>by unfold oo;rw[if_pos h,if_pos ⟨h1,h2⟩]
 have tl:Hid (iY q=0->¬ (q.ai.size≠0/\q.ai≠here)->q.node.size≠0->oo q t here sv ms ⟨px,py,pz,ph,pq⟩ wh=jO q t ms):=λh h1 h2=>by unfold oo;rw[if_pos h,if_neg h1,if_pos h2]
 have wX:Hid (iY q=0->¬ (q.ai.size≠0/\q.ai≠here)->q.node.size=0->oo q t here sv ms ⟨px,py,pz,ph,pq⟩ wh=kj q t here sv ms ⟨px,py,pz,ph,pq⟩ wh):=λh h1 h2=>by unfold oo;rw[if_pos h,if_neg h1,if_neg (by omega)]
 clear hs hm hw hk hPQ hq;generalize oo q t here sv ms ⟨px,py,pz,ph,pq⟩ wh=A at *;generalize jO q t ms=AN at *;generalize kj q t here sv ms ⟨px,py,pz,ph,pq⟩ wh=AS at *;generalize iY q=PE at *;generalize kK q=name at *;obtain⟨qs,qt,qn,qc⟩:=q;simp only at *;go_enter Tryz.func87,Tryz.ntmps87;go_wp2_with fail;obtain⟨W,hW⟩:∃W,W=(w.alloc (AI (eH here (U ps ns cs) (U pm nm cm) px py pz ph pq (U pw nw cw)) 137)).alloc (AI #[I qs,I qt,I qn,I qc] 32):=⟨_,rfl⟩;rw[<- hW];have eG:Below w.heap.size w W:=by rw[hW];exact((Ia _ _).alloc (By _) _).alloc (by simp) _
 have XB:W.heap[w.heap.size]?=Z (AI (eH here (U ps ns cs) (U pm nm cm) px py pz ph pq (U pw nw cw)) 137 (0,0)):=by rw[hW,It _ _ _ (by simp)];exact Ie w _
 have rA:W.heap[w.heap.size+1]?=Z (AI #[I qs,I qt,I qn,I qc] 32 (0,0)):=by
  rw[hW];have h:=Ie (w.alloc (AI (eH here (U ps ns cs) (U pm nm cm) px py pz ph pq (U pw nw cw)) 137)) (AI #[I qs,I qt,I qn,I qc] 32);simpa using h
 have pY:w.heap.size+2<=W.heap.size:=by rw[hW];simp
 clear hW;refine(HP.out _).mono ?_;rintro e w1 ⟨rfl,an⟩;have gi:=an.size;have aK:Hid (Below w.heap.size w w1):=eG.trans (an.mono (by omega));have k0:w1.heap[w.heap.size]?=_:=(an.block _ (by omega)).trans XB;have k1:w1.heap[w.heap.size+1]?=_:=(an.block _ (by omega)).trans rA;by_cases h0:PE=0
 .have aaU:Hid (qc.size≠0->qc≠here->A=⟨[],3,0⟩):=CZ.out h0
  have rh:Hid (¬ (qc.size≠0/\qc≠here)->qn.size≠0->A=AN):=tl.out h0;have zc:Hid (¬ (qc.size≠0/\qc≠here)->qn.size=0->A=AS):=wX.out h0;have VX:Hid _:=HSV.out h0;have kI:∀ob,(w1.alloc ob).heap[w.heap.size]?=Z (AI (eH here (U ps ns cs) (U pm nm cm) px py pz ph pq (U pw nw cw)) 137 (0,0)):=λob=>by rw[It _ _ _ (by omega)];exact k0
  have lY:∀ob,(w1.alloc ob).heap[w.heap.size+1]?=Z (AI #[I qs,I qt,I qn,I qc] 32 (0,0)):=λob=>by rw[It _ _ _ (by omega)];exact k1
  have d0:∀ob,(w1.alloc ob).cell? ⟨w.heap.size,0,Y⟩=Z (I here):=λob=>af (kI ob) 0;have d1:∀ob,(w1.alloc ob).cell? ⟨w.heap.size,1,Y⟩=Z (U ps ns cs):=λob=>af (kI ob) 1;have d2:∀ob,(w1.alloc ob).cell? ⟨w.heap.size,2,Y⟩=Z (U pm nm cm):=λob=>af (kI ob) 2;have d3:∀ob,(w1.alloc ob).cell? ⟨w.heap.size,3,Y⟩=Z (O J px):=λob=>af (kI ob) 3;have d4:∀ob,(w1.alloc ob).cell? ⟨w.heap.size,4,Y⟩=Z (O J py):=λob=>af (kI ob) 4;have d5:∀ob,(w1.alloc ob).cell? ⟨w.heap.size,5,Y⟩=Z (O J pz):=λob=>af (kI ob) 5;have d6:∀ob,(w1.alloc ob).cell? ⟨w.heap.size,6,Y⟩=Z (O J ph):=λob=>af (kI ob) 6;have d7:∀ob,(w1.alloc ob).cell? ⟨w.heap.size,7,Y⟩=Z (O J pq):=λob=>af (kI ob) 7;have d8:∀ob,(w1.alloc ob).cell? ⟨w.heap.size,8,Y⟩=Z (U pw nw cw):=λob=>af (kI ob) 8;have q0:∀ob,(w1.alloc ob).cell? ⟨w.heap.size+1,0,Y⟩=Z (I qs):=λob=>af (lY ob) 0;have q1:∀ob,(w1.alloc ob).cell? ⟨w.heap.size+1,1,Y⟩=Z (I qt):=λob=>af (lY ob) 1;have q2:∀ob,(w1.alloc ob).cell? ⟨w.heap.size+1,2,Y⟩=Z (I qn):=λob=>af (lY ob) 2;have q3:∀ob,(w1.alloc ob).cell? ⟨w.heap.size+1,3,Y⟩=Z (I qc):=λob=>af (lY ob) 3;have nH:Hid (∀ob,Below w.heap.size w (w1.alloc ob)):=λob=>aK.out.alloc (by omega) ob;clear SJ CZ tl wX HSV kI lY k0 k1 XB rA eG an;subst h0;by_cases hc:qc.size≠0/\qc≠here
  .have HR:Hid (A=⟨[],3,0⟩):=aaU.out hc.1 hc.2
   obtain⟨e1,e2⟩:=gr hc.1;obtain⟨e3,e4⟩:=eJ hc.2;clear hc;go_wp2_with fail;go_ret3
   exact⟨U Y 0 0,by rw[HR.out];rfl,by rw[HR.out];exact Rc.bz _ _,nH.out _⟩
  .have LR:Hid (qn.size≠0->A=AN):=rh.out hc
   have LS:Hid (qn.size=0->A=AS):=zc.out hc;have hcc:((qc.toList==[])=true/\qc.toList=[])\/((qc.toList==[])=false/\¬ qc.toList=[]/\(qc.toList==here.toList)=true/\qc.toList=here.toList):=by
    by_cases h:qc.size=0
    .have e:=cx h
     have h2:qc.toList=[]:=by rw[e,Lib.toList_data]
     exact .inl ⟨by rw[h2];rfl,h2⟩
    .have e:qc=here:=by
      by_cases e:qc=here
      .exact e
      .exact absurd ⟨h,e⟩ hc
     exact .inr ⟨(gr h).1,(gr h).2,by rw[e];simp,by rw[e]⟩
   clear hc aaU rh zc;by_cases GS:qn.size=0
   .have HR:Hid (A=AS):=LS.out GS
    have af6:Hid _:=VX.out GS;have g4:qn.toList=[]:=by rw[cx GS,Lib.toList_data]
    have g3:(qn.toList==[])=true:=by rw[g4];rfl
    clear g4;clear LR LS VX GS;rcases hcc with⟨g1,-⟩|⟨g1,g2,g5,-⟩;all_goals
     go_wp2_with fail;refine Calls.mono (af6.out _ (HS.out.below (nH.out _)) (HM.out.below (nH.out _)) (HW.out.below (nH.out _))) ?_;rintro e w2 ⟨v,rfl,ho,aD⟩;have bD:Hid (Below w.heap.size w w2):=(nH.out _).trans (aD.mono (by simp<;>omega));have jF:Hid (Rc.Own w.heap.size w2 v AS.rs):=ho.mono (by simp<;>omega);clear ho aD;go_wp2_with fail;go_ret3
     exact⟨v,by rw[HR.out];rfl,by rw[HR.out];exact jF.out,bD.out⟩
   .have HR:Hid (A=AN):=LR.out GS
    obtain⟨g3,g4⟩:=gr GS;clear LR LS VX GS;rcases hcc with⟨g1,-⟩|⟨g1,g2,g5,-⟩;all_goals
     go_wp2_with fail;refine Calls.mono (HND.out _ (HM.out.below (nH.out _))) ?_;rintro e w2 ⟨v,rfl,ho,aD⟩;have bD:Hid (Below w.heap.size w w2):=(nH.out _).trans (aD.mono (by simp<;>omega));have jF:Hid (Rc.Own w.heap.size w2 v AN.rs):=ho.mono (by simp<;>omega);clear ho aD;go_wp2_with fail;go_ret3
     exact⟨v,by rw[HR.out,GV.out];rfl,by rw[HR.out];exact jF.out,bD.out⟩
 .have HR:Hid (A=⟨[],0,PE⟩):=SJ.out h0
  have h0':(PE !=0)=true:=by simpa using h0
  clear SJ CZ tl wX HSV k0 k1 XB rA eG an;go_wp2_with fail;go_ret3
  exact⟨U Y 0 0,by rw[HR.out];rfl,by rw[HR.out];exact Rc.bz _ _,aK.out⟩
end Go.Proofs.YtfidjlcdlakceaaGreatDoor
namespace Go.Proofs.YtfidjlcdlakceaaGreatDoor
namespace Gw
open Go.RowKit
theorem fR(ms:List cW)(b off cap:Nat)(w:World)(hr:Row w b off ms)(hb:b<w.heap.size)(hn:ms.length<=6)(hs:∀j,(ms.getD j dm).ok) :
 ij 37 #[U (Z ⟨b,off,Y⟩) ms.length cap] w (O J (aM ms)):=by
 have HR:Hid (Row w b off ms):=hr;clear hr;have HE:Hid (∀k,k<ms.length->(∀j,j<k->(ms.getD j dm).e=0)->(ms.getD k dm).e≠0->aM ms=(ms.getD k dm).e):=λk h1 h2 h3=>ll ms k hn h1 h2 h3;have H4:Hid ((∀j,j<ms.length->(ms.getD j dm).e=0)->∀k,k+1<ms.length->less (ms.getD k dm).ai (ms.getD (k+1) dm).ai=false->aM ms=4):=λh1 k h2 h3=>sf ms k hn h1 h2 (λh=>by rw[show ord (ms.getD k dm) (ms.getD (k+1) dm)=bl (ms.getD k dm).ai (ms.getD (k+1) dm).ai from rfl,dx,h3] at h;cases h);have H0:Hid ((∀j,j<ms.length->(ms.getD j dm).e=0)->(∀j,j+1<ms.length->less (ms.getD j dm).ai (ms.getD (j+1) dm).ai=true)->aM ms=0):=λh1 h2=>sg ms hn h1 (λj hj=>(dx _ _).2 (h2 j hj));generalize hN:ms.length=n at *;have HN:Hid (ms.length=n):=hN;clear hN;have HS:Hid (∀j,(ms.getD j dm).ok):=hs;clear hs;generalize hC:aM ms=res at *;have HC:Hid (aM ms=res):=hC;clear hC;go_enter Tryz.func37,Tryz.ntmps37;go_wp2_with fail;go_loopw [3] (λi w'=>∃k:Nat,k<=n/\i=O J k/\Below w.heap.size w w'/\Hid (∀j,j<k->(ms.getD j dm).e=0)) (λi _=>n-(intOf i).toNat)
 case atStart=>exact⟨0,IF _,rfl,Ia _ _,λj h=>absurd h (IP _)⟩
 case round=>
  obtain⟨k,hk,rfl,aL,hz⟩:=hrel;obtain⟨dJ,k8⟩:=cD aL;have bb:=aL.size;by_cases aB:k<n
  .obtain⟨c0,c1,c2⟩:=HR.out k (by rw[HN.out];exact aB)
   have tT:(ms.getD k dm).ai.size<=Ii:=HS.out k;have HK:Hid ((ms.getD k dm).e≠0->res=(ms.getD k dm).e):=λh=>HE.out k aB hz.out h;have HZ:Hid ((ms.getD k dm).e=0->∀j,j<k+1->(ms.getD j dm).e=0):=λh j hj=>by
    rcases II.1 hj with h2|rfl
    .exact hz.out j h2
    .exact h
   generalize ms.getD k dm=m at *;have HD:Hid (m.e=if aA m.ai=true then(if within m.addr 0 4294967295=true then(if within m.version 1 1000000=true then 0 else 3) else 3) else 1):=rfl;generalize m.e=me at *;rcases h1:aA m.ai with _|_
   .have gW:Hid (res=1):=(HK.out (by rw[HD.out];simp[h1])).trans (by rw[HD.out];simp[h1])
    go_wp2_with (go_at_call 33;refine(aN _ _ tT).mono ?_;rintro e w' ⟨rfl,rfl⟩;rw[h1]);go_ret;exact⟨aj gW.out.symm,aL⟩
   .rcases h2:within m.addr 0 4294967295 with _|_
    .have gW:Hid (res=3):=(HK.out (by rw[HD.out];simp[h1,h2])).trans (by rw[HD.out];simp[h1,h2])
     go_wp2_with (first|(go_at_call 33;refine(aN _ _ tT).mono ?_;rintro e w' ⟨rfl,rfl⟩;rw[h1])|(go_at_call 85;refine(bW _ _).mono ?_;rintro e w' ⟨rfl,rfl⟩;rw[h2]));go_ret;exact⟨aj gW.out.symm,aL⟩
    .rcases h3:within m.version 1 1000000 with _|_
     .have gW:Hid (res=3):=(HK.out (by rw[HD.out];simp[h1,h2,h3])).trans (by rw[HD.out];simp[h1,h2,h3])
      go_wp2_with (first|(go_at_call 33;refine(aN _ _ tT).mono ?_;rintro e w' ⟨rfl,rfl⟩;rw[h1])|(go_at_call 85;refine(bW _ _).mono ?_;rintro e w' ⟨rfl,rfl⟩;rw[h2])|(go_at_call 82;refine(cj _ _ _ _).mono ?_;rintro e w' ⟨rfl,rfl⟩;rw[h3]));go_ret;exact⟨aj gW.out.symm,aL⟩
     .have uX:Hid (me=0):=(show me=0 by rw[HD.out];simp[h1,h2,h3])
      go_wp2_with (first|(go_at_call 33;refine(aN _ _ tT).mono ?_;rintro e w' ⟨rfl,rfl⟩;rw[h1])|(go_at_call 85;refine(bW _ _).mono ?_;rintro e w' ⟨rfl,rfl⟩;rw[h2])|(go_at_call 82;refine(cj _ _ _ _).mono ?_;rintro e w' ⟨rfl,rfl⟩;rw[h3]));go_roundw
      case rel=>exact⟨k+1,by omega,by go_num,aL,HZ.out uX.out⟩
      case measure=>simp[intOf];omega
  .have cX:Hid (∀j,j<n->(ms.getD j dm).e=0):=λj hj=>hz.out j (by omega)
   clear hz;go_wp2_with fail;go_loopw [4] (λi w'=>∃k:Nat,(k+1<=n\/k=0)/\i=O J (k+1)/\Below w.heap.size w w'/\Hid (∀j,j<k->less (ms.getD j dm).ai (ms.getD (j+1) dm).ai=true)) (λi _=>n-(intOf i).toNat)
   case atStart=>exact⟨0,.inr rfl,rfl,aL,λj h=>absurd h (IP _)⟩
   case round=>
    clear dJ k8 bb aL;obtain⟨q,hq,rfl,aL,hz⟩:=hrel;obtain⟨dJ,k8⟩:=cD aL;have bb:=aL.size;by_cases aB:q+1<n
    .obtain⟨c0,_,_⟩:=HR.out q (by rw[HN.out];omega)
     obtain⟨d0,_,_⟩:=HR.out (q+1) (by rw[HN.out];exact aB);have HK:Hid (less (ms.getD q dm).ai (ms.getD (q+1) dm).ai=false->res=4):=λh=>H4.out cX.out q aB h;have HZ:Hid (less (ms.getD q dm).ai (ms.getD (q+1) dm).ai=true->∀j,j<q+1->less (ms.getD j dm).ai (ms.getD (j+1) dm).ai=true):=λh j hj=>by
      rcases II.1 hj with h2|rfl
      .exact hz.out j h2
      .exact h
     generalize ms.getD q dm=m1 at *;generalize ms.getD (q+1) dm=m2 at *;rcases hl:Op.bytesLess m1.ai.toList m2.ai.toList with _|_
     .have h4:Hid (res=4):=HK.out hl
      have dK:=gF m1.ai.toList m2.ai.toList;rw[hl] at dK;have uT:=dK.symm;clear dK hl;go_wp2_with fail;go_quiet (fail)
      go_wp2_with fail;go_ret;exact⟨aj h4.out.symm,below_drewN aL _⟩
     .have dK:=gF m1.ai.toList m2.ai.toList
      rw[hl] at dK;have uT:=dK.symm;clear dK;have HL:Hid _:=hl;clear hl;go_wp2_with fail;go_quiet (fail)
      go_wp2_with fail;go_roundw
      case rel=>exact⟨q+1,.inl (by omega),by go_num,below_drewN aL _,HZ.out HL.out⟩
      case measure=>simp[intOf];omega
    .have h0:Hid (res=0):=H0.out cX.out λj hj=>hz.out j (by omega)
     go_wp2_with fail;go_ret;exact⟨aj h0.out.symm,aL⟩
theorem fj(a:Option Addr)(n cap:Nat)(w:World)(hn:6<n) :
 aT 37 #[U a n cap] w λe w'=>e=sh (O J 2)/\w'=w:=by
 go_enter Tryz.func37,Tryz.ntmps37;go_wp2_with fail;go_ret;exact⟨rfl,rfl⟩
theorem fk(a:Option Addr)(cap:Nat)(w:World) :
 aT 37 #[U a 0 cap] w λe w'=>e=sh (O J 0)/\w'=w:=by
 go_enter Tryz.func37,Tryz.ntmps37;go_wp2_with fail;go_loop [3] (λi=>i=O J 0) (λ_=>0)
 case atStart=>rfl
 case round=>
  subst hrel;go_wp2_with fail;go_loop [4] (λi=>i=O J 1) (λ_=>0)
  case atStart=>rfl
  case round=>
   subst hrel;go_wp2_with fail;go_ret;exact⟨rfl,rfl⟩
theorem fS(ms:List cW)(v:Value)(w:World)(h:Sl w v ms) :
 ij 37 #[v] w (O J (aM ms)):=by
 obtain⟨a,cap,rfl,hs,h⟩:=h;by_cases hn:6<ms.length
 .refine(fj a ms.length cap w hn).mono ?_
  rintro e w' ⟨rfl,rfl⟩;exact⟨aj (by rw[aM,if_pos hn]),Ia _ _⟩
 .rcases h with rfl|⟨b,off,rfl,hb,hr⟩
  .refine(fk a cap w).mono ?_
   rintro e w' ⟨rfl,rfl⟩;exact⟨rfl,Ia _ _⟩
  .exact fR ms b off cap w hr hb (by omega) hs
def SK(ms:List cW)(t:ByteArray)(r:Int):Prop:=
 (∃k:Nat,k<ms.length/\r=k/\(ms.getD k dm).ai=t)\/(r = -1/\∀j,j<ms.length->(ms.getD j dm).ai≠t)
theorem Fy(ms:List cW)(v:Value)(t:ByteArray)(w:World)(hv:Sl w v ms)(hn:ms.length<=9223372036854775807) :
 aT 13 #[v,I t] w λe w'=>∃r:Int,e=sh (O J r)/\Hid (SK ms t r)/\w'=w:=by
 obtain⟨pa,ca,rfl,_,ha⟩:=hv;have HA:Hid _:=ha;clear ha;generalize qK:ms.length=n at *;have HN:Hid _:=qK;clear qK;go_enter Tryz.func13,Tryz.ntmps13;go_wp2_with fail;go_loop [5] (λi=>∃k:Nat,k<=n/\i=O J k/\Hid (∀j,j<k->(ms.getD j dm).ai≠t)) (λi=>n-(intOf i).toNat)
 case atStart=>exact⟨0,IF _,rfl,λj h=>absurd h (IP _)⟩
 case round=>
  obtain⟨k,hk,rfl,hz⟩:=hrel;by_cases aB:k<n
  .obtain⟨b1,o1,hZ,dX,kF⟩:∃b off,pa=Z ⟨b,off,Y⟩/\b<w.heap.size/\Row w b off ms:=by
    rcases HA.out with h|h
    .have:=HN.out;rw[h] at this;simp at this;omega
    .exact h
   subst hZ;obtain⟨c0,_,_⟩:=kF k (by rw[HN.out];exact aB);clear kF;have HF:Hid ((ms.getD k dm).ai=t->SK ms t (k:Int)):=λh=>.inl ⟨k,by rw[HN.out];exact aB,rfl,h⟩;have HZ:Hid ((ms.getD k dm).ai≠t->∀j,j<k+1->(ms.getD j dm).ai≠t):=λh j hj=>by
    rcases II.1 hj with h2|rfl
    .exact hz.out j h2
    .exact h
   generalize(ms.getD k dm).ai=nm at *;by_cases he:nm=t
   .subst he
    have qV:Hid (SK _ _ _):=HF.out rfl;clear HF HZ;go_wp2_with fail;go_ret;exact⟨k,rfl,qV,rfl⟩
   .obtain⟨h1,h2⟩:=eJ he
    have HE:Hid _:=he;clear he;go_wp2_with fail;go_round
    case rel=>exact⟨k+1,by omega,by go_num,HZ.out HE.out⟩
    case measure=>simp[intOf];omega
  .go_wp2_with fail
   go_ret;exact⟨-1,rfl,.inr ⟨rfl,λj hj=>hz.out j (by have:=HN.out;omega)⟩,rfl⟩
theorem VY{ms:List cW}{t:cW}{r:Int}{p:Nat}{f:Bool}(hi:SK ms t.ai r)(ha:At ms t p f)(hr:dt ms):(f=true->r=p)/\(f=false->r = -1):=by
 rcases hi with⟨k,hk,rfl,hn⟩|⟨rfl,hn⟩
 .obtain⟨rfl,rfl⟩:=j4 ha (RL.aai ord dm keyed hr hk ((cK _ _).2 hn))
  exact⟨λ_=>rfl,λh=>by cases h⟩
 .refine⟨λh=>?_,λ_=>rfl⟩
  have:=ha.is.1 h;exact absurd ((cK _ _).1 this.2) (hn p this.1)
end Gw
end Go.Proofs.YtfidjlcdlakceaaGreatDoor
