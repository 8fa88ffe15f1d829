import Derived.Test.YtffdoiokmiklgaaGreatDoorX47
import Derived.Test.YtffdoiokmiklgaaGreatDoorX36
import Derived.Test.YtffdoiokmiklgaaGreatDoorX48
import Derived.Deep.CutBlock
import Derived.Test.YtffdoiokmiklgaaGreatDoorX37
import Derived.Deep.Cut
import Derived.Test.YtffdoiokmiklgaaGreatDoorX49
namespace Go.Proofs.YtffdoiokmiklgaaGreatDoor
open Go.RowKit
theorem cLs_end {n:Nat} {o:Option (List UInt8)} {D:List Mem} (h:n=0∨o=none):cLs n o D=(D,o):=by
 rcases h with rfl | rfl
 ·cases o<;>rfl
 ·exact cLs_bad n D
set_option maxHeartbeats 100000000 in
set_option maxRecDepth 1000000 in
theorem loop_c {u0 u1 u2 u3 u8 u9 ac ae af ai aj an ap av ay az aA aB aC aD aE aF aI aJ aK aL aM aN aO aP aQ aR aT aU aV aW aX aY aZ ba bb bc bd be bf bi bj bk bl bo bp bq bt bu bv bz bA bB bC bD bE bF bJ bK bL bM bN bO bP bQ bR bT bU bV bW bX bY bZ cd cf ci cj cv cy cz cA cB cD cE cF cG cH cI cJ cK cL cM cO cP cQ cR cS cU cV cW cX cZ da db dd de df dg dh di dj dk dn dp dt du dv dw dx dy dz dA dB dC dD dE dF dG dH dI dJ dK dL dM dO dP dQ dR dS dU dV dW dX dY dZ ea eb ec ed ee ei ej ek el en eo ep eq et eu ey ez eA eB eC eD eE eF eG eH eI eJ eK eL eM eN eO eP eQ eR eS eT eU eV eW eX eY eZ fa:Value} (w:World) (s:ByteArray) (c pb M:Nat) (o:Option (List UInt8)) (p0 p1 p3 p4 p5:Value) (hs:s.size≤16777216) (hM:M≤20) (hq:IsQ c s o w) (hcp:c≠pb) (hp:w.heap[pb]?=some (.cells #[p0,p1,.slice none 0 0,p3,p4,p5] 67 (0,0))) (Q:Exit→Act→World→Prop)
 (hN:∀ (y7 y8 gN gO gP gQ gR gS gT gU gV gW gX gY gZ hH hJ hQ hU hZ ia ib ic ie ii ij ik il io ip iq iu iv iw ix:Value) (ao:Option Addr) (lo co:Nat) (W:World),Hid (IsQ c s (cLs M o []).2 W)→Hid (W.heap[pb]?=some (.cells #[p0,p1,.slice ao lo co,p3,p4,p5] 67 (0,0)))→Hid (Own w.heap.size W (.slice ao lo co) (cLs M o []).1)→Hid (R2 c pb w W)→Q .normal ⟨#[u0,u1,u2,u3,.pointer (some ⟨c,0,none⟩),.pointer (some ⟨pb,0,none⟩),.int .i64 (M:Int),y7,y8,u9,ac,ae,af,ai,aj,an,ap,av,ay,az,aA,aB,aC,aD,aE,aF,gN,gO,gP,gQ,gR,gS,gT,gU,gV,gW,gX,gY,gZ,hH,hJ,hQ,hU,hZ,ia,ib,ic,ie,ii,ij,ik,il,io,ip,iq,iu,iv,iw,ix,bz,bA,bB,bC,bD,bE,bF,bJ,bK,bL,bM,bN,bO,bP,bQ,bR,bT,bU,bV,bW,bX,bY,bZ,cd,cf,ci,cj,cv,cy,cz,cA,cB,cD,cE,cF,cG,cH,cI,cJ,cK,cL,cM,cO,cP,cQ,cR,cS,cU,cV,cW,cX,cZ,da,db,dd,de,df,dg,dh,di,dj,dk,dn,dp,dt,du,dv,dw,dx,dy,dz,dA,dB,dC,dD,dE,dF,dG,dH,dI,dJ,dK,dL,dM,dO,dP,dQ,dR,dS,dU,dV,dW,dX,dY,dZ,ea,eb,ec,ed,ee,ei,ej,ek,el,en,eo,ep,eq,et,eu,ey,ez,eA,eB,eC,eD,eE,eF,eG,eH,eI,eJ,eK,eL,eM,eN,eO,eP,eQ,eR,eS,eT,eU,eV,eW,eX,eY,eZ,fa],[]⟩ W) :
 Code.wp Tryz.prog ((Tryz.f23.body.bind (blkIn 0)).getD .skip) Q ⟨#[u0,u1,u2,u3,.pointer (some ⟨c,0,none⟩),.pointer (some ⟨pb,0,none⟩),.int .i64 (M:Int),.int .i64 0,u8,u9,ac,ae,af,ai,aj,an,ap,av,ay,az,aA,aB,aC,aD,aE,aF,aI,aJ,aK,aL,aM,aN,aO,aP,aQ,aR,aT,aU,aV,aW,aX,aY,aZ,ba,bb,bc,bd,be,bf,bi,bj,bk,bl,bo,bp,bq,bt,bu,bv,bz,bA,bB,bC,bD,bE,bF,bJ,bK,bL,bM,bN,bO,bP,bQ,bR,bT,bU,bV,bW,bX,bY,bZ,cd,cf,ci,cj,cv,cy,cz,cA,cB,cD,cE,cF,cG,cH,cI,cJ,cK,cL,cM,cO,cP,cQ,cR,cS,cU,cV,cW,cX,cZ,da,db,dd,de,df,dg,dh,di,dj,dk,dn,dp,dt,du,dv,dw,dx,dy,dz,dA,dB,dC,dD,dE,dF,dG,dH,dI,dJ,dK,dL,dM,dO,dP,dQ,dR,dS,dU,dV,dW,dX,dY,dZ,ea,eb,ec,ed,ee,ei,ej,ek,el,en,eo,ep,eq,et,eu,ey,ez,eA,eB,eC,eD,eE,eF,eG,eH,eI,eJ,eK,eL,eM,eN,eO,eP,eQ,eR,eS,eT,eU,eV,eW,eX,eY,eZ,fa],[]⟩ w:=by
 obtain ⟨i0,hi0,hz0,hzs,hzb⟩:=info_parts Tryz.info56
 conv=>arg 2;whnf
 have HQN:Hid _:=hN
 clear hN
 obtain ⟨RS,hRS⟩:∃ RS,RS=cLs M o []:=⟨_,rfl⟩
 rw [← hRS] at HQN
 have HRS0:Hid (cLs (M - 0) o []=RS):=hRS.symm
 have hcl:=hq.lt
 have hpl:pb < w.heap.size:=(Array.getElem?_eq_some_iff.1 hp).1
 have HQ0:Hid (IsQ c s o w∧w.heap[pb]?=some (.cells #[p0,p1,.slice none 0 0,p3,p4,p5] 67 (0,0))∧R2 c pb w w):=⟨hq,hp,R2.refl _ _ _⟩
 clear hRS hq hp
 go_wp2_with fail
 go_loopw [7] (fun i wr=>∃ (k:Nat) (D:List Mem) (o:Option (List UInt8)) (ao:Option Addr) (lo co:Nat),k≤M∧D.length=k∧i=.int .i64 k∧Hid (cLs (M - k) o D=RS)∧Hid (IsQ c s o wr∧wr.heap[pb]?=some (.cells #[p0,p1,.slice ao lo co,p3,p4,p5] 67 (0,0))∧R2 c pb w wr)∧Hid (Own w.heap.size wr (.slice ao lo co) D)) (fun i _=>M - (intOf i).toNat)
 case atStart=>exact ⟨0,[],o,none,0,0,Nat.zero_le _,rfl,rfl,HRS0,HQ0,own_nil _ _⟩
 case round=>
  obtain ⟨k,D,o,ao,lo,co,hk,hDk0,rfl,HRS,HS,HO⟩:=hrel
  have HDK:Hid (D.length=k):=hDk0
  have hDl:D.length≤40:=by omega
  clear hDk0
  have y2:=HS.out.1.bad
  by_cases hlt:k < M
  ·have hd:decide ((k:Int) < (M:Int))=true:=by simp;omega
   cases o with
   | none=>
     have y2':wr.cell? ⟨c,2,none⟩=some (.bool true):=y2
     clear y2
     have HFN:Hid (RS=(D,none)):=(show _=_ by rw [← HRS.out,cLs_end (.inr rfl)])
     clear HRS
     go_wp2_with fail
     refine HQN.out _ _ _ _ _ _ _ _ _ _ _ _ _ _ _ _ _ _ _ _ _ _ _ _ _ _ _ _ _ _ _ _ _ _ _ ao lo co wr ?_ HS.out.2.1 ?_ HS.out.2.2
     ·show IsQ _ _ _ _
      rw [HFN.out];exact HS.out.1
     ·show Own _ _ _ _
      rw [HFN.out];exact HO.out
   | some l=>
     have y2':wr.cell? ⟨c,2,none⟩=some (.bool false):=y2
     clear y2
     obtain ⟨x0,o1,hx0⟩:∃ x o',cT (some l)=(x,o'):=⟨_,_,rfl⟩
     obtain ⟨x1,o2,hx1⟩:∃ x o',cN o1=(x,o'):=⟨_,_,rfl⟩
     obtain ⟨x2,o3,hx2⟩:∃ x o',cN o2=(x,o'):=⟨_,_,rfl⟩
     obtain ⟨x3,o4,hx3⟩:∃ x o',cN o3=(x,o'):=⟨_,_,rfl⟩
     obtain ⟨x4,o5,hx4⟩:∃ x o',cY o4=(x,o'):=⟨_,_,rfl⟩
     have hel:cEl (some l)=(⟨x0,x1,x2,x3,x4⟩,o5):=by simp only [cEl,hx0,hx1,hx2,hx3,hx4]
     have HRS2:Hid (cLs (M - (k+1)) o5 (D++[⟨x0,x1,x2,x3,x4⟩])=RS):=(show _=_ by
      rw [← HRS.out,cLs_go (by omega),hel,show M - (k+1)=M - k - 1 by omega])
     clear hel HRS
     obtain ⟨W0,hW0⟩:∃ W0,W0=wr.alloc (.cells #[.string ⟨#[]⟩,.int .i64 0,.int .i64 0,.int .i64 0,.bool false] 56):=⟨_,rfl⟩
     have hb0:Below wr.heap.size wr W0:=by rw [hW0];exact (Below.refl _ _).alloc (Nat.le_refl _) _
     have hsz:=HS.out.2.2.size
     have hcw:c < wr.heap.size:=HS.out.1.lt
     have hpw:pb < wr.heap.size:=(Array.getElem?_eq_some_iff.1 HS.out.2.1).1
     have HE0:Hid (IsQ c s (some l) W0∧Rp c wr W0∧W0.heap[wr.heap.size]?=some (.cells #[.string ⟨#[]⟩,.int .i64 0,.int .i64 0,.int .i64 0,.bool false] 56 (0,0))):=⟨HS.out.1.below hb0 hcw,Rp.of_below hb0 (Nat.le_refl _),by rw [hW0];exact heap_alloc_new wr _⟩
     have HC0:Hid (∀ W,IsQ c s (some l) W→Calls Tryz.prog 49 #[.pointer (some ⟨c,0,none⟩)] W fun e w'=>e=.returned (.string x0)∧IsQ c s o1 w'∧Rp c W w'):=fun W hW=>by
      have h:=ctext_any hW hs
      rw [hx0] at h
      exact h
     have HC1:Hid (∀ W,IsQ c s o1 W→Calls Tryz.prog 52 #[.pointer (some ⟨c,0,none⟩)] W fun e w'=>e=.returned (.int .i64 x1)∧IsQ c s o2 w'∧Rp c W w'):=fun W hW=>by
      have h:=cnum_any hW hs
      rw [hx1] at h
      exact h
     have HC2:Hid (∀ W,IsQ c s o2 W→Calls Tryz.prog 52 #[.pointer (some ⟨c,0,none⟩)] W fun e w'=>e=.returned (.int .i64 x2)∧IsQ c s o3 w'∧Rp c W w'):=fun W hW=>by
      have h:=cnum_any hW hs
      rw [hx2] at h
      exact h
     have HC3:Hid (∀ W,IsQ c s o3 W→Calls Tryz.prog 52 #[.pointer (some ⟨c,0,none⟩)] W fun e w'=>e=.returned (.int .i64 x3)∧IsQ c s o4 w'∧Rp c W w'):=fun W hW=>by
      have h:=cnum_any hW hs
      rw [hx3] at h
      exact h
     have HC4:Hid (∀ W,IsQ c s o4 W→Calls Tryz.prog 50 #[.pointer (some ⟨c,0,none⟩)] W fun e w'=>e=.returned (.bool x4)∧IsQ c s o5 w'∧Rp c W w'):=fun W hW=>by
      have h:=cyes_any hW hs
      rw [hx4] at h
      exact h
     clear hb0 hx0 hx1 hx2 hx3 hx4
     go_wp2_with fail
     rw [← hW0]
     clear hW0 y2'
     refine (HC0.out W0 HE0.out.1).mono ?_
     rintro e W1 ⟨rfl,h1,h2⟩
     have hm0:W1.heap[wr.heap.size]?=some (.cells #[.string ⟨#[]⟩,.int .i64 0,.int .i64 0,.int .i64 0,.bool false] 56 (0,0)):=h2.block' (by omega) HE0.out.2.2
     have HE1:Hid (IsQ c s o1 (W1.setCell ⟨wr.heap.size,0,none⟩ (.string x0))∧Rp c wr (W1.setCell ⟨wr.heap.size,0,none⟩ (.string x0))∧(W1.setCell ⟨wr.heap.size,0,none⟩ (.string x0)).heap[wr.heap.size]?=some (.cells #[.string x0,.int .i64 0,.int .i64 0,.int .i64 0,.bool false] 56 (0,0))):=⟨h1.set (by omega) _,(HE0.out.2.1.trans h2).new (Nat.le_refl _) _,Joins.block_setCell (i:=0) hm0 _⟩
     have g0:W1.cell? ⟨wr.heap.size,0,none⟩=some (.string ⟨#[]⟩):=cellsAt hm0 0
     have z0:W1.frozen? ⟨wr.heap.size,0,none⟩=false:=free3 hm0 0
     clear hm0 h1 h2 HC0 HE0
     go_wp2_with fail
     refine (HC1.out (W1.setCell ⟨wr.heap.size,0,none⟩ (.string x0)) HE1.out.1).mono ?_
     rintro e W2 ⟨rfl,h1,h2⟩
     have hm1:W2.heap[wr.heap.size]?=some (.cells #[.string x0,.int .i64 0,.int .i64 0,.int .i64 0,.bool false] 56 (0,0)):=h2.block' (by omega) HE1.out.2.2
     have HE2:Hid (IsQ c s o2 (W2.setCell ⟨wr.heap.size,1,none⟩ (.int .i64 x1))∧Rp c wr (W2.setCell ⟨wr.heap.size,1,none⟩ (.int .i64 x1))∧(W2.setCell ⟨wr.heap.size,1,none⟩ (.int .i64 x1)).heap[wr.heap.size]?=some (.cells #[.string x0,.int .i64 x1,.int .i64 0,.int .i64 0,.bool false] 56 (0,0))):=⟨h1.set (by omega) _,(HE1.out.2.1.trans h2).new (Nat.le_refl _) _,Joins.block_setCell (i:=1) hm1 _⟩
     have g1:W2.cell? ⟨wr.heap.size,1,none⟩=some (.int .i64 0):=cellsAt hm1 1
     have z1:W2.frozen? ⟨wr.heap.size,1,none⟩=false:=free3 hm1 1
     clear hm1 h1 h2 HC1 HE1
     go_wp2_with fail
     refine (HC2.out (W2.setCell ⟨wr.heap.size,1,none⟩ (.int .i64 x1)) HE2.out.1).mono ?_
     rintro e W3 ⟨rfl,h1,h2⟩
     have hm2:W3.heap[wr.heap.size]?=some (.cells #[.string x0,.int .i64 x1,.int .i64 0,.int .i64 0,.bool false] 56 (0,0)):=h2.block' (by omega) HE2.out.2.2
     have HE3:Hid (IsQ c s o3 (W3.setCell ⟨wr.heap.size,2,none⟩ (.int .i64 x2))∧Rp c wr (W3.setCell ⟨wr.heap.size,2,none⟩ (.int .i64 x2))∧(W3.setCell ⟨wr.heap.size,2,none⟩ (.int .i64 x2)).heap[wr.heap.size]?=some (.cells #[.string x0,.int .i64 x1,.int .i64 x2,.int .i64 0,.bool false] 56 (0,0))):=⟨h1.set (by omega) _,(HE2.out.2.1.trans h2).new (Nat.le_refl _) _,Joins.block_setCell (i:=2) hm2 _⟩
     have g2:W3.cell? ⟨wr.heap.size,2,none⟩=some (.int .i64 0):=cellsAt hm2 2
     have z2:W3.frozen? ⟨wr.heap.size,2,none⟩=false:=free3 hm2 2
     clear hm2 h1 h2 HC2 HE2
     go_wp2_with fail
     refine (HC3.out (W3.setCell ⟨wr.heap.size,2,none⟩ (.int .i64 x2)) HE3.out.1).mono ?_
     rintro e W4 ⟨rfl,h1,h2⟩
     have hm3:W4.heap[wr.heap.size]?=some (.cells #[.string x0,.int .i64 x1,.int .i64 x2,.int .i64 0,.bool false] 56 (0,0)):=h2.block' (by omega) HE3.out.2.2
     have HE4:Hid (IsQ c s o4 (W4.setCell ⟨wr.heap.size,3,none⟩ (.int .i64 x3))∧Rp c wr (W4.setCell ⟨wr.heap.size,3,none⟩ (.int .i64 x3))∧(W4.setCell ⟨wr.heap.size,3,none⟩ (.int .i64 x3)).heap[wr.heap.size]?=some (.cells #[.string x0,.int .i64 x1,.int .i64 x2,.int .i64 x3,.bool false] 56 (0,0))):=⟨h1.set (by omega) _,(HE3.out.2.1.trans h2).new (Nat.le_refl _) _,Joins.block_setCell (i:=3) hm3 _⟩
     have g3:W4.cell? ⟨wr.heap.size,3,none⟩=some (.int .i64 0):=cellsAt hm3 3
     have z3:W4.frozen? ⟨wr.heap.size,3,none⟩=false:=free3 hm3 3
     clear hm3 h1 h2 HC3 HE3
     go_wp2_with fail
     refine (HC4.out (W4.setCell ⟨wr.heap.size,3,none⟩ (.int .i64 x3)) HE4.out.1).mono ?_
     rintro e W5 ⟨rfl,h1,h2⟩
     have hm4:W5.heap[wr.heap.size]?=some (.cells #[.string x0,.int .i64 x1,.int .i64 x2,.int .i64 x3,.bool false] 56 (0,0)):=h2.block' (by omega) HE4.out.2.2
     have HE5:Hid (IsQ c s o5 (W5.setCell ⟨wr.heap.size,4,none⟩ (.bool x4))∧Rp c wr (W5.setCell ⟨wr.heap.size,4,none⟩ (.bool x4))∧(W5.setCell ⟨wr.heap.size,4,none⟩ (.bool x4)).heap[wr.heap.size]?=some (.cells #[.string x0,.int .i64 x1,.int .i64 x2,.int .i64 x3,.bool x4] 56 (0,0))):=⟨h1.set (by omega) _,(HE4.out.2.1.trans h2).new (Nat.le_refl _) _,Joins.block_setCell (i:=4) hm4 _⟩
     have g4:W5.cell? ⟨wr.heap.size,4,none⟩=some (.bool false):=cellsAt hm4 4
     have z4:W5.frozen? ⟨wr.heap.size,4,none⟩=false:=free3 hm4 4
     clear hm4 h1 h2 HC4 HE4
     go_upto_region 15 with fail
     obtain ⟨WX,hWX⟩:∃ WX,WX=W5.setCell ⟨wr.heap.size,4,none⟩ (.bool x4):=⟨_,rfl⟩
     rw [← hWX] at HE5 ⊢
     clear hWX g4 z4
     have hpx:WX.heap[pb]?=some (.cells #[p0,p1,.slice ao lo co,p3,p4,p5] 67 (0,0)):=HE5.out.2.1.block' (by omega) HS.out.2.1
     have HOX:Hid (Own w.heap.size WX (.slice ao lo co) D):=HE5.out.2.1.row HO.out (by omega)
     have q0:WX.cell? ⟨pb,2,none⟩=some (.slice ao lo co):=cellsAt hpx 2
     have HR2X:Hid (R2 c pb w WX):=HS.out.2.2.rp HE5.out.2.1
     have HPX:Hid (WX.heap[pb]?=some (.cells #[p0,p1,.slice ao lo co,p3,p4,p5] 67 (0,0))):=hpx
     have hcx:c < WX.heap.size:=HE5.out.1.lt
     have hszx:w.heap.size≤WX.heap.size:=HR2X.out.size
     have m0:WX.cell? ⟨wr.heap.size,0,none⟩=some (.string x0):=cellsAt HE5.out.2.2 0
     have m1:WX.cell? ⟨wr.heap.size,1,none⟩=some (.int .i64 x1):=cellsAt HE5.out.2.2 1
     have m2:WX.cell? ⟨wr.heap.size,2,none⟩=some (.int .i64 x2):=cellsAt HE5.out.2.2 2
     have m3:WX.cell? ⟨wr.heap.size,3,none⟩=some (.int .i64 x3):=cellsAt HE5.out.2.2 3
     have m4:WX.cell? ⟨wr.heap.size,4,none⟩=some (.bool x4):=cellsAt HE5.out.2.2 4
     clear hpx HS HO
     go_wp2_with (at_builtin;refine wpList_append_own _ rfl _ _ 45 rfl w.heap.size 56 i0 _ 5 48 Tryz.underlying45 hi0 hz0 hzs hzb rfl (by omega) _ D.length (fl D) rfl ?hown ⟨WX.heap.size,0,none⟩ 1 1 (Mem.cs ⟨x0,x1,x2,x3,x4⟩) rfl rfl ?hnews (cs_one _) ?h63 ?hbytes ?hbase ?_)
     case hown=>(refine HOX.out.below ?_;repeat (first | exact Below.refl _ _ | refine below_drewN ?_ _ | refine Below.alloc ?_ (by simp) _ | refine Below.drew ?_))
     case hnews=>(intro j u hj;rw [Addr.add_lit];exact (cellsAt (heap_alloc_new WX (.cells #[.string x0,.int .i64 x1,.int .i64 x2,.int .i64 x3,.bool x4] 56)) (0+j)).trans (by simpa [Mem.cs] using hj))
     case h63=>(unfold maxLen;omega)
     case hbytes=>omega
     case hbase=>(simp;omega)
     intro v' w6 r1 r2 r3
     have hb6:Below w.heap.size WX w6:=((Below.refl w.heap.size WX).alloc hszx (.cells #[.string x0,.int .i64 x1,.int .i64 x2,.int .i64 x3,.bool x4] 56)).trans ((Below.refl _ _).grown (w:=WX.alloc (.cells #[.string x0,.int .i64 x1,.int .i64 x2,.int .i64 x3,.bool x4] 56)) ⟨r2.os,r2.tape,r2.output,r2.size,r2.block⟩ (by simp;omega) (fun j hj=>(HOX.out.lt j hj).1))
     have HO6:Hid (Own w.heap.size w6 v' (D++[⟨x0,x1,x2,x3,x4⟩])):=own_snoc (by first | exact r1 | (rw [List.length_append];exact r1))
     obtain ⟨a6,l6,c6,hv6⟩:∃ a l c,v'=.slice a l c:=by
      rcases r1.2 with ⟨hv,_⟩ | ⟨_,_,_,hv,_⟩
      ·exact ⟨_,_,_,hv⟩
      ·exact ⟨_,_,_,hv⟩
     subst hv6
     have hp6:w6.heap[pb]?=some (.cells #[p0,p1,.slice ao lo co,p3,p4,p5] 67 (0,0)):=(hb6.block pb hpl).trans HPX.out
     have HS6:Hid (IsQ c s o5 (w6.setCell ⟨pb,2,none⟩ (.slice a6 l6 c6))∧(w6.setCell ⟨pb,2,none⟩ (.slice a6 l6 c6)).heap[pb]?=some (.cells #[p0,p1,.slice a6 l6 c6,p3,p4,p5] 67 (0,0))∧R2 c pb w (w6.setCell ⟨pb,2,none⟩ (.slice a6 l6 c6))):=⟨(HE5.out.1.below hb6 hcl).set hcp _,Joins.block_setCell (i:=2) hp6 _,(HR2X.out.below hb6 (Nat.le_refl _)).set _ _⟩
     have HO7:Hid (Own w.heap.size (w6.setCell ⟨pb,2,none⟩ (.slice a6 l6 c6)) (.slice a6 l6 c6) (D++[⟨x0,x1,x2,x3,x4⟩])):=ownsRow_setCell_below HO6.out (a:=⟨pb,2,none⟩) hpl _
     have q6:w6.cell? ⟨pb,2,none⟩=some (.slice ao lo co):=cellsAt hp6 2
     have z6:w6.frozen? ⟨pb,2,none⟩=false:=free3 hp6 2
     clear r1 r2 r3 hb6 HO6 HOX HE5 HR2X HPX hp6 m0 m1 m2 m3 m4 q0
     go_wp2_with fail
     exact ⟨⟨k+1,D++[⟨x0,x1,x2,x3,x4⟩],o5,a6,l6,c6,by omega,by rw [List.length_append,HDK.out];rfl,by go_num,HRS2,HS6,HO7⟩,by simp [intOf];omega⟩
  ·have hd:decide ((k:Int) < (M:Int))=false:=by simp;omega
   have HFN:Hid (RS=(D,o)):=(show _=_ by rw [← HRS.out,cLs_end (.inl (by omega))])
   clear HRS y2
   go_wp2_with fail
   refine HQN.out _ _ _ _ _ _ _ _ _ _ _ _ _ _ _ _ _ _ _ _ _ _ _ _ _ _ _ _ _ _ _ _ _ _ _ ao lo co wr ?_ HS.out.2.1 ?_ HS.out.2.2
   ·show IsQ _ _ _ _
    rw [HFN.out];exact HS.out.1
   ·show Own _ _ _ _
    rw [HFN.out];exact HO.out
end Go.Proofs.YtffdoiokmiklgaaGreatDoor
namespace Go.Proofs.YtffdoiokmiklgaaGreatDoor
namespace Wh
open Go.RowKit
theorem cLs_end {n:Nat} {o:Option (List UInt8)} {D:List Whe} (h:n=0∨o=none):cLs n o D=(D,o):=by
 rcases h with rfl | rfl
 ·cases o<;>rfl
 ·exact cLs_bad n D
set_option maxHeartbeats 100000000 in
set_option maxRecDepth 1000000 in
theorem loop_c {u0 u1 u2 u3 u7 u8 u9 ac ae af aj an ap av ay az aA aB aC aD aE aF aI aJ aK aL aM aN aO aP aQ aR aT aU aV aW aX aY aZ ba bb bc bd be bf bi bj bk bl bo bp bq bt bu bv bz bA bB bC bD bE bF bJ bK bL bM bN bO bP bQ bR bT bU bV bW bX bY bZ cd cf ci cj cv cy cz cA cB cD cE cF cG cH cI cJ cK cL cM cO cP cQ cR cS cU cV cW cX cZ da db dd de df dg dh di dj dk dn dp dt du dv dw dx dy dz dA dB dC dD dE dF dG dH dI dJ dK dL dM dO dP dQ dR dS dU dV dW dX dY dZ ea eb ec ed ee ei ej ek el en eo ep eq et eu ey ez eA eB eC eD eE eF eG eH eI eJ eK eL eM eN eO eP eQ eR eS eT eU eV eW eX eY eZ fa:Value} (w:World) (s:ByteArray) (c pb M:Nat) (o:Option (List UInt8)) (p0 p1 p2 p3 p4:Value) (hs:s.size≤16777216) (hM:M≤20) (hq:IsQ c s o w) (hcp:c≠pb) (hp:w.heap[pb]?=some (.cells #[p0,p1,p2,p3,p4,.slice none 0 0] 67 (0,0))) (Q:Exit→Act→World→Prop)
 (hN:∀ (iy iz iA iB iC iD iE iF iG iH iI iJ iK iL iM iN iO iP iQ iR iS iT iU iV iW iX iY iZ i6 i7 i8 ja jb jc jd jf ji jj jk jn jo jp jq:Value) (ao:Option Addr) (lo co:Nat) (W:World),Hid (IsQ c s (cLs M o []).2 W)→Hid (W.heap[pb]?=some (.cells #[p0,p1,p2,p3,p4,.slice ao lo co] 67 (0,0)))→Hid (Own w.heap.size W (.slice ao lo co) (cLs M o []).1)→Hid (R2 c pb w W)→Q .normal ⟨#[u0,u1,u2,u3,.pointer (some ⟨c,0,none⟩),.pointer (some ⟨pb,0,none⟩),.int .i64 (M:Int),u7,u8,u9,ac,ae,af,iy,iz,an,ap,av,ay,az,aA,aB,aC,aD,aE,aF,aI,aJ,aK,aL,aM,aN,aO,aP,aQ,aR,aT,aU,aV,aW,aX,aY,aZ,ba,bb,bc,bd,be,bf,bi,bj,bk,bl,bo,bp,bq,bt,bu,bv,bz,bA,bB,bC,bD,bE,bF,bJ,bK,bL,bM,bN,bO,bP,bQ,bR,bT,bU,bV,bW,bX,bY,bZ,cd,cf,ci,cj,cv,cy,cz,cA,cB,cD,cE,cF,cG,cH,cI,cJ,cK,cL,cM,cO,cP,cQ,cR,cS,cU,cV,cW,cX,cZ,da,db,dd,de,df,dg,dh,di,dj,dk,dn,dp,dt,du,dv,dw,dx,dy,dz,dA,dB,dC,dD,dE,dF,dG,iA,iB,iC,iD,iE,iF,iG,iH,iI,iJ,iK,iL,iM,iN,iO,iP,iQ,iR,iS,iT,iU,iV,iW,iX,iY,iZ,i6,i7,i8,ja,jb,jc,jd,jf,ji,jj,jk,jn,jo,jp,jq,eH,eI,eJ,eK,eL,eM,eN,eO,eP,eQ,eR,eS,eT,eU,eV,eW,eX,eY,eZ,fa],[]⟩ W) :
 Code.wp Tryz.prog ((Tryz.f23.body.bind (blkIn 6)).getD .skip) Q ⟨#[u0,u1,u2,u3,.pointer (some ⟨c,0,none⟩),.pointer (some ⟨pb,0,none⟩),.int .i64 (M:Int),u7,u8,u9,ac,ae,af,.int .i64 0,aj,an,ap,av,ay,az,aA,aB,aC,aD,aE,aF,aI,aJ,aK,aL,aM,aN,aO,aP,aQ,aR,aT,aU,aV,aW,aX,aY,aZ,ba,bb,bc,bd,be,bf,bi,bj,bk,bl,bo,bp,bq,bt,bu,bv,bz,bA,bB,bC,bD,bE,bF,bJ,bK,bL,bM,bN,bO,bP,bQ,bR,bT,bU,bV,bW,bX,bY,bZ,cd,cf,ci,cj,cv,cy,cz,cA,cB,cD,cE,cF,cG,cH,cI,cJ,cK,cL,cM,cO,cP,cQ,cR,cS,cU,cV,cW,cX,cZ,da,db,dd,de,df,dg,dh,di,dj,dk,dn,dp,dt,du,dv,dw,dx,dy,dz,dA,dB,dC,dD,dE,dF,dG,dH,dI,dJ,dK,dL,dM,dO,dP,dQ,dR,dS,dU,dV,dW,dX,dY,dZ,ea,eb,ec,ed,ee,ei,ej,ek,el,en,eo,ep,eq,et,eu,ey,ez,eA,eB,eC,eD,eE,eF,eG,eH,eI,eJ,eK,eL,eM,eN,eO,eP,eQ,eR,eS,eT,eU,eV,eW,eX,eY,eZ,fa],[]⟩ w:=by
 obtain ⟨i0,hi0,hz0,hzs,hzb⟩:=info_parts Tryz.info109
 conv=>arg 2;whnf
 have HQN:Hid _:=hN
 clear hN
 obtain ⟨RS,hRS⟩:∃ RS,RS=cLs M o []:=⟨_,rfl⟩
 rw [← hRS] at HQN
 have HRS0:Hid (cLs (M - 0) o []=RS):=hRS.symm
 have hcl:=hq.lt
 have hpl:pb < w.heap.size:=(Array.getElem?_eq_some_iff.1 hp).1
 have HQ0:Hid (IsQ c s o w∧w.heap[pb]?=some (.cells #[p0,p1,p2,p3,p4,.slice none 0 0] 67 (0,0))∧R2 c pb w w):=⟨hq,hp,R2.refl _ _ _⟩
 clear hRS hq hp
 go_wp2_with fail
 go_loopw [13] (fun i wr=>∃ (k:Nat) (D:List Whe) (o:Option (List UInt8)) (ao:Option Addr) (lo co:Nat),k≤M∧D.length=k∧i=.int .i64 k∧Hid (cLs (M - k) o D=RS)∧Hid (IsQ c s o wr∧wr.heap[pb]?=some (.cells #[p0,p1,p2,p3,p4,.slice ao lo co] 67 (0,0))∧R2 c pb w wr)∧Hid (Own w.heap.size wr (.slice ao lo co) D)) (fun i _=>M - (intOf i).toNat)
 case atStart=>exact ⟨0,[],o,none,0,0,Nat.zero_le _,rfl,rfl,HRS0,HQ0,own_nil _ _⟩
 case round=>
  obtain ⟨k,D,o,ao,lo,co,hk,hDk0,rfl,HRS,HS,HO⟩:=hrel
  have HDK:Hid (D.length=k):=hDk0
  have hDl:D.length≤40:=by omega
  clear hDk0
  have y2:=HS.out.1.bad
  by_cases hlt:k < M
  ·have hd:decide ((k:Int) < (M:Int))=true:=by simp;omega
   cases o with
   | none=>
     have y2':wr.cell? ⟨c,2,none⟩=some (.bool true):=y2
     clear y2
     have HFN:Hid (RS=(D,none)):=(show _=_ by rw [← HRS.out,cLs_end (.inr rfl)])
     clear HRS
     go_wp2_with fail
     refine HQN.out _ _ _ _ _ _ _ _ _ _ _ _ _ _ _ _ _ _ _ _ _ _ _ _ _ _ _ _ _ _ _ _ _ _ _ _ _ _ _ _ _ _ _ ao lo co wr ?_ HS.out.2.1 ?_ HS.out.2.2
     ·show IsQ _ _ _ _
      rw [HFN.out];exact HS.out.1
     ·show Own _ _ _ _
      rw [HFN.out];exact HO.out
   | some l=>
     have y2':wr.cell? ⟨c,2,none⟩=some (.bool false):=y2
     clear y2
     obtain ⟨x0,o1,hx0⟩:∃ x o',cT (some l)=(x,o'):=⟨_,_,rfl⟩
     obtain ⟨x1,o2,hx1⟩:∃ x o',cN o1=(x,o'):=⟨_,_,rfl⟩
     obtain ⟨x2,o3,hx2⟩:∃ x o',cN o2=(x,o'):=⟨_,_,rfl⟩
     obtain ⟨x3,o4,hx3⟩:∃ x o',cN o3=(x,o'):=⟨_,_,rfl⟩
     obtain ⟨x4,o5,hx4⟩:∃ x o',cN o4=(x,o'):=⟨_,_,rfl⟩
     obtain ⟨x5,o6,hx5⟩:∃ x o',cN o5=(x,o'):=⟨_,_,rfl⟩
     have hel:cEl (some l)=(⟨x0,x1,x2,x3,x4,x5⟩,o6):=by simp only [cEl,hx0,hx1,hx2,hx3,hx4,hx5]
     have HRS2:Hid (cLs (M - (k+1)) o6 (D++[⟨x0,x1,x2,x3,x4,x5⟩])=RS):=(show _=_ by
      rw [← HRS.out,cLs_go (by omega),hel,show M - (k+1)=M - k - 1 by omega])
     clear hel HRS
     obtain ⟨W0,hW0⟩:∃ W0,W0=wr.alloc (.cells #[.string ⟨#[]⟩,.int .i64 0,.int .i64 0,.int .i64 0,.int .i64 0,.int .i64 0] 109):=⟨_,rfl⟩
     have hb0:Below wr.heap.size wr W0:=by rw [hW0];exact (Below.refl _ _).alloc (Nat.le_refl _) _
     have hsz:=HS.out.2.2.size
     have hcw:c < wr.heap.size:=HS.out.1.lt
     have hpw:pb < wr.heap.size:=(Array.getElem?_eq_some_iff.1 HS.out.2.1).1
     have HE0:Hid (IsQ c s (some l) W0∧Rp c wr W0∧W0.heap[wr.heap.size]?=some (.cells #[.string ⟨#[]⟩,.int .i64 0,.int .i64 0,.int .i64 0,.int .i64 0,.int .i64 0] 109 (0,0))):=⟨HS.out.1.below hb0 hcw,Rp.of_below hb0 (Nat.le_refl _),by rw [hW0];exact heap_alloc_new wr _⟩
     have HC0:Hid (∀ W,IsQ c s (some l) W→Calls Tryz.prog 49 #[.pointer (some ⟨c,0,none⟩)] W fun e w'=>e=.returned (.string x0)∧IsQ c s o1 w'∧Rp c W w'):=fun W hW=>by
      have h:=ctext_any hW hs
      rw [hx0] at h
      exact h
     have HC1:Hid (∀ W,IsQ c s o1 W→Calls Tryz.prog 52 #[.pointer (some ⟨c,0,none⟩)] W fun e w'=>e=.returned (.int .i64 x1)∧IsQ c s o2 w'∧Rp c W w'):=fun W hW=>by
      have h:=cnum_any hW hs
      rw [hx1] at h
      exact h
     have HC2:Hid (∀ W,IsQ c s o2 W→Calls Tryz.prog 52 #[.pointer (some ⟨c,0,none⟩)] W fun e w'=>e=.returned (.int .i64 x2)∧IsQ c s o3 w'∧Rp c W w'):=fun W hW=>by
      have h:=cnum_any hW hs
      rw [hx2] at h
      exact h
     have HC3:Hid (∀ W,IsQ c s o3 W→Calls Tryz.prog 52 #[.pointer (some ⟨c,0,none⟩)] W fun e w'=>e=.returned (.int .i64 x3)∧IsQ c s o4 w'∧Rp c W w'):=fun W hW=>by
      have h:=cnum_any hW hs
      rw [hx3] at h
      exact h
     have HC4:Hid (∀ W,IsQ c s o4 W→Calls Tryz.prog 52 #[.pointer (some ⟨c,0,none⟩)] W fun e w'=>e=.returned (.int .i64 x4)∧IsQ c s o5 w'∧Rp c W w'):=fun W hW=>by
      have h:=cnum_any hW hs
      rw [hx4] at h
      exact h
     have HC5:Hid (∀ W,IsQ c s o5 W→Calls Tryz.prog 52 #[.pointer (some ⟨c,0,none⟩)] W fun e w'=>e=.returned (.int .i64 x5)∧IsQ c s o6 w'∧Rp c W w'):=fun W hW=>by
      have h:=cnum_any hW hs
      rw [hx5] at h
      exact h
     clear hb0 hx0 hx1 hx2 hx3 hx4 hx5
     go_wp2_with fail
     rw [← hW0]
     clear hW0 y2'
     refine (HC0.out W0 HE0.out.1).mono ?_
     rintro e W1 ⟨rfl,h1,h2⟩
     have hm0:W1.heap[wr.heap.size]?=some (.cells #[.string ⟨#[]⟩,.int .i64 0,.int .i64 0,.int .i64 0,.int .i64 0,.int .i64 0] 109 (0,0)):=h2.block' (by omega) HE0.out.2.2
     have HE1:Hid (IsQ c s o1 (W1.setCell ⟨wr.heap.size,0,none⟩ (.string x0))∧Rp c wr (W1.setCell ⟨wr.heap.size,0,none⟩ (.string x0))∧(W1.setCell ⟨wr.heap.size,0,none⟩ (.string x0)).heap[wr.heap.size]?=some (.cells #[.string x0,.int .i64 0,.int .i64 0,.int .i64 0,.int .i64 0,.int .i64 0] 109 (0,0))):=⟨h1.set (by omega) _,(HE0.out.2.1.trans h2).new (Nat.le_refl _) _,Joins.block_setCell (i:=0) hm0 _⟩
     have g0:W1.cell? ⟨wr.heap.size,0,none⟩=some (.string ⟨#[]⟩):=cellsAt hm0 0
     have z0:W1.frozen? ⟨wr.heap.size,0,none⟩=false:=free3 hm0 0
     clear hm0 h1 h2 HC0 HE0
     go_wp2_with fail
     refine (HC1.out (W1.setCell ⟨wr.heap.size,0,none⟩ (.string x0)) HE1.out.1).mono ?_
     rintro e W2 ⟨rfl,h1,h2⟩
     have hm1:W2.heap[wr.heap.size]?=some (.cells #[.string x0,.int .i64 0,.int .i64 0,.int .i64 0,.int .i64 0,.int .i64 0] 109 (0,0)):=h2.block' (by omega) HE1.out.2.2
     have HE2:Hid (IsQ c s o2 (W2.setCell ⟨wr.heap.size,1,none⟩ (.int .i64 x1))∧Rp c wr (W2.setCell ⟨wr.heap.size,1,none⟩ (.int .i64 x1))∧(W2.setCell ⟨wr.heap.size,1,none⟩ (.int .i64 x1)).heap[wr.heap.size]?=some (.cells #[.string x0,.int .i64 x1,.int .i64 0,.int .i64 0,.int .i64 0,.int .i64 0] 109 (0,0))):=⟨h1.set (by omega) _,(HE1.out.2.1.trans h2).new (Nat.le_refl _) _,Joins.block_setCell (i:=1) hm1 _⟩
     have g1:W2.cell? ⟨wr.heap.size,1,none⟩=some (.int .i64 0):=cellsAt hm1 1
     have z1:W2.frozen? ⟨wr.heap.size,1,none⟩=false:=free3 hm1 1
     clear hm1 h1 h2 HC1 HE1
     go_wp2_with fail
     refine (HC2.out (W2.setCell ⟨wr.heap.size,1,none⟩ (.int .i64 x1)) HE2.out.1).mono ?_
     rintro e W3 ⟨rfl,h1,h2⟩
     have hm2:W3.heap[wr.heap.size]?=some (.cells #[.string x0,.int .i64 x1,.int .i64 0,.int .i64 0,.int .i64 0,.int .i64 0] 109 (0,0)):=h2.block' (by omega) HE2.out.2.2
     have HE3:Hid (IsQ c s o3 (W3.setCell ⟨wr.heap.size,2,none⟩ (.int .i64 x2))∧Rp c wr (W3.setCell ⟨wr.heap.size,2,none⟩ (.int .i64 x2))∧(W3.setCell ⟨wr.heap.size,2,none⟩ (.int .i64 x2)).heap[wr.heap.size]?=some (.cells #[.string x0,.int .i64 x1,.int .i64 x2,.int .i64 0,.int .i64 0,.int .i64 0] 109 (0,0))):=⟨h1.set (by omega) _,(HE2.out.2.1.trans h2).new (Nat.le_refl _) _,Joins.block_setCell (i:=2) hm2 _⟩
     have g2:W3.cell? ⟨wr.heap.size,2,none⟩=some (.int .i64 0):=cellsAt hm2 2
     have z2:W3.frozen? ⟨wr.heap.size,2,none⟩=false:=free3 hm2 2
     clear hm2 h1 h2 HC2 HE2
     go_wp2_with fail
     refine (HC3.out (W3.setCell ⟨wr.heap.size,2,none⟩ (.int .i64 x2)) HE3.out.1).mono ?_
     rintro e W4 ⟨rfl,h1,h2⟩
     have hm3:W4.heap[wr.heap.size]?=some (.cells #[.string x0,.int .i64 x1,.int .i64 x2,.int .i64 0,.int .i64 0,.int .i64 0] 109 (0,0)):=h2.block' (by omega) HE3.out.2.2
     have HE4:Hid (IsQ c s o4 (W4.setCell ⟨wr.heap.size,3,none⟩ (.int .i64 x3))∧Rp c wr (W4.setCell ⟨wr.heap.size,3,none⟩ (.int .i64 x3))∧(W4.setCell ⟨wr.heap.size,3,none⟩ (.int .i64 x3)).heap[wr.heap.size]?=some (.cells #[.string x0,.int .i64 x1,.int .i64 x2,.int .i64 x3,.int .i64 0,.int .i64 0] 109 (0,0))):=⟨h1.set (by omega) _,(HE3.out.2.1.trans h2).new (Nat.le_refl _) _,Joins.block_setCell (i:=3) hm3 _⟩
     have g3:W4.cell? ⟨wr.heap.size,3,none⟩=some (.int .i64 0):=cellsAt hm3 3
     have z3:W4.frozen? ⟨wr.heap.size,3,none⟩=false:=free3 hm3 3
     clear hm3 h1 h2 HC3 HE3
     go_wp2_with fail
     refine (HC4.out (W4.setCell ⟨wr.heap.size,3,none⟩ (.int .i64 x3)) HE4.out.1).mono ?_
     rintro e W5 ⟨rfl,h1,h2⟩
     have hm4:W5.heap[wr.heap.size]?=some (.cells #[.string x0,.int .i64 x1,.int .i64 x2,.int .i64 x3,.int .i64 0,.int .i64 0] 109 (0,0)):=h2.block' (by omega) HE4.out.2.2
     have HE5:Hid (IsQ c s o5 (W5.setCell ⟨wr.heap.size,4,none⟩ (.int .i64 x4))∧Rp c wr (W5.setCell ⟨wr.heap.size,4,none⟩ (.int .i64 x4))∧(W5.setCell ⟨wr.heap.size,4,none⟩ (.int .i64 x4)).heap[wr.heap.size]?=some (.cells #[.string x0,.int .i64 x1,.int .i64 x2,.int .i64 x3,.int .i64 x4,.int .i64 0] 109 (0,0))):=⟨h1.set (by omega) _,(HE4.out.2.1.trans h2).new (Nat.le_refl _) _,Joins.block_setCell (i:=4) hm4 _⟩
     have g4:W5.cell? ⟨wr.heap.size,4,none⟩=some (.int .i64 0):=cellsAt hm4 4
     have z4:W5.frozen? ⟨wr.heap.size,4,none⟩=false:=free3 hm4 4
     clear hm4 h1 h2 HC4 HE4
     go_wp2_with fail
     refine (HC5.out (W5.setCell ⟨wr.heap.size,4,none⟩ (.int .i64 x4)) HE5.out.1).mono ?_
     rintro e W6 ⟨rfl,h1,h2⟩
     have hm5:W6.heap[wr.heap.size]?=some (.cells #[.string x0,.int .i64 x1,.int .i64 x2,.int .i64 x3,.int .i64 x4,.int .i64 0] 109 (0,0)):=h2.block' (by omega) HE5.out.2.2
     have HE6:Hid (IsQ c s o6 (W6.setCell ⟨wr.heap.size,5,none⟩ (.int .i64 x5))∧Rp c wr (W6.setCell ⟨wr.heap.size,5,none⟩ (.int .i64 x5))∧(W6.setCell ⟨wr.heap.size,5,none⟩ (.int .i64 x5)).heap[wr.heap.size]?=some (.cells #[.string x0,.int .i64 x1,.int .i64 x2,.int .i64 x3,.int .i64 x4,.int .i64 x5] 109 (0,0))):=⟨h1.set (by omega) _,(HE5.out.2.1.trans h2).new (Nat.le_refl _) _,Joins.block_setCell (i:=5) hm5 _⟩
     have g5:W6.cell? ⟨wr.heap.size,5,none⟩=some (.int .i64 0):=cellsAt hm5 5
     have z5:W6.frozen? ⟨wr.heap.size,5,none⟩=false:=free3 hm5 5
     clear hm5 h1 h2 HC5 HE5
     go_upto_region 51 with fail
     obtain ⟨WX,hWX⟩:∃ WX,WX=W6.setCell ⟨wr.heap.size,5,none⟩ (.int .i64 x5):=⟨_,rfl⟩
     rw [← hWX] at HE6 ⊢
     clear hWX g5 z5
     have hpx:WX.heap[pb]?=some (.cells #[p0,p1,p2,p3,p4,.slice ao lo co] 67 (0,0)):=HE6.out.2.1.block' (by omega) HS.out.2.1
     have HOX:Hid (Own w.heap.size WX (.slice ao lo co) D):=HE6.out.2.1.row HO.out (by omega)
     have q0:WX.cell? ⟨pb,5,none⟩=some (.slice ao lo co):=cellsAt hpx 5
     have HR2X:Hid (R2 c pb w WX):=HS.out.2.2.rp HE6.out.2.1
     have HPX:Hid (WX.heap[pb]?=some (.cells #[p0,p1,p2,p3,p4,.slice ao lo co] 67 (0,0))):=hpx
     have hcx:c < WX.heap.size:=HE6.out.1.lt
     have hszx:w.heap.size≤WX.heap.size:=HR2X.out.size
     have m0:WX.cell? ⟨wr.heap.size,0,none⟩=some (.string x0):=cellsAt HE6.out.2.2 0
     have m1:WX.cell? ⟨wr.heap.size,1,none⟩=some (.int .i64 x1):=cellsAt HE6.out.2.2 1
     have m2:WX.cell? ⟨wr.heap.size,2,none⟩=some (.int .i64 x2):=cellsAt HE6.out.2.2 2
     have m3:WX.cell? ⟨wr.heap.size,3,none⟩=some (.int .i64 x3):=cellsAt HE6.out.2.2 3
     have m4:WX.cell? ⟨wr.heap.size,4,none⟩=some (.int .i64 x4):=cellsAt HE6.out.2.2 4
     have m5:WX.cell? ⟨wr.heap.size,5,none⟩=some (.int .i64 x5):=cellsAt HE6.out.2.2 5
     clear hpx HS HO
     go_wp2_with (at_builtin;refine wpList_append_own _ rfl _ _ 49 rfl w.heap.size 109 i0 _ 6 56 Tryz.underlying49 hi0 hz0 hzs hzb rfl (by omega) _ D.length (fl D) rfl ?hown ⟨WX.heap.size,0,none⟩ 1 1 (Whe.cs ⟨x0,x1,x2,x3,x4,x5⟩) rfl rfl ?hnews (cs_one _) ?h63 ?hbytes ?hbase ?_)
     case hown=>(refine HOX.out.below ?_;repeat (first | exact Below.refl _ _ | refine below_drewN ?_ _ | refine Below.alloc ?_ (by simp) _ | refine Below.drew ?_))
     case hnews=>(intro j u hj;rw [Addr.add_lit];exact (cellsAt (heap_alloc_new WX (.cells #[.string x0,.int .i64 x1,.int .i64 x2,.int .i64 x3,.int .i64 x4,.int .i64 x5] 109)) (0+j)).trans (by simpa [Whe.cs] using hj))
     case h63=>(unfold maxLen;omega)
     case hbytes=>omega
     case hbase=>(simp;omega)
     intro v' w6 r1 r2 r3
     have hb6:Below w.heap.size WX w6:=((Below.refl w.heap.size WX).alloc hszx (.cells #[.string x0,.int .i64 x1,.int .i64 x2,.int .i64 x3,.int .i64 x4,.int .i64 x5] 109)).trans ((Below.refl _ _).grown (w:=WX.alloc (.cells #[.string x0,.int .i64 x1,.int .i64 x2,.int .i64 x3,.int .i64 x4,.int .i64 x5] 109)) ⟨r2.os,r2.tape,r2.output,r2.size,r2.block⟩ (by simp;omega) (fun j hj=>(HOX.out.lt j hj).1))
     have HO6:Hid (Own w.heap.size w6 v' (D++[⟨x0,x1,x2,x3,x4,x5⟩])):=own_snoc (by first | exact r1 | (rw [List.length_append];exact r1))
     obtain ⟨a6,l6,c6,hv6⟩:∃ a l c,v'=.slice a l c:=by
      rcases r1.2 with ⟨hv,_⟩ | ⟨_,_,_,hv,_⟩
      ·exact ⟨_,_,_,hv⟩
      ·exact ⟨_,_,_,hv⟩
     subst hv6
     have hp6:w6.heap[pb]?=some (.cells #[p0,p1,p2,p3,p4,.slice ao lo co] 67 (0,0)):=(hb6.block pb hpl).trans HPX.out
     have HS6:Hid (IsQ c s o6 (w6.setCell ⟨pb,5,none⟩ (.slice a6 l6 c6))∧(w6.setCell ⟨pb,5,none⟩ (.slice a6 l6 c6)).heap[pb]?=some (.cells #[p0,p1,p2,p3,p4,.slice a6 l6 c6] 67 (0,0))∧R2 c pb w (w6.setCell ⟨pb,5,none⟩ (.slice a6 l6 c6))):=⟨(HE6.out.1.below hb6 hcl).set hcp _,Joins.block_setCell (i:=5) hp6 _,(HR2X.out.below hb6 (Nat.le_refl _)).set _ _⟩
     have HO7:Hid (Own w.heap.size (w6.setCell ⟨pb,5,none⟩ (.slice a6 l6 c6)) (.slice a6 l6 c6) (D++[⟨x0,x1,x2,x3,x4,x5⟩])):=ownsRow_setCell_below HO6.out (a:=⟨pb,5,none⟩) hpl _
     have q6:w6.cell? ⟨pb,5,none⟩=some (.slice ao lo co):=cellsAt hp6 5
     have z6:w6.frozen? ⟨pb,5,none⟩=false:=free3 hp6 5
     clear r1 r2 r3 hb6 HO6 HOX HE6 HR2X HPX hp6 m0 m1 m2 m3 m4 m5 q0
     go_wp2_with fail
     exact ⟨⟨k+1,D++[⟨x0,x1,x2,x3,x4,x5⟩],o6,a6,l6,c6,by omega,by rw [List.length_append,HDK.out];rfl,by go_num,HRS2,HS6,HO7⟩,by simp [intOf];omega⟩
  ·have hd:decide ((k:Int) < (M:Int))=false:=by simp;omega
   have HFN:Hid (RS=(D,o)):=(show _=_ by rw [← HRS.out,cLs_end (.inl (by omega))])
   clear HRS y2
   go_wp2_with fail
   refine HQN.out _ _ _ _ _ _ _ _ _ _ _ _ _ _ _ _ _ _ _ _ _ _ _ _ _ _ _ _ _ _ _ _ _ _ _ _ _ _ _ _ _ _ _ ao lo co wr ?_ HS.out.2.1 ?_ HS.out.2.2
   ·show IsQ _ _ _ _
    rw [HFN.out];exact HS.out.1
   ·show Own _ _ _ _
    rw [HFN.out];exact HO.out
end Wh
end Go.Proofs.YtffdoiokmiklgaaGreatDoor
namespace Go.Proofs.YtffdoiokmiklgaaGreatDoor
open Go.RowKit
theorem R2.row {c p base:Nat} {w w':World} {T:TypeId} {k n:Nat} {v:Value} {cs:List Value} (h:R2 c p w w') (ho:w.ownsRow base T k v n cs) (hc:c < base) (hp:p < base):w'.ownsRow base T k v n cs:=
 row_keep (fun b hb hl=>h.block b hl (by omega) (by omega)) ho
theorem R2.trans {c p:Nat} {w w1 w2:World} (h:R2 c p w w1) (h2:R2 c p w1 w2):R2 c p w w2:=
 ⟨h2.os.trans h.os,h2.tape.trans h.tape,h2.output.trans h.output,Nat.le_trans h.size h2.size,fun k hk hc hp=>(h2.block k (Nat.lt_of_lt_of_le hk h.size) hc hp).trans (h.block k hk hc hp)⟩
theorem R2.block' {c p k:Nat} {w w':World} {b:Obj} (h:R2 c p w w') (hc:k≠c) (hp:k≠p) (hb:w.heap[k]?=some b):w'.heap[k]?=some b:=(h.block k (Array.getElem?_eq_some_iff.1 hb).1 hc hp).trans hb
theorem mem_flat {α:Type} (f:α→List UInt8) {m:α}:∀ {L:List α},m∈L→(f m).length≤(L.flatMap f).length
 | x :: L,h=>by
   rw [List.flatMap_cons,List.length_append]
   rcases List.mem_cons.1 h with rfl | h
   ·omega
   ·have:=mem_flat f h
    omega
theorem txt_le (s:ByteArray):s.size≤(txtB s).length:=by
 unfold txtB
 rw [List.length_append]
 have:s.data.toList.length=s.size:=rfl
 omega
theorem cPk_in {l r:List UInt8} (h:(cPk (some l)).2=some r) (hl:l.length≤16777216):(cPk (some l)).1.frm.size≤maxLen∧(∀ m∈(cPk (some l)).1.ms,m.name.size≤maxLen)∧(∀ m∈(cPk (some l)).1.sv,m.node.size≤maxLen∧m.idn.size≤maxLen∧m.name.size≤maxLen∧m.tag.size≤maxLen)∧(∀ m∈(cPk (some l)).1.gw,m.centre.size≤maxLen)∧(∀ m∈(cPk (some l)).1.wh,m.node.size≤maxLen):=by
 have e:=cPk_eq h
 rw [Option.some.injEq] at e
 generalize (cPk (some l)).1=p at *
 have e2:=congrArg List.length e
 unfold Pk.B at e2
 simp only [List.length_append] at e2
 unfold maxLen
 refine ⟨?_,fun m hm=>?_,fun m hm=>?_,fun m hm=>?_,fun m hm=>?_⟩
 ·have:=txt_le p.frm;omega
 ·have h1:=mem_flat elB hm
  have h2:m.name.size≤(elB m).length:=by
   unfold elB
   simp only [List.length_append]
   have:=txt_le m.name
   omega
  omega
 ·have h1:=mem_flat Sv.elB hm
  have h2:m.node.size≤(Sv.elB m).length∧m.idn.size≤(Sv.elB m).length∧m.name.size≤(Sv.elB m).length∧m.tag.size≤(Sv.elB m).length:=by
   unfold Sv.elB
   simp only [List.length_append]
   have h2:=txt_le m.node
   have h3:=txt_le m.idn
   have h4:=txt_le m.name
   have h5:=txt_le m.tag
   omega
  omega
 ·have h1:=mem_flat Gw.elB hm
  have h2:m.centre.size≤(Gw.elB m).length:=by
   unfold Gw.elB
   simp only [List.length_append]
   have:=txt_le m.centre
   omega
  omega
 ·have h1:=mem_flat Wh.elB hm
  have h2:m.node.size≤(Wh.elB m).length:=by
   unfold Wh.elB
   simp only [List.length_append]
   have:=txt_le m.node
   omega
  omega
set_option maxHeartbeats 100000000 in
set_option maxRecDepth 1000000 in
theorem pof_any (l:List UInt8) (w:World) (hs:l.length≤16777216) :
 Calls Tryz.prog 23 #[.string (bstr l)] w (ReadSays w (rdR l)):=by
 obtain ⟨s,hss⟩:∃ s,s=bstr l:=⟨_,rfl⟩
 have hsz:s.size≤16777216:=by rw [hss,bstr_size];exact hs
 have hsl:s.data.toList=l:=by rw [hss];exact bstr_list l
 have HSL:Hid (s.data.toList=l):=hsl
 rw [← hss]
 obtain ⟨x0,o1,e0⟩:∃ x o,cT (some l)=(x,o):=⟨_,_,rfl⟩
 obtain ⟨x1,o2,e1⟩:∃ x o,cY o1=(x,o):=⟨_,_,rfl⟩
 obtain ⟨D1,o3,e2⟩:∃ x o,cList 20 o2=(x,o):=⟨_,_,rfl⟩
 obtain ⟨D2,o4,e3⟩:∃ x o,Sv.cList 40 o3=(x,o):=⟨_,_,rfl⟩
 obtain ⟨D3,o5,e4⟩:∃ x o,Gw.cList 6 o4=(x,o):=⟨_,_,rfl⟩
 obtain ⟨D4,o6,e5⟩:∃ x o,Wh.cList 20 o5=(x,o):=⟨_,_,rfl⟩
 have hpk:cPk (some l)=(⟨x0,x1,D1,D2,D3,D4⟩,o6):=by simp only [cPk,e0,e1,e2,e3,e4,e5]
 obtain ⟨RR,hRR⟩:∃ R,R=rdR l:=⟨_,rfl⟩
 have HRR:Hid (RR=if o6=some []∧(Pk.mk x0 x1 D1 D2 D3 D4).e=0 then some ⟨x0,x1,D1,D2,D3,D4⟩ else none):=by
  show _=_
  rw [hRR,← cPk_rdR,hpk]
 have HIN:Hid (∀ r,o6=some r→x0.size≤maxLen∧(∀ m∈D1,m.name.size≤maxLen)∧(∀ m∈D2,m.node.size≤maxLen∧m.idn.size≤maxLen∧m.name.size≤maxLen∧m.tag.size≤maxLen)∧(∀ m∈D3,m.centre.size≤maxLen)∧(∀ m∈D4,m.node.size≤maxLen)):=fun r hr=>by
  have h:=cPk_in (l:=l) (r:=r) (by rw [hpk];exact hr) hs
  rw [hpk] at h
  exact h
 rw [← hRR]
 clear hRR hpk
 obtain ⟨W0,hW0⟩:∃ W0,W0=((w.alloc (.cells #[.string ⟨#[]⟩,.bool false,.slice none 0 0,.slice none 0 0,.slice none 0 0,.slice none 0 0] 67)).alloc (.cells #[.string s,.int .i64 0,.bool false] 102)).alloc (.cells #[.string ⟨#[]⟩,.bool false,.slice none 0 0,.slice none 0 0,.slice none 0 0,.slice none 0 0] 67):=⟨_,rfl⟩
 have hb0:Below w.heap.size w W0:=by rw [hW0];exact (((Below.refl _ _).alloc (Nat.le_refl _) _).alloc (by simp) _).alloc (by simp;omega) _
 have hs0:W0.heap.size=w.heap.size+3:=by rw [hW0];simp
 have k0:W0.heap[w.heap.size]?=some (.cells #[.string ⟨#[]⟩,.bool false,.slice none 0 0,.slice none 0 0,.slice none 0 0,.slice none 0 0] 67 (0,0)):=by
  rw [hW0]
  exact (Lib.alloc_old _ _ _ (by simp;omega)).trans ((Lib.alloc_old _ _ _ (by simp)).trans (heap_alloc_new w _))
 have k1:W0.heap[w.heap.size+1]?=some (.cells #[.string s,.int .i64 0,.bool false] 102 (0,0)):=by
  rw [hW0]
  have:=heap_alloc_new (w.alloc (.cells #[.string ⟨#[]⟩,.bool false,.slice none 0 0,.slice none 0 0,.slice none 0 0,.slice none 0 0] 67)) (.cells #[.string s,.int .i64 0,.bool false] 102)
  exact (Lib.alloc_old _ _ _ (by simp)).trans (by simpa using this)
 have k2:W0.heap[w.heap.size+2]?=some (.cells #[.string ⟨#[]⟩,.bool false,.slice none 0 0,.slice none 0 0,.slice none 0 0,.slice none 0 0] 67 (0,0)):=by
  rw [hW0]
  have:=heap_alloc_new ((w.alloc (.cells #[.string ⟨#[]⟩,.bool false,.slice none 0 0,.slice none 0 0,.slice none 0 0,.slice none 0 0] 67)).alloc (.cells #[.string s,.int .i64 0,.bool false] 102)) (.cells #[.string ⟨#[]⟩,.bool false,.slice none 0 0,.slice none 0 0,.slice none 0 0,.slice none 0 0] 67)
  simpa using this
 obtain ⟨c,hc⟩:∃ c,c=w.heap.size+1:=⟨_,rfl⟩
 obtain ⟨pb,hpb⟩:∃ pb,pb=w.heap.size+2:=⟨_,rfl⟩
 rw [← hc] at k1
 rw [← hpb] at k2
 have hcp:c≠pb:=by omega
 have HQ0:Hid (IsQ c s (some l) W0):=⟨0,Nat.zero_le _,fun l' hl'=>by simp only [Option.some.injEq] at hl';rw [List.drop_zero,← hl'];exact HSL.out,k1⟩
 have HP0:Hid (W0.heap[pb]?=some (.cells #[.string ⟨#[]⟩,.bool false,.slice none 0 0,.slice none 0 0,.slice none 0 0,.slice none 0 0] 67 (0,0))):=k2
 have HR0:Hid (R2 c pb W0 W0):=R2.refl _ _ _
 have HS0:Hid (W0.heap.size=w.heap.size+3):=hs0
 have HCC:Hid (c=w.heap.size+1∧pb=w.heap.size+2):=⟨hc,hpb⟩
 have HRB:Hid (∀ W,R2 c pb W0 W→W.heap[w.heap.size]?=some (.cells #[.string ⟨#[]⟩,.bool false,.slice none 0 0,.slice none 0 0,.slice none 0 0,.slice none 0 0] 67 (0,0))∧Below w.heap.size w W):=fun W hW=>⟨hW.block' (by omega) (by omega) k0,hb0.trans ⟨hW.os,hW.tape,hW.output,hW.size,fun k hk=>hW.block k (by omega) (by omega) (by omega)⟩⟩
 have HT0:Hid (∀ W,IsQ c s (some l) W→Calls Tryz.prog 49 #[.pointer (some ⟨c,0,none⟩)] W fun e w'=>e=.returned (.string x0)∧IsQ c s o1 w'∧Rp c W w'):=fun W hW=>by
  have h:=ctext_any hW hsz
  rw [e0] at h
  exact h
 have HT1:Hid (∀ W,IsQ c s o1 W→Calls Tryz.prog 50 #[.pointer (some ⟨c,0,none⟩)] W fun e w'=>e=.returned (.bool x1)∧IsQ c s o2 w'∧Rp c W w'):=fun W hW=>by
  have h:=cyes_any hW hsz
  rw [e1] at h
  exact h
 obtain ⟨M0,c0,hM0,HCT0,hL0⟩:∃ (M:Nat) (co:Option (List UInt8)),M≤20∧Hid (∀ W,IsQ c s o2 W→Calls Tryz.prog 51 #[.pointer (some ⟨c,0,none⟩),.int .i64 20] W fun e w'=>e=.returned (.int .i64 (M:Int))∧IsQ c s co w'∧Rp c W w')∧Hid (cLs M co []=(D1,o3)):=by
  have h0:=cC_le (m:=20) (by omega) o2
  refine ⟨(cC 20 o2).1.toNat,(cC 20 o2).2,by omega,fun W hW=>?_,e2⟩
  have h:=ccount_any 20 hW hsz (by omega)
  rw [show (cC 20 o2).1=(((cC 20 o2).1.toNat:Nat):Int) by omega] at h
  exact h
 obtain ⟨M1,c1,hM1,HCT1,hL1⟩:∃ (M:Nat) (co:Option (List UInt8)),M≤40∧Hid (∀ W,IsQ c s o3 W→Calls Tryz.prog 51 #[.pointer (some ⟨c,0,none⟩),.int .i64 40] W fun e w'=>e=.returned (.int .i64 (M:Int))∧IsQ c s co w'∧Rp c W w')∧Hid (Sv.cLs M co []=(D2,o4)):=by
  have h0:=cC_le (m:=40) (by omega) o3
  refine ⟨(cC 40 o3).1.toNat,(cC 40 o3).2,by omega,fun W hW=>?_,e3⟩
  have h:=ccount_any 40 hW hsz (by omega)
  rw [show (cC 40 o3).1=(((cC 40 o3).1.toNat:Nat):Int) by omega] at h
  exact h
 obtain ⟨M2,c2,hM2,HCT2,hL2⟩:∃ (M:Nat) (co:Option (List UInt8)),M≤6∧Hid (∀ W,IsQ c s o4 W→Calls Tryz.prog 51 #[.pointer (some ⟨c,0,none⟩),.int .i64 6] W fun e w'=>e=.returned (.int .i64 (M:Int))∧IsQ c s co w'∧Rp c W w')∧Hid (Gw.cLs M co []=(D3,o5)):=by
  have h0:=cC_le (m:=6) (by omega) o4
  refine ⟨(cC 6 o4).1.toNat,(cC 6 o4).2,by omega,fun W hW=>?_,e4⟩
  have h:=ccount_any 6 hW hsz (by omega)
  rw [show (cC 6 o4).1=(((cC 6 o4).1.toNat:Nat):Int) by omega] at h
  exact h
 obtain ⟨M3,c3,hM3,HCT3,hL3⟩:∃ (M:Nat) (co:Option (List UInt8)),M≤20∧Hid (∀ W,IsQ c s o5 W→Calls Tryz.prog 51 #[.pointer (some ⟨c,0,none⟩),.int .i64 20] W fun e w'=>e=.returned (.int .i64 (M:Int))∧IsQ c s co w'∧Rp c W w')∧Hid (Wh.cLs M co []=(D4,o6)):=by
  have h0:=cC_le (m:=20) (by omega) o5
  refine ⟨(cC 20 o5).1.toNat,(cC 20 o5).2,by omega,fun W hW=>?_,e5⟩
  have h:=ccount_any 20 hW hsz (by omega)
  rw [show (cC 20 o5).1=(((cC 20 o5).1.toNat:Nat):Int) by omega] at h
  exact h
 clear e0 e1 e2 e3 e4 e5 hsl hss hb0 hs0 k0 k1 k2 hs
 clear hc hpb
 go_enter Tryz.func23,Tryz.ntmps23
 go_upto_region 3 with fail
 rw [← hW0]
 clear hW0
 rw [← HCC.out.1,show c+1=pb by have:=HCC.out;omega]
 go_wp2_with fail
 refine (HT0.out W0 HQ0.out).mono ?_
 rintro e W1 ⟨rfl,h1,h2⟩
 have hp1:W1.heap[pb]?=some (.cells #[.string ⟨#[]⟩,.bool false,.slice none 0 0,.slice none 0 0,.slice none 0 0,.slice none 0 0] 67 (0,0)):=h2.block' (by omega) HP0.out
 have HS1:Hid (IsQ c s o1 (W1.setCell ⟨pb,0,none⟩ (.string x0))∧(W1.setCell ⟨pb,0,none⟩ (.string x0)).heap[pb]?=some (.cells #[.string x0,.bool false,.slice none 0 0,.slice none 0 0,.slice none 0 0,.slice none 0 0] 67 (0,0))∧R2 c pb W0 (W1.setCell ⟨pb,0,none⟩ (.string x0))):=⟨h1.set hcp _,Joins.block_setCell (i:=0) hp1 _,(HR0.out.rp h2).set _ _⟩
 have g0:W1.cell? ⟨pb,0,none⟩=some (.string ⟨#[]⟩):=cellsAt hp1 0
 have z0:W1.frozen? ⟨pb,0,none⟩=false:=free3 hp1 0
 clear h1 h2 hp1 HT0 HQ0 HP0
 go_wp2_with fail
 obtain ⟨W1s,hW1s⟩:∃ W,W=W1.setCell ⟨pb,0,none⟩ (.string x0):=⟨_,rfl⟩
 rw [← hW1s] at HS1 ⊢
 clear hW1s g0 z0
 refine (HT1.out W1s HS1.out.1).mono ?_
 rintro e W2 ⟨rfl,h1,h2⟩
 have hp1:W2.heap[pb]?=some (.cells #[.string x0,.bool false,.slice none 0 0,.slice none 0 0,.slice none 0 0,.slice none 0 0] 67 (0,0)):=h2.block' (by omega) HS1.out.2.1
 have HS2:Hid (IsQ c s o2 (W2.setCell ⟨pb,1,none⟩ (.bool x1))∧(W2.setCell ⟨pb,1,none⟩ (.bool x1)).heap[pb]?=some (.cells #[.string x0,.bool x1,.slice none 0 0,.slice none 0 0,.slice none 0 0,.slice none 0 0] 67 (0,0))∧R2 c pb W0 (W2.setCell ⟨pb,1,none⟩ (.bool x1))):=⟨h1.set hcp _,Joins.block_setCell (i:=1) hp1 _,(HS1.out.2.2.rp h2).set _ _⟩
 have g0:W2.cell? ⟨pb,1,none⟩=some (.bool false):=cellsAt hp1 1
 have z0:W2.frozen? ⟨pb,1,none⟩=false:=free3 hp1 1
 clear h1 h2 hp1 HT1 HS1
 go_wp2_with fail
 obtain ⟨W2s,hW2s⟩:∃ W,W=W2.setCell ⟨pb,1,none⟩ (.bool x1):=⟨_,rfl⟩
 rw [← hW2s] at HS2 ⊢
 clear hW2s g0 z0
 refine (HCT0.out W2s HS2.out.1).mono ?_
 rintro e A0 ⟨rfl,h1,h2⟩
 have HA0:Hid (IsQ c s c0 A0∧A0.heap[pb]?=some (.cells #[.string x0,.bool x1,.slice none 0 0,.slice none 0 0,.slice none 0 0,.slice none 0 0] 67 (0,0))∧R2 c pb W0 A0):=⟨h1,h2.block' (by omega) HS2.out.2.1,HS2.out.2.2.rp h2⟩
 clear h1 h2 HCT0 HS2
 go_upto_block 0 with fail
 refine loop_c A0 s c pb M0 c0 (.string x0) (.bool x1) (.slice none 0 0) (.slice none 0 0) (.slice none 0 0) hsz hM0 HA0.out.1 hcp HA0.out.2.1 _ ?_
 intro y7 y8 y26 y27 y28 y29 y30 y31 y32 y33 y34 y35 y36 y37 y38 y39 y40 y41 y42 y43 y44 y45 y46 y47 y48 y49 y50 y51 y52 y53 y54 y55 y56 y57 y58 a2 l2 k2 B0 h1 h2 h3 h4
 have HB0:Hid (IsQ c s o3 B0∧B0.heap[pb]?=some (.cells #[.string x0,.bool x1,.slice a2 l2 k2,.slice none 0 0,.slice none 0 0,.slice none 0 0] 67 (0,0))∧R2 c pb W0 B0):=⟨by have h:=h1.out;rw [hL0.out] at h;exact h,h2.out,HA0.out.2.2.trans h4.out⟩
 have hz0:w.heap.size+3≤A0.heap.size:=by have h5:=HA0.out.2.2.size;have h6:=HS0.out;omega
 have HO0_0:Hid (Own (w.heap.size+3) B0 (.slice a2 l2 k2) D1):=(Own.mono (by have h:=h3.out;rw [hL0.out] at h;exact h) hz0)
 clear h1 h2 h3 h4 HA0 hL0
 go_wp2_with fail
 refine (HCT1.out B0 HB0.out.1).mono ?_
 rintro e A1 ⟨rfl,h1,h2⟩
 have HA1:Hid (IsQ c s c1 A1∧A1.heap[pb]?=some (.cells #[.string x0,.bool x1,.slice a2 l2 k2,.slice none 0 0,.slice none 0 0,.slice none 0 0] 67 (0,0))∧R2 c pb W0 A1):=⟨h1,h2.block' (by omega) HB0.out.2.1,HB0.out.2.2.rp h2⟩
 have HX1_0:Hid (Own (w.heap.size+3) A1 (.slice a2 l2 k2) D1):=h2.row HO0_0.out (by have:=HCC.out;omega)
 clear h1 h2 HCT1 HB0
 go_upto_block 2 with fail
 refine Sv.loop_c A1 s c pb M1 c1 (.string x0) (.bool x1) (.slice a2 l2 k2) (.slice none 0 0) (.slice none 0 0) hsz hM1 HA1.out.1 hcp HA1.out.2.1 _ ?_
 intro y9 y10 y61 y62 y63 y64 y65 y66 y67 y68 y69 y70 y71 y72 y73 y74 y75 y76 y77 y78 y79 y80 y81 y82 y83 y84 y85 y86 y87 y88 y89 y90 y91 y92 y93 y94 y95 y96 y97 y98 y99 y100 y101 y102 y103 y104 y105 a3 l3 k3 B1 h1 h2 h3 h4
 have HB1:Hid (IsQ c s o4 B1∧B1.heap[pb]?=some (.cells #[.string x0,.bool x1,.slice a2 l2 k2,.slice a3 l3 k3,.slice none 0 0,.slice none 0 0] 67 (0,0))∧R2 c pb W0 B1):=⟨by have h:=h1.out;rw [hL1.out] at h;exact h,h2.out,HA1.out.2.2.trans h4.out⟩
 have hz1:w.heap.size+3≤A1.heap.size:=by have h5:=HA1.out.2.2.size;have h6:=HS0.out;omega
 have HO1_1:Hid (Sv.Own (w.heap.size+3) B1 (.slice a3 l3 k3) D2):=(Sv.Own.mono (by have h:=h3.out;rw [hL1.out] at h;exact h) hz1)
 have HO1_0:Hid (Own (w.heap.size+3) B1 (.slice a2 l2 k2) D1):=h4.out.row HX1_0.out (by have:=HCC.out;omega) (by have:=HCC.out;omega)
 clear h1 h2 h3 h4 HA1 hL1
 go_wp2_with fail
 refine (HCT2.out B1 HB1.out.1).mono ?_
 rintro e A2 ⟨rfl,h1,h2⟩
 have HA2:Hid (IsQ c s c2 A2∧A2.heap[pb]?=some (.cells #[.string x0,.bool x1,.slice a2 l2 k2,.slice a3 l3 k3,.slice none 0 0,.slice none 0 0] 67 (0,0))∧R2 c pb W0 A2):=⟨h1,h2.block' (by omega) HB1.out.2.1,HB1.out.2.2.rp h2⟩
 have HX2_0:Hid (Own (w.heap.size+3) A2 (.slice a2 l2 k2) D1):=h2.row HO1_0.out (by have:=HCC.out;omega)
 have HX2_1:Hid (Sv.Own (w.heap.size+3) A2 (.slice a3 l3 k3) D2):=h2.row HO1_1.out (by have:=HCC.out;omega)
 clear h1 h2 HCT2 HB1
 go_upto_block 4 with fail
 refine Gw.loop_c A2 s c pb M2 c2 (.string x0) (.bool x1) (.slice a2 l2 k2) (.slice a3 l3 k3) (.slice none 0 0) hsz hM2 HA2.out.1 hcp HA2.out.2.1 _ ?_
 intro y11 y12 y108 y109 y110 y111 y112 y113 y114 y115 y116 y117 y118 y119 y120 y121 y122 y123 y124 y125 y126 y127 y128 y129 y130 y131 y132 y133 y134 a4 l4 k4 B2 h1 h2 h3 h4
 have HB2:Hid (IsQ c s o5 B2∧B2.heap[pb]?=some (.cells #[.string x0,.bool x1,.slice a2 l2 k2,.slice a3 l3 k3,.slice a4 l4 k4,.slice none 0 0] 67 (0,0))∧R2 c pb W0 B2):=⟨by have h:=h1.out;rw [hL2.out] at h;exact h,h2.out,HA2.out.2.2.trans h4.out⟩
 have hz2:w.heap.size+3≤A2.heap.size:=by have h5:=HA2.out.2.2.size;have h6:=HS0.out;omega
 have HO2_2:Hid (Gw.Own (w.heap.size+3) B2 (.slice a4 l4 k4) D3):=(Gw.Own.mono (by have h:=h3.out;rw [hL2.out] at h;exact h) hz2)
 have HO2_0:Hid (Own (w.heap.size+3) B2 (.slice a2 l2 k2) D1):=h4.out.row HX2_0.out (by have:=HCC.out;omega) (by have:=HCC.out;omega)
 have HO2_1:Hid (Sv.Own (w.heap.size+3) B2 (.slice a3 l3 k3) D2):=h4.out.row HX2_1.out (by have:=HCC.out;omega) (by have:=HCC.out;omega)
 clear h1 h2 h3 h4 HA2 hL2
 go_wp2_with fail
 refine (HCT3.out B2 HB2.out.1).mono ?_
 rintro e A3 ⟨rfl,h1,h2⟩
 have HA3:Hid (IsQ c s c3 A3∧A3.heap[pb]?=some (.cells #[.string x0,.bool x1,.slice a2 l2 k2,.slice a3 l3 k3,.slice a4 l4 k4,.slice none 0 0] 67 (0,0))∧R2 c pb W0 A3):=⟨h1,h2.block' (by omega) HB2.out.2.1,HB2.out.2.2.rp h2⟩
 have HX3_0:Hid (Own (w.heap.size+3) A3 (.slice a2 l2 k2) D1):=h2.row HO2_0.out (by have:=HCC.out;omega)
 have HX3_1:Hid (Sv.Own (w.heap.size+3) A3 (.slice a3 l3 k3) D2):=h2.row HO2_1.out (by have:=HCC.out;omega)
 have HX3_2:Hid (Gw.Own (w.heap.size+3) A3 (.slice a4 l4 k4) D3):=h2.row HO2_2.out (by have:=HCC.out;omega)
 clear h1 h2 HCT3 HB2
 go_upto_block 6 with fail
 refine Wh.loop_c A3 s c pb M3 c3 (.string x0) (.bool x1) (.slice a2 l2 k2) (.slice a3 l3 k3) (.slice a4 l4 k4) hsz hM3 HA3.out.1 hcp HA3.out.2.1 _ ?_
 intro y13 y14 y137 y138 y139 y140 y141 y142 y143 y144 y145 y146 y147 y148 y149 y150 y151 y152 y153 y154 y155 y156 y157 y158 y159 y160 y161 y162 y163 y164 y165 y166 y167 y168 y169 y170 y171 y172 y173 y174 y175 y176 y177 a5 l5 k5 B3 h1 h2 h3 h4
 have HB3:Hid (IsQ c s o6 B3∧B3.heap[pb]?=some (.cells #[.string x0,.bool x1,.slice a2 l2 k2,.slice a3 l3 k3,.slice a4 l4 k4,.slice a5 l5 k5] 67 (0,0))∧R2 c pb W0 B3):=⟨by have h:=h1.out;rw [hL3.out] at h;exact h,h2.out,HA3.out.2.2.trans h4.out⟩
 have hz3:w.heap.size+3≤A3.heap.size:=by have h5:=HA3.out.2.2.size;have h6:=HS0.out;omega
 have HO3_3:Hid (Wh.Own (w.heap.size+3) B3 (.slice a5 l5 k5) D4):=(Wh.Own.mono (by have h:=h3.out;rw [hL3.out] at h;exact h) hz3)
 have HO3_0:Hid (Own (w.heap.size+3) B3 (.slice a2 l2 k2) D1):=h4.out.row HX3_0.out (by have:=HCC.out;omega) (by have:=HCC.out;omega)
 have HO3_1:Hid (Sv.Own (w.heap.size+3) B3 (.slice a3 l3 k3) D2):=h4.out.row HX3_1.out (by have:=HCC.out;omega) (by have:=HCC.out;omega)
 have HO3_2:Hid (Gw.Own (w.heap.size+3) B3 (.slice a4 l4 k4) D3):=h4.out.row HX3_2.out (by have:=HCC.out;omega) (by have:=HCC.out;omega)
 clear h1 h2 h3 h4 HA3 hL3
 go_upto_region 52 with fail
 obtain ⟨a,ha,hl,hq⟩:=HB3.out.1
 obtain ⟨y0,y1,y2⟩:=cells3 hq
 clear hq
 cases o6 with
 | none=>
   have y2':B3.cell? ⟨c,2,none⟩=some (.bool true):=y2
   clear y2 hl
   have hkr:=(HRB.out B3 HB3.out.2.2).1
   have hbw:=(HRB.out B3 HB3.out.2.2).2
   obtain ⟨WE,hWE⟩:∃ WE,WE=setAll w.heap.size [.string ⟨#[]⟩,.bool false,.slice none 0 0,.slice none 0 0,.slice none 0 0,.slice none 0 0] 0 B3:=⟨_,rfl⟩
   have hke:WE.heap[w.heap.size]?=some (.cells #[.string ⟨#[]⟩,.bool false,.slice none 0 0,.slice none 0 0,.slice none 0 0,.slice none 0 0] 67 (0,0)):=by rw [hWE];exact setAll6 hkr _ _ _ _ _ _
   have HRES:Hid (ReadSays w RR (.returned (.tuple #[.agg #[.string ⟨#[]⟩,.bool false,.slice none 0 0,.slice none 0 0,.slice none 0 0,.slice none 0 0],.int .i64 1])) WE):=⟨by rw [hWE];exact setAll_below (Nat.le_refl _) _ _ hbw,.inr ⟨HRR.out.trans (if_neg (fun h=>by cases h.1)),rfl⟩⟩
   obtain ⟨b0,b1,b2,b3,b4,b5⟩:=cells6p hkr
   obtain ⟨z0,z1,z2,z3,z4,z5⟩:=free6 hkr
   obtain ⟨g0,g1,g2,g3,g4,g5⟩:=cells6p hke
   clear hkr hbw hke
   go_wp2_with fail
   simp only [setAll,Nat.zero_add,Nat.reduceAdd] at hWE
   rw [← hWE]
   clear hWE b0 b1 b2 b3 b4 b5 z0 z1 z2 z3 z4 z5
   exact bodyPost_ret (v:=.tuple #[.agg #[.string ⟨#[]⟩,.bool false,.slice none 0 0,.slice none 0 0,.slice none 0 0,.slice none 0 0],.int .i64 1]) (by simp [results,Tryz.results23,go_sem,g0,g1,g2,g3,g4,g5]) rfl HRES.out
 | some r=>
   have y2':B3.cell? ⟨c,2,none⟩=some (.bool false):=y2
   clear y2
   have hdr:=hl r rfl
   clear hl
   cases r with
   | cons x rs=>
     have hne:a≠s.size:=fun h=>by rw [h,drop_end (Nat.le_refl _)] at hdr;cases hdr
     have hd:((a:Int) != (s.size:Int))=true:=by simp;omega
     clear hne hdr
     have hkr:=(HRB.out B3 HB3.out.2.2).1
     have hbw:=(HRB.out B3 HB3.out.2.2).2
     obtain ⟨WE,hWE⟩:∃ WE,WE=setAll w.heap.size [.string ⟨#[]⟩,.bool false,.slice none 0 0,.slice none 0 0,.slice none 0 0,.slice none 0 0] 0 B3:=⟨_,rfl⟩
     have hke:WE.heap[w.heap.size]?=some (.cells #[.string ⟨#[]⟩,.bool false,.slice none 0 0,.slice none 0 0,.slice none 0 0,.slice none 0 0] 67 (0,0)):=by rw [hWE];exact setAll6 hkr _ _ _ _ _ _
     have HRES:Hid (ReadSays w RR (.returned (.tuple #[.agg #[.string ⟨#[]⟩,.bool false,.slice none 0 0,.slice none 0 0,.slice none 0 0,.slice none 0 0],.int .i64 1])) WE):=⟨by rw [hWE];exact setAll_below (Nat.le_refl _) _ _ hbw,.inr ⟨HRR.out.trans (if_neg (fun h=>by have h1:=h.1;simp at h1)),rfl⟩⟩
     obtain ⟨b0,b1,b2,b3,b4,b5⟩:=cells6p hkr
     obtain ⟨z0,z1,z2,z3,z4,z5⟩:=free6 hkr
     obtain ⟨g0,g1,g2,g3,g4,g5⟩:=cells6p hke
     clear hkr hbw hke
     go_wp2_with fail
     simp only [setAll,Nat.zero_add,Nat.reduceAdd] at hWE
     rw [← hWE]
     clear hWE b0 b1 b2 b3 b4 b5 z0 z1 z2 z3 z4 z5
     exact bodyPost_ret (v:=.tuple #[.agg #[.string ⟨#[]⟩,.bool false,.slice none 0 0,.slice none 0 0,.slice none 0 0,.slice none 0 0],.int .i64 1]) (by simp [results,Tryz.results23,go_sem,g0,g1,g2,g3,g4,g5]) rfl HRES.out
   | nil=>
     have hea:a=s.size:=by
      have h1:=congrArg List.length hdr
      rw [List.length_drop] at h1
      have h2:s.data.toList.length=s.size:=rfl
      simp only [List.length_nil] at h1
      omega
     have hd:((a:Int) != (s.size:Int))=false:=by simp [hea]
     obtain ⟨i0,i1,i2,i3,i4⟩:=HIN.out [] rfl
     have his:PkIs B3 (Pk.mk x0 x1 D1 D2 D3 D4) (.slice a2 l2 k2) (.slice a3 l3 k3) (.slice a4 l4 k4) (.slice a5 l5 k5):=⟨own_names HO3_0.out i1,Sv.own_names HO3_1.out i2,Gw.own_names HO3_2.out i3,Wh.own_names HO3_3.out i4,i0,roomy_own HO3_0.out⟩
     have HCK:Hid (Calls Tryz.prog 53 #[.agg #[.string x0,.bool x1,.slice a2 l2 k2,.slice a3 l3 k3,.slice a4 l4 k4,.slice a5 l5 k5]] B3 fun e w'=>e=.returned (.int .i64 (Pk.mk x0 x1 D1 D2 D3 D4).e)∧Below B3.heap.size B3 w'):=refPacket_any _ _ _ _ _ B3 his
     have HPO:Hid (PkOwn (w.heap.size+3) B3 (Pk.mk x0 x1 D1 D2 D3 D4) (.slice a2 l2 k2) (.slice a3 l3 k3) (.slice a4 l4 k4) (.slice a5 l5 k5)):=⟨HO3_0.out,HO3_1.out,HO3_2.out,HO3_3.out⟩
     have HR3:Hid (RR=if (Pk.mk x0 x1 D1 D2 D3 D4).e=0 then some ⟨x0,x1,D1,D2,D3,D4⟩ else none):=by
      show _=_
      rw [HRR.out];simp
     clear HRR HIN i0 i1 i2 i3 i4 his HO3_0 HO3_1 HO3_2 HO3_3 hdr hea
     obtain ⟨f0,f1,f2,f3,f4,f5⟩:=cells6p HB3.out.2.1
     generalize hpe:(Pk.mk x0 x1 D1 D2 D3 D4).e=pe at *
     clear hpe
     go_wp2_with fail
     refine HCK.out.mono ?_
     rintro e w7 ⟨rfl,hb7⟩
     have HP7:Hid (w7.heap[pb]?=some (.cells #[.string x0,.bool x1,.slice a2 l2 k2,.slice a3 l3 k3,.slice a4 l4 k4,.slice a5 l5 k5] 67 (0,0))∧w7.heap[w.heap.size]?=some (.cells #[.string ⟨#[]⟩,.bool false,.slice none 0 0,.slice none 0 0,.slice none 0 0,.slice none 0 0] 67 (0,0))∧Below w.heap.size w w7):=⟨(hb7.block pb (Array.getElem?_eq_some_iff.1 HB3.out.2.1).1).trans HB3.out.2.1,(hb7.block _ (Array.getElem?_eq_some_iff.1 (HRB.out B3 HB3.out.2.2).1).1).trans (HRB.out B3 HB3.out.2.2).1,(HRB.out B3 HB3.out.2.2).2.trans (hb7.mono (HRB.out B3 HB3.out.2.2).2.size)⟩
     have HPO7:Hid (PkOwn (w.heap.size+3) w7 (Pk.mk x0 x1 D1 D2 D3 D4) (.slice a2 l2 k2) (.slice a3 l3 k3) (.slice a4 l4 k4) (.slice a5 l5 k5)):=HPO.out.keep (fun b _ hb=>hb7.block b hb)
     clear hb7 HPO f0 f1 f2 f3 f4 f5 y0 y1 y2' hd
     by_cases h0:pe=0
     ·subst h0
      have HR4:Hid (RR=some ⟨x0,x1,D1,D2,D3,D4⟩):=HR3.out.trans (if_pos rfl)
      clear HR3
      obtain ⟨WE,hWE⟩:∃ WE,WE=setAll w.heap.size [.string x0,.bool x1,.slice a2 l2 k2,.slice a3 l3 k3,.slice a4 l4 k4,.slice a5 l5 k5] 0 w7:=⟨_,rfl⟩
      have hke:WE.heap[w.heap.size]?=some (.cells #[.string x0,.bool x1,.slice a2 l2 k2,.slice a3 l3 k3,.slice a4 l4 k4,.slice a5 l5 k5] 67 (0,0)):=by rw [hWE];exact setAll6 HP7.out.2.1 _ _ _ _ _ _
      have HRES:Hid (ReadSays w RR (.returned (.tuple #[.agg #[.string x0,.bool x1,.slice a2 l2 k2,.slice a3 l3 k3,.slice a4 l4 k4,.slice a5 l5 k5],.int .i64 0])) WE):=⟨by rw [hWE];exact setAll_below (Nat.le_refl _) _ _ HP7.out.2.2,.inl ⟨_,_,_,_,_,HR4.out,rfl,(HPO7.out.keep (fun b hb _=>by rw [hWE];exact setAll_other (by omega) _ _ _)).mono (by omega)⟩⟩
      obtain ⟨b0,b1,b2,b3,b4,b5⟩:=cells6p HP7.out.2.1
      obtain ⟨z0,z1,z2,z3,z4,z5⟩:=free6 HP7.out.2.1
      obtain ⟨f0,f1,f2,f3,f4,f5⟩:=cells6p HP7.out.1
      obtain ⟨g0,g1,g2,g3,g4,g5⟩:=cells6p hke
      clear hke
      go_wp2_with fail
      simp only [setAll,Nat.zero_add,Nat.reduceAdd] at hWE
      rw [← hWE]
      clear hWE b0 b1 b2 b3 b4 b5 z0 z1 z2 z3 z4 z5 f0 f1 f2 f3 f4 f5
      exact bodyPost_ret (v:=.tuple #[.agg #[.string x0,.bool x1,.slice a2 l2 k2,.slice a3 l3 k3,.slice a4 l4 k4,.slice a5 l5 k5],.int .i64 0]) (by simp [results,Tryz.results23,go_sem,g0,g1,g2,g3,g4,g5]) rfl HRES.out
     ·have hd0:(pe == 0)=false:=by simpa using h0
      have hd1:(pe != 0)=true:=by simpa using h0
      have HR4:Hid (RR=none):=HR3.out.trans (if_neg h0)
      clear HR3 h0
      have hkr:=(HP7.out.2).1
      have hbw:=(HP7.out.2).2
      obtain ⟨WE,hWE⟩:∃ WE,WE=setAll w.heap.size [.string ⟨#[]⟩,.bool false,.slice none 0 0,.slice none 0 0,.slice none 0 0,.slice none 0 0] 0 w7:=⟨_,rfl⟩
      have hke:WE.heap[w.heap.size]?=some (.cells #[.string ⟨#[]⟩,.bool false,.slice none 0 0,.slice none 0 0,.slice none 0 0,.slice none 0 0] 67 (0,0)):=by rw [hWE];exact setAll6 hkr _ _ _ _ _ _
      have HRES:Hid (ReadSays w RR (.returned (.tuple #[.agg #[.string ⟨#[]⟩,.bool false,.slice none 0 0,.slice none 0 0,.slice none 0 0,.slice none 0 0],.int .i64 1])) WE):=⟨by rw [hWE];exact setAll_below (Nat.le_refl _) _ _ hbw,.inr ⟨HR4.out,rfl⟩⟩
      obtain ⟨b0,b1,b2,b3,b4,b5⟩:=cells6p hkr
      obtain ⟨z0,z1,z2,z3,z4,z5⟩:=free6 hkr
      obtain ⟨g0,g1,g2,g3,g4,g5⟩:=cells6p hke
      clear hkr hbw hke
      go_wp2_with fail
      simp only [setAll,Nat.zero_add,Nat.reduceAdd] at hWE
      rw [← hWE]
      clear hWE b0 b1 b2 b3 b4 b5 z0 z1 z2 z3 z4 z5
      exact bodyPost_ret (v:=.tuple #[.agg #[.string ⟨#[]⟩,.bool false,.slice none 0 0,.slice none 0 0,.slice none 0 0,.slice none 0 0],.int .i64 1]) (by simp [results,Tryz.results23,go_sem,g0,g1,g2,g3,g4,g5]) rfl HRES.out
set_option maxHeartbeats 12800000 in
set_option maxRecDepth 100000 in
theorem refNet_any (t:Nt) (vn vl:Value) (w:World) (h:NtIs w t vn vl) (hs:t.Short) :
 Calls Tryz.prog 9 #[.agg #[vn,vl]] w fun e w'=>e=.returned (.int .i64 t.e)∧Below w.heap.size w w':=by
 obtain ⟨ns,ls⟩:=t
 have HTS:Hid (ls.length≤20→∀ l∈ls,l.text.size≤16777216):=hs
 have HE1:Hid ((6 < ns.length∨20 < ls.length)→(Nt.mk ns ls).e=2):=fun h=>Nt.e_many h
 have HE2:Hid (¬ (6 < ns.length∨20 < ls.length)→∀ k,k < ns.length→(∀ j,j < k→(ns.getD j ndZ).e=0)→(ns.getD k ndZ).e≠0→(Nt.mk ns ls).e=(ns.getD k ndZ).e):=fun h6 k hk hz hne=>by
  have hc:=chkN_e hk hz hne
  rw [Nt.e_nodes h6 (by rw [hc];exact hne)]
  exact hc
 have HE3:Hid (¬ (6 < ns.length∨20 < ls.length)→(∀ j,j < ns.length→(ns.getD j ndZ).e=0)→¬ ApartN ns→(Nt.mk ns ls).e=6):=fun h6 hz hd=>by
  have hc:=chkN_twice hz hd
  rw [Nt.e_nodes h6 (by simp only;rw [hc];decide)]
  exact hc
 have HE4:Hid (¬ (6 < ns.length∨20 < ls.length)→(∀ j,j < ns.length→(ns.getD j ndZ).e=0)→ApartN ns→(Nt.mk ns ls).e=fstE (ltE ns.length) ls):=fun h6 hz hd=>by
  rw [Nt.e_letters h6 (chkN_ok hz hd)]
 clear hs
 generalize (Nt.mk ns ls).e=te at *
 obtain ⟨⟨pn,cn,hvn,ha⟩,⟨pl,cl,hvl,_,hla⟩⟩:=h
 subst hvn hvl
 simp only at ha hla ⊢
 have HLA:Hid (ls=[]∨∃ b off,pl=some ⟨b,off,none⟩∧b < w.heap.size∧Lt.Row w b off ls):=hla
 clear hla
 have HA:Hid (ns=[]∨∃ b off,pn=some ⟨b,off,none⟩∧b < w.heap.size∧NRow w b off ns):=ha
 clear ha
 generalize hN:ns.length=n at *
 have HN:Hid (ns.length=n):=hN
 clear hN
 generalize hM:ls.length=m at *
 have HM:Hid (ls.length=m):=hM
 clear hM
 obtain ⟨W0,hW0⟩:∃ W0,W0=w.alloc (.cells #[.slice pn n cn,.slice pl m cl] 25):=⟨_,rfl⟩
 have hb0:Below w.heap.size w W0:=by rw [hW0];exact (Below.refl _ _).alloc (Nat.le_refl _) _
 have k0:W0.heap[w.heap.size]?=some (.cells #[.slice pn n cn,.slice pl m cl] 25 (0,0)):=by rw [hW0];exact heap_alloc_new w _
 have HB0:Hid (Below w.heap.size w W0):=hb0
 have HK:Hid (∀ W,Below W0.heap.size W0 W→W.cell? ⟨w.heap.size,0,none⟩=some (.slice pn n cn)∧W.cell? ⟨w.heap.size,1,none⟩=some (.slice pl m cl)):=fun W hW=>by
  have e:=(hW.block _ (Array.getElem?_eq_some_iff.1 k0).1).trans k0
  exact ⟨cellsAt e 0,cellsAt e 1⟩
 have x0:W0.cell? ⟨w.heap.size,0,none⟩=some (.slice pn n cn):=cellsAt k0 0
 have x1:W0.cell? ⟨w.heap.size,1,none⟩=some (.slice pl m cl):=cellsAt k0 1
 clear k0 hb0
 by_cases h6:6 < n
 ·have d1:decide ((6:Int) < (n:Int))=true:=by simp;omega
  have HE:Hid (te=2):=HE1.out (.inl h6)
  clear HE1 HE2 HE3 HE4 h6
  go_enter Tryz.func9,Tryz.ntmps9
  go_upto_region 1 with fail
  rw [← hW0]
  clear hW0
  go_wp2_with fail
  go_ret
  exact ⟨ret_int HE.out.symm,HB0.out⟩
 have d1:decide ((6:Int) < (n:Int))=false:=by simp;omega
 by_cases h20:20 < m
 ·have d2:decide ((20:Int) < (m:Int))=true:=by simp;omega
  have HE:Hid (te=2):=HE1.out (.inr h20)
  clear HE1 HE2 HE3 HE4 h6 h20
  go_enter Tryz.func9,Tryz.ntmps9
  go_upto_region 1 with fail
  rw [← hW0]
  clear hW0
  go_wp2_with fail
  go_ret
  exact ⟨ret_int HE.out.symm,HB0.out⟩
 have d2:decide ((20:Int) < (m:Int))=false:=by simp;omega
 have HTX:Hid (∀ l∈ls,l.text.size≤16777216):=HTS.out (by omega)
 clear HTS
 have HE2':Hid (∀ k,k < n→(∀ j,j < k→(ns.getD j ndZ).e=0)→(ns.getD k ndZ).e≠0→te=(ns.getD k ndZ).e):=HE2.out (by omega)
 have HE3':Hid ((∀ j,j < n→(ns.getD j ndZ).e=0)→¬ ApartN ns→te=6):=HE3.out (by omega)
 have HE4':Hid ((∀ j,j < n→(ns.getD j ndZ).e=0)→ApartN ns→te=fstE (ltE n) ls):=HE4.out (by omega)
 clear HE1 HE2 HE3 HE4
 go_enter Tryz.func9,Tryz.ntmps9
 go_upto_region 1 with fail
 rw [← hW0]
 clear hW0
 go_wp2_with fail
 clear x0 x1
 go_loopw [3] (fun i wr=>∃ k:Nat,k≤n∧i=.int .i64 k∧Hid (∀ j,j < k→(ns.getD j ndZ).e=0)∧Hid (Below W0.heap.size W0 wr)) (fun i _=>n - (intOf i).toNat)
 case atStart=>exact ⟨0,Nat.zero_le _,rfl,fun j hj=>by omega,Below.refl _ _⟩
 case round=>
  obtain ⟨k,hk,rfl,HZ,HB⟩:=hrel
  obtain ⟨x0,x1⟩:=HK.out wr HB.out
  by_cases hlt:k < n
  ·obtain ⟨b,off,hp,hl,hr⟩:∃ b off,pn=some ⟨b,off,none⟩∧b < w.heap.size∧NRow w b off ns:=by
    rcases HA.out with h | h
    ·have:=HN.out;rw [h] at this;simp at this;omega
    ·exact h
   subst hp
   have hbw:Below w.heap.size w wr:=HB0.out.trans (HB.out.mono HB0.out.size)
   obtain ⟨vm,vr,vs,vg,vw,hnd,c0,c1,c2,c3,c4,c5,c6,c7,c8,c9,c10,c11⟩:=(hr.below hbw hl).at (by rw [HN.out];exact hlt)
   have HX:Hid ((ns.getD k ndZ).e≠0→te=(ns.getD k ndZ).e):=HE2'.out k hlt HZ.out
   have HZ2:Hid ((ns.getD k ndZ).e=0→∀ j,j < k+1→(ns.getD j ndZ).e=0):=fun h j hj=>by
    by_cases e:j=k
    ·subst e;exact h
    ·exact HZ.out j (by omega)
   generalize (ns.getD k ndZ)=nk at *
   have HCK:Hid (Calls Tryz.prog 21 #[.agg (ndA nk vm vr vs vg vw)] wr fun e w'=>e=.returned (.int .i64 nk.e)∧Below wr.heap.size wr w'):=refNode_any nk vm vr vs vg vw wr hnd
   obtain ⟨⟨am,cm,hvm,_,_⟩,⟨ar,cr,hvr,_,_⟩,⟨ax,cx,hvs,_,_⟩,⟨ag,cg,hvg,_,_⟩,⟨aw,cw,hvw,_,_⟩,_,_⟩:=hnd
   subst hvm hvr hvs hvg hvw
   generalize hne:nk.e=ne at *
   clear hne
   obtain ⟨nm,ct,ms,rs,sv,gw,⟨px,py,pz,ph,pq⟩,wh⟩:=nk
   simp only [ndA] at c0 c1 c2 c3 c4 c5 c6 c7 c8 c9 c10 c11 HCK
   generalize ms.length=nms at *
   generalize rs.length=nrs at *
   generalize sv.length=nsv at *
   generalize gw.length=ngw at *
   generalize wh.length=nwh at *
   clear hr HZ hbw
   have hkn:(k:Int) < n:=by omega
   go_wp2_with fail
   refine HCK.out.mono ?_
   rintro e w1 ⟨rfl,hb1⟩
   have HB1:Hid (Below W0.heap.size W0 w1):=HB.out.trans (hb1.mono HB.out.size)
   clear hb1 c0 c1 c2 c3 c4 c5 c6 c7 c8 c9 c10 c11 HB HCK x0 x1
   by_cases he:ne=0
   ·have he':(ne != 0)=false:=by simpa using he
    have HZ3:Hid (∀ j,j < k+1→(ns.getD j ndZ).e=0):=HZ2.out he
    clear HX HZ2 he
    go_wp2_with fail
    go_roundw
    case rel=>exact ⟨k+1,by omega,by go_num,HZ3,HB1⟩
    case measure=>simp [intOf];omega
   ·have he':(ne != 0)=true:=by simpa using he
    have HR:Hid (te=ne):=HX.out he
    clear he HX HZ2
    go_wp2_with fail
    go_ret
    exact ⟨ret_int HR.out.symm,HB0.out.trans (HB1.out.mono HB0.out.size)⟩
  ·have hkn:k=n:=by omega
   subst hkn
   have HZA:Hid (∀ j,j < k→(ns.getD j ndZ).e=0):=HZ
   have HE3:Hid (¬ ApartN ns→te=6):=HE3'.out HZ.out
   have HE4:Hid (ApartN ns→te=fstE (ltE k) ls):=HE4'.out HZ.out
   clear HE2' HE3' HE4' HZ
   go_wp2_with fail
   clear x0 x1
   go_loopw [5] (fun i wr=>∃ i0:Nat,i0≤k∧i=.int .i64 i0∧Hid (∀ a b,a < b→b < i0→(ns.getD a ndZ).name≠(ns.getD b ndZ).name)∧Hid (Below W0.heap.size W0 wr)) (fun i _=>k - (intOf i).toNat)
   case atStart=>exact ⟨0,Nat.zero_le _,rfl,fun a b _ hb=>by omega,HB⟩
   case round=>
    obtain ⟨i0,hi,rfl,HP,HB2⟩:=hrel
    obtain ⟨x0,x1⟩:=HK.out wr HB2.out
    by_cases hlt2:i0 < k
    ·obtain ⟨b,off,hp,hl,hr⟩:∃ b off,pn=some ⟨b,off,none⟩∧b < w.heap.size∧NRow w b off ns:=by
      rcases HA.out with h | h
      ·have:=HN.out;rw [h] at this;simp at this;omega
      ·exact h
     subst hp
     have HRW:Hid (∀ W,Below W0.heap.size W0 W→∀ j,j < k→W.cell? ⟨b,off+j * 12,none⟩=some (.string (ns.getD j ndZ).name)):=fun W hW j hj=>by
      have hbw:Below w.heap.size w W:=HB0.out.trans (hW.mono HB0.out.size)
      obtain ⟨vm,vr,vs,vg,vw,hnd,c0,_⟩:=(hr.below hbw hl).at (k:=j) (by rw [HN.out];exact hj)
      exact c0
     have hd2:decide ((i0:Int) < (k:Int))=true:=by simp;omega
     clear hr hl
     go_wp2_with fail
     clear x0 x1
     go_loopw [6] (fun i wr=>∃ j0:Nat,j0≤i0∧i=.int .i64 j0∧Hid (∀ a,a < j0→(ns.getD a ndZ).name≠(ns.getD i0 ndZ).name)∧Hid (Below W0.heap.size W0 wr)) (fun i _=>i0 - (intOf i).toNat)
     case atStart=>exact ⟨0,Nat.zero_le _,rfl,fun a ha=>by omega,HB2⟩
     case round=>
      obtain ⟨j0,hj,rfl,HJ,HB3⟩:=hrel
      obtain ⟨x0,x1⟩:=HK.out _ HB3.out
      by_cases hlt3:j0 < i0
      ·have hd3:decide ((j0:Int) < (i0:Int))=true:=by simp;omega
       have c0:=HRW.out _ HB3.out j0 (by omega)
       have c1:=HRW.out _ HB3.out i0 hlt2
       have HAP:Hid ((ns.getD j0 ndZ).name=(ns.getD i0 ndZ).name→te=6):=fun e=>HE3.out (fun h=>h j0 i0 hlt3 (by rw [HN.out];exact hlt2) e)
       have HJ2:Hid ((ns.getD j0 ndZ).name≠(ns.getD i0 ndZ).name→∀ a,a < j0+1→(ns.getD a ndZ).name≠(ns.getD i0 ndZ).name):=fun h a ha=>by
        by_cases e:a=j0
        ·subst e;exact h
        ·exact HJ.out a (by omega)
       generalize (ns.getD j0 ndZ).name=na at *
       generalize hnb:(ns.getD i0 ndZ).name=nb at c1 HAP
       have hq1:(j0:Int) < (k:Int):=by omega
       have hq2:(i0:Int) < (k:Int):=by omega
       have hq3:(0:Int)≤(j0:Int):=by omega
       have hq4:(0:Int)≤(i0:Int):=by omega
       have hq5:((j0:Int)).toNat=j0:=by omega
       have hq6:((i0:Int)).toNat=i0:=by omega
       by_cases heq:na=nb
       ·subst heq
        have HR:Hid (te=6):=HAP.out rfl
        clear HAP HJ2 HJ hnb
        go_wp2_with fail
        go_quiet (fail)
        go_wp2_with fail
        go_ret
        exact ⟨ret_int HR.out.symm,below_drewN (HB0.out.trans (HB3.out.mono HB0.out.size)) _⟩
       ·obtain ⟨hne1,hne2⟩:=beq_name (a:=na) (b:=nb) heq
        have HJ3:Hid (∀ a,a < j0+1→(ns.getD a ndZ).name≠nb):=fun a ha=>by rw [← hnb];exact HJ2.out (by rw [hnb];exact heq) a ha
        clear HAP HJ2 HJ hnb heq
        go_wp2_with fail
        go_quiet (fail)
        go_wp2_with fail
        exact ⟨⟨j0+1,by omega,by go_num,HJ3,below_drewN HB3.out _⟩,by simp [intOf];omega⟩
      ·have hd3:decide ((j0:Int) < (i0:Int))=false:=by simp;omega
       have HP2:Hid (∀ a b,a < b→b < i0+1→(ns.getD a ndZ).name≠(ns.getD b ndZ).name):=fun a b hab hb=>by
        by_cases e:b=i0
        ·subst e;exact HJ.out a (by omega)
        ·exact HP.out a b hab (by omega)
       clear HJ HP
       go_wp2_with fail
       exact ⟨⟨i0+1,by omega,by go_num,HP2,HB3⟩,by simp [intOf];omega⟩
    ·have hd2:decide ((i0:Int) < (k:Int))=false:=by simp;omega
     have HR:Hid (te=fstE (ltE k) ls):=HE4.out (fun a b hab hb=>HP.out a b hab (by have:=HN.out;omega))
     have hw1:IntKind.i64.wrap ((k:Int) - 1)=(k:Int) - 1:=by rw [IntKind.wrap_i64];omega
     clear HP HE3 HE4
     go_wp2_with fail
     clear x0 x1
     go_loopw [7] (fun i wr=>∃ k2:Nat,k2≤m∧i=.int .i64 k2∧Hid (∀ j,j < k2→ltE k (ls.getD j Lt.dm)=0)∧Hid (Below W0.heap.size W0 wr)) (fun i _=>m - (intOf i).toNat)
     case atStart=>exact ⟨0,Nat.zero_le _,rfl,fun j hj=>by omega,HB2⟩
     case round=>
      obtain ⟨k2,hk2,rfl,HZ,HB4⟩:=hrel
      obtain ⟨x0,x1⟩:=HK.out _ HB4.out
      by_cases hlt4:k2 < m
      ·obtain ⟨b,off,hp,hl,hr⟩:∃ b off,pl=some ⟨b,off,none⟩∧b < w.heap.size∧Lt.Row w b off ls:=by
        rcases HLA.out with h | h
        ·have:=HM.out;rw [h] at this;simp at this;omega
        ·exact h
       subst hp
       have hbw:Below w.heap.size w wr:=HB0.out.trans (HB4.out.mono HB0.out.size)
       obtain ⟨c0,c1⟩:=(hr.later hbw hl) k2 (by rw [HM.out];exact hlt4)
       have HX:Hid (ltE k (ls.getD k2 Lt.dm)≠0→te=ltE k (ls.getD k2 Lt.dm)):=fun h=>HR.out.trans (fstE_at _ Lt.dm ls k2 (by rw [HM.out];exact hlt4) HZ.out h)
       have HZ2:Hid (ltE k (ls.getD k2 Lt.dm)=0→∀ j,j < k2+1→ltE k (ls.getD j Lt.dm)=0):=fun h j hj=>by
        by_cases e:j=k2
        ·subst e;exact h
        ·exact HZ.out j (by omega)
       have hkt:(ls.getD k2 Lt.dm).text.size≤16777216:=by
        have hk':k2 < ls.length:=by rw [HM.out];exact hlt4
        apply HTX.out
        rw [List.getD,List.getElem?_eq_getElem hk']
        exact List.getElem_mem hk'
       have hbl:b < wr.heap.size:=Nat.lt_of_lt_of_le hl hbw.size
       generalize ls.getD k2 Lt.dm=lk at *
       obtain ⟨tq,tx⟩:=lk
       simp only at c0 c1 hkt
       have HLE:Hid (ltE k ⟨tq,tx⟩=if within tq 0 ((k:Int) - 1)=true then (if (rdR tx.data.toList).isSome=true then 0 else 1) else 3):=rfl
       generalize ltE k ⟨tq,tx⟩=le at *
       have HBE:Hid (∀ W:World,Calls Tryz.prog 22 #[.int .i64 tq,.int .i64 0,.int .i64 ((k:Int) - 1)] W fun e w'=>e=.returned (.bool (within tq 0 ((k:Int) - 1)))∧w'=W):=fun W=>between_any tq 0 ((k:Int) - 1) W
       have HRD:Hid (∀ W:World,Calls Tryz.prog 23 #[.string tx] W (ReadSays W (rdR tx.data.toList))):=fun W=>pof_any tx.data.toList W hkt
       generalize within tq 0 ((k:Int) - 1)=wi at *
       generalize rdR tx.data.toList=ro at *
       clear hr HZ hkt hbw
       have hkm:(k2:Int) < (m:Int):=by omega
       have hk0:(0:Int)≤(k2:Int):=by omega
       have hkn:((k2:Int)).toNat=k2:=by omega
       go_wp2_with fail
       have F0:∀ d os,(Go.Sort.grow (redrawn wr d) os).cell? ⟨w.heap.size,0,none⟩=some (.slice pn k cn):=cell_regrown x0
       have F1:∀ d os,(Go.Sort.grow (redrawn wr d) os).cell? ⟨w.heap.size,1,none⟩=some (.slice (some ⟨b,off,none⟩) m cl):=cell_regrown x1
       have F2:∀ d os,(Go.Sort.grow (redrawn wr d) os).cell? ⟨b,off+k2 * 2,none⟩=some (.int .i64 tq):=cell_regrown c0
       have C0:∀ d os,Calls Tryz.prog 22 #[.int .i64 tq,.int .i64 0,.int .i64 ((k:Int) - 1)] (Go.Sort.grow (redrawn wr d) os) fun e w''=>e=.returned (.bool wi)∧∃ p:Regrown,w''=Go.Sort.grow (redrawn wr p.d) p.os:=fun d os=>Calls.regrown_of ((HBE.out _).mono (fun e w' h=>⟨h.1,by rw [h.2];exact Below.refl _ _⟩))
       refine wp_region_quiet_below (by kernel_rfl) (by kernel_rfl) ?_
       repeat (quiet_step (exact C0 _ _))
       refine wpQuiet_nil ?_
       intro _ hw'
       obtain ⟨⟨dq,osq⟩,hw''⟩:=hw'
       subst hw''
       obtain ⟨V,hV⟩:∃ V,V=Go.Sort.grow (redrawn wr dq) osq:=⟨_,rfl⟩
       rw [← hV]
       have hbq:Below wr.heap.size wr V:=by rw [hV];exact below_regrown wr dq osq
       have HBV:Hid (Below W0.heap.size W0 V):=HB4.out.trans (hbq.mono HB4.out.size)
       have y1:=(HK.out V HBV.out).2
       have e1:V.cell? ⟨b,off+k2 * 2+1,none⟩=some (.string tx):=(hbq.cell (p:=⟨b,off+k2 * 2+1,none⟩) hbl).trans c1
       clear C0 F0 F1 F2 hV hbq c0 c1 x0 x1 HBE HB4
       cases wi with
       | false=>
         have hle:le=3:=HLE.out.trans (if_neg (by simp))
         subst hle
         have HE:Hid (te=3):=HX.out (by omega)
         clear HX HZ2 HLE
         go_wp2_with fail
         go_ret
         exact ⟨ret_int HE.out.symm,HB0.out.trans (HBV.out.mono HB0.out.size)⟩
       | true=>
         have HLE2:Hid (le=if ro.isSome=true then 0 else 1):=HLE.out.trans (if_pos rfl)
         clear HLE
         go_wp2_with fail
         refine (HRD.out V).mono ?_
         rintro e w3 ⟨hb3,⟨q,ym,ys,yg,yw,hq,rfl,ho⟩ | ⟨hq,rfl⟩⟩
         ·have hle:le=0:=by rw [HLE2.out,hq];rfl
          subst hle
          obtain ⟨a2,l2,c2,rfl⟩:=slice_of_row ho.ms
          obtain ⟨a3,l3,c3,rfl⟩:=slice_of_row ho.sv
          obtain ⟨a4,l4,c4,rfl⟩:=slice_of_row ho.gw
          obtain ⟨a5,l5,c5,rfl⟩:=slice_of_row ho.wh
          have HZ3:Hid (∀ j,j < k2+1→ltE k (ls.getD j Lt.dm)=0):=HZ2.out rfl
          have HB3:Hid (Below W0.heap.size W0 w3):=HBV.out.trans (hb3.mono HBV.out.size)
          have HS3:Hid (W0.heap.size≤w3.heap.size):=HB3.out.size
          clear HX HZ2 HLE2 hb3 hq ho HRD y1 e1
          go_wp2_with fail
          go_roundw
          case rel=>exact ⟨k2+1,by omega,by go_num,HZ3,HB3.out.alloc HS3.out _⟩
          case measure=>simp [intOf];omega
         ·have hle:le=1:=by rw [HLE2.out,hq];rfl
          subst hle
          have HE:Hid (te=1):=HX.out (by omega)
          have HB3:Hid (Below W0.heap.size W0 w3):=HBV.out.trans (hb3.mono HBV.out.size)
          have HB3w:Hid (Below w.heap.size w w3):=HB0.out.trans (HB3.out.mono HB0.out.size)
          have HS3:Hid (w.heap.size≤w3.heap.size):=HB3w.out.size
          clear HX HZ2 HLE2 hb3 hq HRD y1 e1
          go_wp2_with fail
          go_ret
          exact ⟨ret_int HE.out.symm,HB3w.out.alloc HS3.out _⟩
      ·have HE:Hid (te=0):=HR.out.trans (fstE_zero _ Lt.dm ls (fun j hj=>HZ.out j (by have:=HM.out;omega)))
       have hd:decide ((k2:Int) < (m:Int))=false:=by simp;omega
       clear HZ
       go_wp2_with fail
       go_ret
       exact ⟨ret_int HE.out.symm,HB0.out.trans (HB4.out.mono HB0.out.size)⟩
set_option maxHeartbeats 12800000 in
set_option maxRecDepth 100000 in
theorem netChecks_walk (t:Nt) (vn vl:Value) (w:World) (hV:Rv w.heap.size w) (h:NtIs w t vn vl) (hs:t.Short) :
 Calls Tryz.prog 4 #[.agg #[vn,vl]] w fun e w'=>e=.returned (.bool true)∧Below w.heap.size w w':=by
 obtain ⟨r,hr⟩:=boolOf (∃ j,j < t.ns.length∧¬ SameK (t.ns.getD j ndZ) (t.ns.getD 0 ndZ))
 have HAG:Hid (∀ W,Below w.heap.size w W→Calls Tryz.prog 10 #[.agg #[vn,vl]] W (AgrSays W t.e r)):=fun W hW=>agree_any t vn vl r W (hV.after hW) (h.below hW) hs (fun _=>hr)
 have HCN:Hid (∀ W,Below w.heap.size w W→Calls Tryz.prog 9 #[.agg #[vn,vl]] W fun e w'=>e=.returned (.int .i64 t.e)∧Below W.heap.size W w'):=fun W hW=>refNet_any t vn vl W (h.below hW) hs
 have HNB:Hid (∀ W,Below w.heap.size w W→Calls Tryz.prog 7 #[] W fun e w'=>e=.returned (.bool true)∧Below W.heap.size W w'):=fun W hW=>netBegun_any W (hV.after hW)
 have HCK:Hid (∀ W,Below w.heap.size w W→Calls Tryz.prog 11 #[.agg #[vn,vl]] W fun e w'=>e=.returned (.int .i64 t.e)∧Below W.heap.size W w'):=fun W hW=>netCheck_any t vn vl W (hV.after hW) (h.below hW) hs
 have HAO:Hid (t.e=0→∀ W,Below w.heap.size w W→Calls Tryz.prog 12 #[.agg #[vn,vl]] W fun e w'=>e=.returned (.bool (!r))∧Below W.heap.size W w'):=fun he W hW=>by
  have hz:=Nt.e_zero he
  obtain ⟨pl,cl,hvl,_⟩:=h.ls
  exact agreeOf_any t.ns vn vl W (h.ns.below hW) ⟨_,_,_,hvl⟩ hz.1 (fun j hj=>by
   obtain ⟨h1,h2,h3,h4,h5⟩:=Nd.e_len (hz.2.2.1 (t.ns.getD j ndZ) (by rw [List.getD,List.getElem?_eq_getElem hj];exact List.getElem_mem hj))
   exact ⟨h1,h3,h4⟩) r hr
 obtain ⟨⟨pn,cn,hvn,_⟩,⟨pl,cl,hvl,_,_⟩⟩:=h
 subst hvn hvl
 clear hr hs hV
 generalize t.e=te at *
 generalize t.ns.length=n at *
 generalize t.ls.length=m at *
 obtain ⟨W0,hW0⟩:∃ W0,W0=w.alloc (.cells #[.slice pn n cn,.slice pl m cl] 25):=⟨_,rfl⟩
 have hb0:Below w.heap.size w W0:=by rw [hW0];exact (Below.refl _ _).alloc (Nat.le_refl _) _
 have k0:W0.heap[w.heap.size]?=some (.cells #[.slice pn n cn,.slice pl m cl] 25 (0,0)):=by rw [hW0];exact heap_alloc_new w _
 have HB0:Hid (Below w.heap.size w W0):=hb0
 have HK:Hid (∀ W,Below W0.heap.size W0 W→W.cell? ⟨w.heap.size,0,none⟩=some (.slice pn n cn)∧W.cell? ⟨w.heap.size,1,none⟩=some (.slice pl m cl)):=fun W hW=>by
  have e:=(hW.block _ (Array.getElem?_eq_some_iff.1 k0).1).trans k0
  exact ⟨cellsAt e 0,cellsAt e 1⟩
 have HWB:Hid (∀ W,Below W0.heap.size W0 W→Below w.heap.size w W):=fun W hW=>HB0.out.trans (hW.mono HB0.out.size)
 obtain ⟨x0,x1⟩:=HK.out W0 (Below.refl _ _)
 clear k0 hb0
 go_enter Tryz.func4,Tryz.ntmps4
 go_upto_region 1 with fail
 rw [← hW0]
 clear hW0
 go_wp2_with fail
 refine (HAG.out W0 HB0.out).mono ?_
 rintro e w1 ⟨hag,hb1⟩
 have HB1:Hid (Below W0.heap.size W0 w1):=hb1
 clear hb1 x0 x1 HAG
 obtain ⟨x0,x1⟩:=HK.out w1 HB1.out
 rcases hag with ⟨h0,rfl⟩ | ⟨h0,rfl⟩
 ·subst h0
  have hao:=HAO.out rfl
  have HA2:Hid _:=hao
  clear HAO hao
  go_wp2_with fail
  refine (HCN.out w1 (HWB.out _ HB1.out)).mono ?_
  rintro e w2 ⟨rfl,hb2⟩
  have HB2:Hid (Below W0.heap.size W0 w2):=HB1.out.trans (hb2.mono HB1.out.size)
  clear hb2 x0 x1 HCN
  obtain ⟨x0,x1⟩:=HK.out w2 HB2.out
  go_wp2_with fail
  refine (HNB.out w2 (HWB.out _ HB2.out)).mono ?_
  rintro e w3 ⟨rfl,hb3⟩
  have HB3:Hid (Below W0.heap.size W0 w3):=HB2.out.trans (hb3.mono HB2.out.size)
  clear hb3 x0 x1 HNB
  obtain ⟨x0,x1⟩:=HK.out w3 HB3.out
  go_wp2_with fail
  refine (HCK.out w3 (HWB.out _ HB3.out)).mono ?_
  rintro e w4 ⟨rfl,hb4⟩
  have HB4:Hid (Below W0.heap.size W0 w4):=HB3.out.trans (hb4.mono HB3.out.size)
  clear hb4 x0 x1 HCK
  obtain ⟨x0,x1⟩:=HK.out w4 HB4.out
  go_wp2_with fail
  refine (HA2.out w4 (HWB.out _ HB4.out)).mono ?_
  rintro e w5 ⟨rfl,hb5⟩
  have HB5:Hid (Below w.heap.size w w5):=HWB.out _ (HB4.out.trans (hb5.mono HB4.out.size))
  have hrr:((!r) == (!r))=true:=by simp
  clear hb5 x0 x1 HA2
  go_wp2_with fail
  go_ret
  exact ⟨rfl,HB5.out⟩
 ·have he:(te == 0)=false:=by simpa using h0
  have hee:(te == te)=true:=by simp
  clear h0 HAO
  go_wp2_with fail
  refine (HCN.out w1 (HWB.out _ HB1.out)).mono ?_
  rintro e w2 ⟨rfl,hb2⟩
  have HB2:Hid (Below W0.heap.size W0 w2):=HB1.out.trans (hb2.mono HB1.out.size)
  clear hb2 x0 x1 HCN
  obtain ⟨x0,x1⟩:=HK.out w2 HB2.out
  go_wp2_with fail
  refine (HNB.out w2 (HWB.out _ HB2.out)).mono ?_
  rintro e w3 ⟨rfl,hb3⟩
  have HB3:Hid (Below W0.heap.size W0 w3):=HB2.out.trans (hb3.mono HB2.out.size)
  clear hb3 x0 x1 HNB
  obtain ⟨x0,x1⟩:=HK.out w3 HB3.out
  go_wp2_with fail
  refine (HCK.out w3 (HWB.out _ HB3.out)).mono ?_
  rintro e w4 ⟨rfl,hb4⟩
  have HB4:Hid (Below w.heap.size w w4):=HWB.out _ (HB3.out.trans (hb4.mono HB3.out.size))
  clear hb4 x0 x1 HCK
  go_wp2_with fail
  go_ret
  exact ⟨rfl,HB4.out⟩
end Go.Proofs.YtffdoiokmiklgaaGreatDoor
