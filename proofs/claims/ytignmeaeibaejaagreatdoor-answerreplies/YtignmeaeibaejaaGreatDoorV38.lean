import Derived.Test.YtignmeaeibaejaaGreatDoorV36
import Derived.Test.YtignmeaeibaejaaGreatDoorV37
import Derived.Test.YtignmeaeibaejaaGreatDoorV24
namespace Go.Proofs.YtignmeaeibaejaaGreatDoor
open Go.RowKit
def Ret3 (v:Value) (c e:Int) (a:Act):Prop:=a.defers=[]∧a.tmps.getD 14 undef=v∧a.tmps.getD 15 undef=.int .i64 c∧a.tmps.getD 16 undef=.int .i64 e
set_option maxHeartbeats 6400000 in
set_option maxRecDepth 1000000 in
theorem rr5 {u0 u3 u4 u5 u6 u7 u8 u9 aa ab ac af ag ah ai am aq ar az aA aB aC aD aE aF aG aH aI aJ aK aL aM aN aO aP aQ aR aS aT aU aV aW aX aY aZ ba bb bc bd be bf bh bi bj bp bq br bu bw bz bA bB bC bD bE bF bG bH bI bJ bK bL bM bN bO bP bQ bS bT bU bV bW bX bY bZ cc cd cg ch cj ck cr cx cy cz cA cB cC cD cE cF cG cH cI cJ cK cM cO cP cQ cR cS cT cU cV cW cX cY cZ da dc dd de df dg dh di dj dl dn dr dt du dv dw dx dA dB dC dD dE dF dG dH dI dJ dK dL dM dO dP dQ dR dS dT dU dW dX dY dZ ea eb ed ee eh ei ej el em eo er eu ew ex ey ez eA eC eD eE eF eG eH eI eJ eK eL eM eN eO eP eQ eR eS eT eU eV eW eX eY eZ e9 fa fb fc fe ff fh fj fm fo fp fq fs ft fu fw fx fy fA fB fC:Value} (B:Nat) (name here:ByteArray) (t:Int) (found:List Sv.Svc) (SL:List ByteArray) (DL:List Rc.Rec) (pf pn:Option Addr) (n cf m cn i k:Nat) (vo:Value) (w:World) (hh:here.size≤maxLen) (hk:k < n) (hi:i < m) (hDL:DL.length≤20) (hBw:B≤w.heap.size)
 (HF:Hid (Sv.Sl w (.slice pf n cf) found)) (HS:Hid (TSl w (.slice pn m cn) SL)) (HO:Hid (Rc.Own B w vo DL)) (Q:Exit→Act→World→Prop)
 (hN:(found.getD k Sv.dm).node≠SL.getD i ByteArray.empty→∀ (iW iX iY iZ i1 i2 i6 i7 i8 ja jb jc je jf jg jh ji jj jk jl jm jo jp jq jr js ju jv jw jx jy jz jA jC jD jE jF jG jH jI jJ jK jL jM jN jO jP jQ jR jS jT jU jV jW jX jY jZ j1:Value) (wx:World),Rc.Own B wx vo DL→Below B w wx→Q .normal ⟨#[u0,.int .i64 t,.string here,u3,u4,u5,u6,u7,u8,u9,aa,ab,ac,af,ag,ah,ai,.int .i64 0,.string name,am,.slice pf n cf,.slice pn m cn,aq,ar,vo,.int .i64 i,.int .i64 k,iW,aA,aB,aC,aD,aE,aF,aG,aH,aI,aJ,aK,aL,aM,aN,aO,aP,aQ,aR,aS,aT,aU,aV,aW,aX,aY,aZ,ba,bb,bc,bd,be,bf,bh,bi,bj,bp,bq,br,bu,bw,bz,bA,bB,bC,bD,bE,bF,bG,bH,bI,bJ,bK,bL,bM,bN,bO,bP,bQ,bS,bT,bU,bV,bW,bX,bY,bZ,cc,cd,cg,ch,cj,ck,cr,cx,cy,cz,cA,cB,cC,cD,cE,cF,cG,cH,cI,cJ,cK,cM,cO,cP,cQ,cR,cS,cT,cU,cV,cW,cX,cY,cZ,da,dc,dd,de,df,dg,dh,di,dj,dl,dn,dr,dt,du,dv,dw,dx,dA,dB,dC,dD,dE,dF,dG,dH,dI,dJ,dK,dL,dM,dO,dP,dQ,dR,dS,dT,dU,dW,dX,iX,iY,iZ,i1,i2,i6,i7,i8,ja,jb,jc,je,jf,jg,jh,ji,jj,jk,jl,jm,jo,jp,jq,jr,js,ju,jv,jw,jx,jy,jz,jA,jC,jD,jE,jF,jG,jH,jI,jJ,jK,jL,jM,jN,jO,jP,jQ,jR,jS,jT,jU,jV,jW,jX,jY,jZ,j1,fu,fw,fx,fy,fA,fB,fC],[]⟩ wx)
 (hY:(found.getD k Sv.dm).node=SL.getD i ByteArray.empty→recE here t (found.getD k Sv.dm)=0→∀ (iW iX iY iZ i1 i2 i6 i7 i8 ja jb jc je jf jg jh ji jj jk jl jm jo jp jq jr js ju jv jw jx jy jz jA jC jD jE jF jG jH jI jJ jK jL jM jN jO jP jQ jR jS jT jU jV jW jX jY jZ j1 vo':Value) (wx:World),Rc.Own B wx vo' (DL++[rec1 name here t (found.getD k Sv.dm)])→Below B w wx→Q .normal ⟨#[u0,.int .i64 t,.string here,u3,u4,u5,u6,u7,u8,u9,aa,ab,ac,af,ag,ah,ai,.int .i64 0,.string name,am,.slice pf n cf,.slice pn m cn,aq,ar,vo',.int .i64 i,.int .i64 k,iW,aA,aB,aC,aD,aE,aF,aG,aH,aI,aJ,aK,aL,aM,aN,aO,aP,aQ,aR,aS,aT,aU,aV,aW,aX,aY,aZ,ba,bb,bc,bd,be,bf,bh,bi,bj,bp,bq,br,bu,bw,bz,bA,bB,bC,bD,bE,bF,bG,bH,bI,bJ,bK,bL,bM,bN,bO,bP,bQ,bS,bT,bU,bV,bW,bX,bY,bZ,cc,cd,cg,ch,cj,ck,cr,cx,cy,cz,cA,cB,cC,cD,cE,cF,cG,cH,cI,cJ,cK,cM,cO,cP,cQ,cR,cS,cT,cU,cV,cW,cX,cY,cZ,da,dc,dd,de,df,dg,dh,di,dj,dl,dn,dr,dt,du,dv,dw,dx,dA,dB,dC,dD,dE,dF,dG,dH,dI,dJ,dK,dL,dM,dO,dP,dQ,dR,dS,dT,dU,dW,dX,iX,iY,iZ,i1,i2,i6,i7,i8,ja,jb,jc,je,jf,jg,jh,ji,jj,jk,jl,jm,jo,jp,jq,jr,js,ju,jv,jw,jx,jy,jz,jA,jC,jD,jE,jF,jG,jH,jI,jJ,jK,jL,jM,jN,jO,jP,jQ,jR,jS,jT,jU,jV,jW,jX,jY,jZ,j1,fu,fw,fx,fy,fA,fB,fC],[]⟩ wx)
 (hE:(found.getD k Sv.dm).node=SL.getD i ByteArray.empty→recE here t (found.getD k Sv.dm)≠0→∀ a W,Ret3 (.slice none 0 0) 0 (recE here t (found.getD k Sv.dm)) a→Below B w W→Q .ret a W) :
 Code.wp Tryz.prog ((Tryz.f17.body.bind (blkIn 5)).getD .skip) Q ⟨#[u0,.int .i64 t,.string here,u3,u4,u5,u6,u7,u8,u9,aa,ab,ac,af,ag,ah,ai,.int .i64 0,.string name,am,.slice pf n cf,.slice pn m cn,aq,ar,vo,.int .i64 i,.int .i64 k,az,aA,aB,aC,aD,aE,aF,aG,aH,aI,aJ,aK,aL,aM,aN,aO,aP,aQ,aR,aS,aT,aU,aV,aW,aX,aY,aZ,ba,bb,bc,bd,be,bf,bh,bi,bj,bp,bq,br,bu,bw,bz,bA,bB,bC,bD,bE,bF,bG,bH,bI,bJ,bK,bL,bM,bN,bO,bP,bQ,bS,bT,bU,bV,bW,bX,bY,bZ,cc,cd,cg,ch,cj,ck,cr,cx,cy,cz,cA,cB,cC,cD,cE,cF,cG,cH,cI,cJ,cK,cM,cO,cP,cQ,cR,cS,cT,cU,cV,cW,cX,cY,cZ,da,dc,dd,de,df,dg,dh,di,dj,dl,dn,dr,dt,du,dv,dw,dx,dA,dB,dC,dD,dE,dF,dG,dH,dI,dJ,dK,dL,dM,dO,dP,dQ,dR,dS,dT,dU,dW,dX,dY,dZ,ea,eb,ed,ee,eh,ei,ej,el,em,eo,er,eu,ew,ex,ey,ez,eA,eC,eD,eE,eF,eG,eH,eI,eJ,eK,eL,eM,eN,eO,eP,eQ,eR,eS,eT,eU,eV,eW,eX,eY,eZ,e9,fa,fb,fc,fe,ff,fh,fj,fm,fo,fp,fq,fs,ft,fu,fw,fx,fy,fA,fB,fC],[]⟩ w:=by
 conv=>arg 2;whnf
 obtain ⟨i0,hi0,hz0,hzs,hzb⟩:=info_parts rcI
 obtain ⟨_,_,hfe,hfz,hfa⟩:=HF.out
 simp only [Value.slice.injEq] at hfe
 obtain ⟨rfl,hfl,rfl⟩:=hfe
 obtain ⟨b,off,hp1,hl1,hr⟩:∃ b off,pf=some ⟨b,off,none⟩∧b < w.heap.size∧Sv.Row w b off found:=by
  rcases hfa with h | h
  ·rw [h] at hfl;simp at hfl;omega
  ·exact h
 subst hp1
 obtain ⟨c0,c1,-,-,c4,c5,-,-,-⟩:=hr k (by omega)
 have hnd:(found.getD k Sv.dm).node.size≤maxLen:=(hfz k).1
 obtain ⟨_,_,hse,_,hsa⟩:=HS.out
 simp only [Value.slice.injEq] at hse
 obtain ⟨rfl,hsl,rfl⟩:=hse
 obtain ⟨bn,on,hp2,hl2,hr2⟩:∃ b off,pn=some ⟨b,off,none⟩∧b < w.heap.size∧TRow w b off SL:=by
  rcases hsa with h | h
  ·rw [h] at hsl;simp at hsl;omega
  ·exact h
 subst hp2
 have s0:=hr2 i (by omega)
 have HRC:Hid (∀ x:Sv.Svc,x=found.getD k Sv.dm→rec1 name here t x=⟨name,t,0,if t=1 then x.addr else 0,if t=16 then x.idn else ⟨#[]⟩,if t=33 then x.port else 0,if t=33 then prS (qN x.node here) else ⟨#[]⟩⟩):=fun x _=>rfl
 have HQN:Hid _:=hN
 have HQY0:Hid _:=hY
 have HQE:Hid _:=hE
 clear hN hY hE hfa hr hfz hfl hsa hr2 hsl HF HS HRC
 generalize SL.getD i ByteArray.empty=sn at *
 generalize found.getD k Sv.dm=x at *
 obtain ⟨nd,idn,snm,tag,ad,po,pa1,ver,gon⟩:=x
 simp only at *
 have hk0:(0:Int)≤(k:Int):=Int.natCast_nonneg _
 have hk1:(k:Int) < (n:Int):=by omega
 have hi0':(0:Int)≤(i:Int):=Int.natCast_nonneg _
 have hi1':(i:Int) < (m:Int):=by omega
 by_cases hne:nd=sn
 ·have h3:(nd.toList == sn.toList)=true:=by rw [hne];simp
  have HQY1:Hid _:=HQY0.out hne
  have HQE1:Hid _:=HQE.out hne
  clear HQN HQY0 HQE hne
  have hpr:∀ W,Calls Tryz.prog 41 #[.agg #[.string ⟨#[]⟩,.string ⟨#[]⟩,.string nd,.string here]] W fun e w'=>e=.returned (.tuple #[.string (prS (qN nd here)),.int .i64 (prE (qN nd here))])∧Below W.heap.size W w':=fun W=>printOf_any (qN nd here) W ⟨by show (ByteArray.mk #[]).size≤maxLen;decide,by show (ByteArray.mk #[]).size≤maxLen;decide,hnd,hh⟩
  have HP:Hid _:=hpr
  clear hpr
  by_cases t1:t=1
  ·have HRK:Hid (recE here t ⟨nd,idn,snm,tag,ad,po,pa1,ver,gon⟩=0):=by subst t1;rfl
   have HR1:Hid (rec1 name here t ⟨nd,idn,snm,tag,ad,po,pa1,ver,gon⟩=⟨name,t,0,ad,⟨#[]⟩,0,⟨#[]⟩⟩):=by subst t1;rfl
   have hQY:=HQY1.out
   rw [HR1.out] at hQY
   have HQY:Hid _:=hQY
   have g1:(t == 1)=true:=by simpa using t1
   clear hQY HQY1 HQE1 t1 HP
   go_wp2_with fail
   go_quiet (fail)
   obtain ⟨W,hW⟩:∃ W,W=w.drewN nq:=⟨_,rfl⟩
   rw [← hW]
   have HBW:Hid (Below B w W):=by rw [hW];exact belowN (Below.refl _ _) _
   have HOW:Hid (Rc.Own B W vo DL):=by rw [hW];exact HO
   have e0:W.cell? ⟨b,off+k * 9,none⟩=some (.string nd):=by rw [hW];exact c0
   have e1:W.cell? ⟨b,off+k * 9+1,none⟩=some (.string idn):=by rw [hW];exact c1
   have e4:W.cell? ⟨b,off+k * 9+4,none⟩=some (.int .i64 ad):=by rw [hW];exact c4
   have e5:W.cell? ⟨b,off+k * 9+5,none⟩=some (.int .i64 po):=by rw [hW];exact c5
   have hlW:b < W.heap.size:=by rw [hW];exact hl1
   have hBW:B≤W.heap.size:=by rw [hW];exact hBw
   clear hW c0 c1 c4 c5 s0 hl1 hl2
   go_wp2_with (at_builtin;refine wpList_append_own _ rfl _ _ 36 rfl B 59 i0 _ 7 80 Tryz.underlying36 hi0 hz0 hzs hzb rfl (by omega) _ DL.length (Rc.fl DL) rfl ?hown _ 1 1 [.string name,.int .i64 t,.int .i64 0,.int .i64 ad,.string ⟨#[]⟩,.int .i64 0,.string ⟨#[]⟩] rfl rfl ?hnews (Rc.cs_one ⟨name,t,0,ad,⟨#[]⟩,0,⟨#[]⟩⟩) ?h63 ?hbytes ?hbase ?_)
   case hown=>exact (HOW.out.below ((Below.refl _ _).alloc (Nat.le_refl _) _)).below ((Below.refl _ _).alloc (Nat.le_refl _) _)
   case hnews=>(intro j u hj;rw [Addr.add_lit];exact (cell_topL (by simp)).trans (by simpa using hj))
   case h63=>(unfold maxLen;omega)
   case hbytes=>omega
   case hbase=>(simp;omega)
   intro v' w6 r1 r2 r3
   have HB6:Hid (Below B w w6):=((HBW.out.alloc hBW _).alloc (by simp<;>omega) _).grown r2 (by simp<;>omega) (fun j hj=>(HOW.out.lt j hj).1)
   have HO6:Hid (Rc.Own B w6 v' (DL++[⟨name,t,0,ad,⟨#[]⟩,0,⟨#[]⟩⟩])):=Rc.own_snoc r1
   clear r1 r2 r3
   go_wp2_with fail
   exact HQY.out HRK.out _ _ _ _ _ _ _ _ _ _ _ _ _ _ _ _ _ _ _ _ _ _ _ _ _ _ _ _ _ _ _ _ _ _ _ _ _ _ _ _ _ _ _ _ _ _ _ _ _ _ _ _ _ _ _ _ _ _ v' w6 HO6.out HB6.out
  ·by_cases t16:t=16
   ·have HRK:Hid (recE here t ⟨nd,idn,snm,tag,ad,po,pa1,ver,gon⟩=0):=by subst t16;rfl
    have HR1:Hid (rec1 name here t ⟨nd,idn,snm,tag,ad,po,pa1,ver,gon⟩=⟨name,t,0,0,idn,0,⟨#[]⟩⟩):=by subst t16;rfl
    have hQY:=HQY1.out
    rw [HR1.out] at hQY
    have HQY:Hid _:=hQY
    have g1:(t == 1)=false:=by simpa using t1
    have g2:(t == 16)=true:=by simpa using t16
    clear hQY HQY1 HQE1 t1 t16 HP
    go_wp2_with fail
    go_quiet (fail)
    obtain ⟨W,hW⟩:∃ W,W=w.drewN nq:=⟨_,rfl⟩
    rw [← hW]
    have HBW:Hid (Below B w W):=by rw [hW];exact belowN (Below.refl _ _) _
    have HOW:Hid (Rc.Own B W vo DL):=by rw [hW];exact HO
    have e0:W.cell? ⟨b,off+k * 9,none⟩=some (.string nd):=by rw [hW];exact c0
    have e1:W.cell? ⟨b,off+k * 9+1,none⟩=some (.string idn):=by rw [hW];exact c1
    have e4:W.cell? ⟨b,off+k * 9+4,none⟩=some (.int .i64 ad):=by rw [hW];exact c4
    have e5:W.cell? ⟨b,off+k * 9+5,none⟩=some (.int .i64 po):=by rw [hW];exact c5
    have hlW:b < W.heap.size:=by rw [hW];exact hl1
    have hBW:B≤W.heap.size:=by rw [hW];exact hBw
    clear hW c0 c1 c4 c5 s0 hl1 hl2
    go_wp2_with (at_builtin;refine wpList_append_own _ rfl _ _ 36 rfl B 59 i0 _ 7 80 Tryz.underlying36 hi0 hz0 hzs hzb rfl (by omega) _ DL.length (Rc.fl DL) rfl ?hown _ 1 1 [.string name,.int .i64 t,.int .i64 0,.int .i64 0,.string idn,.int .i64 0,.string ⟨#[]⟩] rfl rfl ?hnews (Rc.cs_one ⟨name,t,0,0,idn,0,⟨#[]⟩⟩) ?h63 ?hbytes ?hbase ?_)
    case hown=>exact (HOW.out.below ((Below.refl _ _).alloc (Nat.le_refl _) _)).below ((Below.refl _ _).alloc (Nat.le_refl _) _)
    case hnews=>(intro j u hj;rw [Addr.add_lit];exact (cell_topL (by simp)).trans (by simpa using hj))
    case h63=>(unfold maxLen;omega)
    case hbytes=>omega
    case hbase=>(simp;omega)
    intro v' w6 r1 r2 r3
    have HB6:Hid (Below B w w6):=((HBW.out.alloc hBW _).alloc (by simp<;>omega) _).grown r2 (by simp<;>omega) (fun j hj=>(HOW.out.lt j hj).1)
    have HO6:Hid (Rc.Own B w6 v' (DL++[⟨name,t,0,0,idn,0,⟨#[]⟩⟩])):=Rc.own_snoc r1
    clear r1 r2 r3
    go_wp2_with fail
    exact HQY.out HRK.out _ _ _ _ _ _ _ _ _ _ _ _ _ _ _ _ _ _ _ _ _ _ _ _ _ _ _ _ _ _ _ _ _ _ _ _ _ _ _ _ _ _ _ _ _ _ _ _ _ _ _ _ _ _ _ _ _ _ v' w6 HO6.out HB6.out
   ·have g1:(t == 1)=false:=by simpa using t1
    have g2:(t == 16)=false:=by simpa using t16
    by_cases t33:t=33
    ·have HRE:Hid (recE here t ⟨nd,idn,snm,tag,ad,po,pa1,ver,gon⟩=prE (qN nd here)):=by subst t33;rfl
     have HR1:Hid (rec1 name here t ⟨nd,idn,snm,tag,ad,po,pa1,ver,gon⟩=⟨name,t,0,0,⟨#[]⟩,po,prS (qN nd here)⟩):=by subst t33;rfl
     have hQY:=HQY1.out
     rw [HR1.out] at hQY
     have HQY:Hid _:=hQY
     have hQE:=HQE1.out
     rw [HRE.out] at hQE
     have HQX:Hid _:=hQE
     have HRK0:Hid (prE (qN nd here)=0→recE here t ⟨nd,idn,snm,tag,ad,po,pa1,ver,gon⟩=0):=fun h=>HRE.out.trans h
     have g3:(t == 33)=true:=by simpa using t33
     clear hQY hQE HQY1 HQE1 t1 t16 t33
     generalize prE (qN nd here)=PE at *
     generalize prS (qN nd here)=PS at *
     go_wp2_with fail
     go_quiet (fail)
     obtain ⟨W,hW⟩:∃ W,W=w.drewN nq:=⟨_,rfl⟩
     rw [← hW]
     have HBW:Hid (Below B w W):=by rw [hW];exact belowN (Below.refl _ _) _
     have HOW:Hid (Rc.Own B W vo DL):=by rw [hW];exact HO
     have e0:W.cell? ⟨b,off+k * 9,none⟩=some (.string nd):=by rw [hW];exact c0
     have e1:W.cell? ⟨b,off+k * 9+1,none⟩=some (.string idn):=by rw [hW];exact c1
     have e4:W.cell? ⟨b,off+k * 9+4,none⟩=some (.int .i64 ad):=by rw [hW];exact c4
     have e5:W.cell? ⟨b,off+k * 9+5,none⟩=some (.int .i64 po):=by rw [hW];exact c5
     have hlW:b < W.heap.size:=by rw [hW];exact hl1
     have hBW:B≤W.heap.size:=by rw [hW];exact hBw
     clear hW c0 c1 c4 c5 s0 hl1 hl2
     go_wp2_with fail
     refine Calls.mono (HP.out _) ?_
     rintro e w3 ⟨rfl,hb3⟩
     have hs3:W.heap.size+1≤w3.heap.size:=by have:=hb3.size;simpa using this
     have hg3:w3.heap[W.heap.size]?=some (.cells #[.string name,.int .i64 t,.int .i64 0,.int .i64 0,.string ⟨#[]⟩,.int .i64 po,.string ⟨#[]⟩] 59 (0,0)):=(hb3.block _ (by simp)).trans (heap_alloc_new W _)
     have HB3:Hid (Below B w w3):=(HBW.out.alloc hBW _).trans (hb3.mono (by simp<;>omega))
     have HO3:Hid (Rc.Own B w3 vo DL):=(HOW.out.below ((Below.refl _ _).alloc (Nat.le_refl _) _)).below hb3
     have HLT:Hid (∀ g,vo.ownBlock=some g→g < W.heap.size):=fun g h=>(World.ownsRow.lt HOW.out g h).2
     have l0:w3.cell? ⟨W.heap.size,0,none⟩=some (.string name):=cellsAt hg3 0
     have l1:w3.cell? ⟨W.heap.size,1,none⟩=some (.int .i64 t):=cellsAt hg3 1
     have l2:w3.cell? ⟨W.heap.size,2,none⟩=some (.int .i64 0):=cellsAt hg3 2
     have l3:w3.cell? ⟨W.heap.size,3,none⟩=some (.int .i64 0):=cellsAt hg3 3
     have l4:w3.cell? ⟨W.heap.size,4,none⟩=some (.string ⟨#[]⟩):=cellsAt hg3 4
     have l5:w3.cell? ⟨W.heap.size,5,none⟩=some (.int .i64 po):=cellsAt hg3 5
     have l6:w3.cell? ⟨W.heap.size,6,none⟩=some (.string ⟨#[]⟩):=cellsAt hg3 6
     have z6:w3.frozen? ⟨W.heap.size,6,none⟩=false:=by simp [World.frozen?,hg3]
     clear hb3 hg3 e0 e1 e4 e5
     by_cases h0:PE=0
     ·have HRK:Hid (recE here t ⟨nd,idn,snm,tag,ad,po,pa1,ver,gon⟩=0):=HRK0.out h0
      have HB4:Hid (Below B w (w3.setCell ⟨W.heap.size,6,none⟩ (.string PS))):=HB3.out.setCell (p:=⟨W.heap.size,6,none⟩) hBW _
      have HO4:Hid (Rc.Own B (w3.setCell ⟨W.heap.size,6,none⟩ (.string PS)) vo DL):=by
       have h:=HO3.out
       rcases h.2 with ⟨hv,h0⟩ | ⟨g,c,cur,hv,hbg,hg,hrest⟩
       ·exact ⟨h.1,.inl ⟨hv,h0⟩⟩
       ·exact ⟨h.1,.inr ⟨g,c,cur,hv,hbg,(Below.heap_setCell _ _ _ g (by have:=HLT.out g (by rw [hv];rfl);show g≠W.heap.size;omega)).trans hg,hrest⟩⟩
      subst h0
      clear HRK0 HQX
      go_wp2_with (at_builtin;refine wpList_append_own _ rfl _ _ 36 rfl B 59 i0 _ 7 80 Tryz.underlying36 hi0 hz0 hzs hzb rfl (by omega) _ DL.length (Rc.fl DL) rfl ?hown _ 1 1 [.string name,.int .i64 t,.int .i64 0,.int .i64 0,.string ⟨#[]⟩,.int .i64 po,.string PS] rfl rfl ?hnews (Rc.cs_one ⟨name,t,0,0,⟨#[]⟩,po,PS⟩) ?h63 ?hbytes ?hbase ?_)
      case hown=>exact HO4.out.below ((Below.refl _ _).alloc (Nat.le_refl _) _)
      case hnews=>(intro j u hj;rw [Addr.add_lit];exact (cell_topL (by simp)).trans (by simpa using hj))
      case h63=>(unfold maxLen;omega)
      case hbytes=>omega
      case hbase=>(simp;omega)
      intro v' w6 r1 r2 r3
      have HB6:Hid (Below B w w6):=((HB4.out.alloc (by simp<;>omega) _)).grown r2 (by simp<;>omega) (fun j hj=>(HO4.out.lt j hj).1)
      have HO6:Hid (Rc.Own B w6 v' (DL++[⟨name,t,0,0,⟨#[]⟩,po,PS⟩])):=Rc.own_snoc r1
      clear r1 r2 r3
      go_wp2_with fail
      exact HQY.out HRK.out _ _ _ _ _ _ _ _ _ _ _ _ _ _ _ _ _ _ _ _ _ _ _ _ _ _ _ _ _ _ _ _ _ _ _ _ _ _ _ _ _ _ _ _ _ _ _ _ _ _ _ _ _ _ _ _ _ _ v' w6 HO6.out HB6.out
     ·have h0':(PE != 0)=true:=by simpa using h0
      have HQZ:Hid _:=HQX.out h0
      have HB4:Hid (Below B w (w3.setCell ⟨W.heap.size,6,none⟩ (.string PS))):=HB3.out.setCell (p:=⟨W.heap.size,6,none⟩) hBW _
      clear HRK0 HQX h0
      go_wp2_with fail
      exact HQZ.out _ _ ⟨rfl,rfl,rfl,rfl⟩ HB4.out
    ·have HRK:Hid (recE here t ⟨nd,idn,snm,tag,ad,po,pa1,ver,gon⟩=0):=by show recE _ _ _=0;unfold recE;rw [if_neg t33]
     have HR1:Hid (rec1 name here t ⟨nd,idn,snm,tag,ad,po,pa1,ver,gon⟩=⟨name,t,0,0,⟨#[]⟩,0,⟨#[]⟩⟩):=by show rec1 _ _ _ _=_;unfold rec1;rw [if_neg t1,if_neg t16,if_neg t33,if_neg t33]
     have hQY:=HQY1.out
     rw [HR1.out] at hQY
     have HQY:Hid _:=hQY
     have g3:(t == 33)=false:=by simpa using t33
     clear hQY HQY1 HQE1 t1 t16 t33 HP
     go_wp2_with fail
     go_quiet (fail)
     obtain ⟨W,hW⟩:∃ W,W=w.drewN nq:=⟨_,rfl⟩
     rw [← hW]
     have HBW:Hid (Below B w W):=by rw [hW];exact belowN (Below.refl _ _) _
     have HOW:Hid (Rc.Own B W vo DL):=by rw [hW];exact HO
     have e0:W.cell? ⟨b,off+k * 9,none⟩=some (.string nd):=by rw [hW];exact c0
     have e1:W.cell? ⟨b,off+k * 9+1,none⟩=some (.string idn):=by rw [hW];exact c1
     have e4:W.cell? ⟨b,off+k * 9+4,none⟩=some (.int .i64 ad):=by rw [hW];exact c4
     have e5:W.cell? ⟨b,off+k * 9+5,none⟩=some (.int .i64 po):=by rw [hW];exact c5
     have hlW:b < W.heap.size:=by rw [hW];exact hl1
     have hBW:B≤W.heap.size:=by rw [hW];exact hBw
     clear hW c0 c1 c4 c5 s0 hl1 hl2
     go_wp2_with (at_builtin;refine wpList_append_own _ rfl _ _ 36 rfl B 59 i0 _ 7 80 Tryz.underlying36 hi0 hz0 hzs hzb rfl (by omega) _ DL.length (Rc.fl DL) rfl ?hown _ 1 1 [.string name,.int .i64 t,.int .i64 0,.int .i64 0,.string ⟨#[]⟩,.int .i64 0,.string ⟨#[]⟩] rfl rfl ?hnews (Rc.cs_one ⟨name,t,0,0,⟨#[]⟩,0,⟨#[]⟩⟩) ?h63 ?hbytes ?hbase ?_)
     case hown=>exact (HOW.out.below ((Below.refl _ _).alloc (Nat.le_refl _) _)).below ((Below.refl _ _).alloc (Nat.le_refl _) _)
     case hnews=>(intro j u hj;rw [Addr.add_lit];exact (cell_topL (by simp)).trans (by simpa using hj))
     case h63=>(unfold maxLen;omega)
     case hbytes=>omega
     case hbase=>(simp;omega)
     intro v' w6 r1 r2 r3
     have HB6:Hid (Below B w w6):=((HBW.out.alloc hBW _).alloc (by simp<;>omega) _).grown r2 (by simp<;>omega) (fun j hj=>(HOW.out.lt j hj).1)
     have HO6:Hid (Rc.Own B w6 v' (DL++[⟨name,t,0,0,⟨#[]⟩,0,⟨#[]⟩⟩])):=Rc.own_snoc r1
     clear r1 r2 r3
     go_wp2_with fail
     exact HQY.out HRK.out _ _ _ _ _ _ _ _ _ _ _ _ _ _ _ _ _ _ _ _ _ _ _ _ _ _ _ _ _ _ _ _ _ _ _ _ _ _ _ _ _ _ _ _ _ _ _ _ _ _ _ _ _ _ _ _ _ _ v' w6 HO6.out HB6.out
 ·obtain ⟨h3,h4⟩:=beq_name hne
  have HQ1:Hid _:=HQN.out hne
  clear HQN HQY0 HQE hne
  go_wp2_with fail
  go_quiet (fail)
  go_wp2_with fail
  exact HQ1.out _ _ _ _ _ _ _ _ _ _ _ _ _ _ _ _ _ _ _ _ _ _ _ _ _ _ _ _ _ _ _ _ _ _ _ _ _ _ _ _ _ _ _ _ _ _ _ _ _ _ _ _ _ _ _ _ _ _ _ (show Rc.Own B (w.drewN _) _ _ from HO.out) (belowN (Below.refl _ _) _)
def fk0 (SL:List ByteArray) (L:List Sv.Svc) (i k:Nat):List Sv.Svc:=allN (SL.take i) L++ofN (L.take k) (SL.getD i ByteArray.empty)
def fk (SL:List ByteArray) (L:List Sv.Svc) (i k:Nat):List Sv.Svc:=(fk0 SL L i k).take 20
theorem fk_len (SL:List ByteArray) (L:List Sv.Svc) (i k:Nat):(fk SL L i k).length≤20:=List.length_take_le _ _
theorem fk_start (SL:List ByteArray) (L:List Sv.Svc):fk SL L 0 0=[]:=by simp [fk,fk0,allN,ofN]
theorem fk0_zero (SL:List ByteArray) (L:List Sv.Svc) (i:Nat):fk0 SL L i 0=allN (SL.take i) L:=by simp [fk0,ofN]
theorem fk0_full {SL:List ByteArray} {L:List Sv.Svc} {i k:Nat} (hi:i < SL.length) (hk:L.length≤k):fk0 SL L i k=fk0 SL L (i+1) 0:=by
 rw [fk0_zero,fk0,List.take_of_length_le hk,allN_snoc hi]
theorem fk_no {SL:List ByteArray} {L:List Sv.Svc} {i k:Nat} (hk:k < L.length) (h:(L.getD k Sv.dm).node≠SL.getD i ByteArray.empty):fk SL L i (k+1)=fk SL L i k:=by
 have e:ofN (L.take (k+1)) (SL.getD i ByteArray.empty)=ofN (L.take k) (SL.getD i ByteArray.empty):=by
  rw [take_snocS hk]
  exact ofN_snoc_other _ _ (Ne.symm h)
 unfold fk fk0
 rw [e]
theorem fk_yes {SL:List ByteArray} {L:List Sv.Svc} {i k:Nat} (hk:k < L.length) (h:(L.getD k Sv.dm).node=SL.getD i ByteArray.empty) (hl:(fk SL L i k).length < 20):fk SL L i (k+1)=fk SL L i k++[L.getD k Sv.dm]:=by
 have e:ofN (L.take (k+1)) (SL.getD i ByteArray.empty)=ofN (L.take k) (SL.getD i ByteArray.empty)++[L.getD k Sv.dm]:=by
  rw [take_snocS hk,← h]
  exact ofN_snoc_same _ _
 have hlen:(fk0 SL L i k).length < 20:=by
  unfold fk at hl
  rw [List.length_take] at hl
  omega
 have e2:fk0 SL L i (k+1)=fk0 SL L i k++[L.getD k Sv.dm]:=by
  unfold fk0
  rw [e,List.append_assoc]
 unfold fk
 rw [e2,List.take_of_length_le (by rw [List.length_append,List.length_singleton];omega),List.take_of_length_le (by omega)]
theorem fk0_pre {SL:List ByteArray} {L:List Sv.Svc} {i k:Nat} (hi:i < SL.length):∃ R,allN SL L=fk0 SL L i k++R:=by
 have e1:SL=SL.take i++(SL.getD i ByteArray.empty :: SL.drop (i+1)):=by
  have h1:SL.getD i ByteArray.empty=SL[i]:=by simp [List.getD,List.getElem?_eq_getElem hi]
  rw [h1,← List.drop_eq_getElem_cons hi,List.take_append_drop]
 have e2:ofN L (SL.getD i ByteArray.empty)=ofN (L.take k) (SL.getD i ByteArray.empty)++ofN (L.drop k) (SL.getD i ByteArray.empty):=by
  unfold ofN
  rw [← List.filter_append,List.take_append_drop]
 refine ⟨ofN (L.drop k) (SL.getD i ByteArray.empty)++allN (SL.drop (i+1)) L,?_⟩
 have e3:allN SL L=allN (SL.take i) L++(ofN L (SL.getD i ByteArray.empty)++allN (SL.drop (i+1)) L):=by
  conv=>lhs;rw [e1]
  unfold allN
  rw [List.flatMap_append,List.flatMap_cons]
 rw [e3,e2,fk0]
 simp [List.append_assoc]
theorem fk_pre {SL:List ByteArray} {L:List Sv.Svc} {i k:Nat} (hi:i < SL.length):∃ R,(allN SL L).take 20=fk SL L i k++R:=by
 obtain ⟨R,h⟩:=fk0_pre (L:=L) (k:=k) hi
 exact ⟨R.take (20 - (fk0 SL L i k).length),by rw [h,List.take_append];rfl⟩
theorem fk_over {SL:List ByteArray} {L:List Sv.Svc} {i k:Nat} (hi:i < SL.length) (hl:¬ (fk SL L i k).length < 20):fk SL L i k=fk SL L (i+1) 0:=by
 have hlen:20≤(fk0 SL L i k).length:=by
  unfold fk at hl
  rw [List.length_take] at hl
  omega
 have e:fk0 SL L (i+1) 0=fk0 SL L i k++ofN (L.drop k) (SL.getD i ByteArray.empty):=by
  rw [fk0_zero,allN_snoc hi,fk0]
  have e2:ofN L (SL.getD i ByteArray.empty)=ofN (L.take k) (SL.getD i ByteArray.empty)++ofN (L.drop k) (SL.getD i ByteArray.empty):=by
   unfold ofN
   rw [← List.filter_append,List.take_append_drop]
  rw [e2,List.append_assoc]
 unfold fk
 rw [e,List.take_append_of_le_length hlen]
theorem fk_full {SL:List ByteArray} {L:List Sv.Svc} {i k:Nat} (hi:i < SL.length) (hk:L.length≤k):fk SL L i k=fk SL L (i+1) 0:=by
 unfold fk;rw [fk0_full hi hk]
theorem fk_end {SL:List ByteArray} {L:List Sv.Svc} {i:Nat} (hi:SL.length≤i):fk SL L i 0=(allN SL L).take 20:=by
 unfold fk;rw [fk0_zero,List.take_of_length_le hi]
def noE (here:ByteArray) (t:Int) (l:List Sv.Svc):Prop:=∀ j,j < l.length→recE here t (l.getD j Sv.dm)=0
theorem noE_snoc {here:ByteArray} {t:Int} {l:List Sv.Svc} {x:Sv.Svc} (h:noE here t l) (hx:recE here t x=0):noE here t (l++[x]):=fun j hj=>by
 by_cases e:j < l.length
 ·have:=h j e
  simpa [List.getD,List.getElem?_append_left e] using this
 ·have e2:j=l.length:=by simp at hj;omega
  subst e2
  simpa [List.getD] using hx
theorem noE_err {here:ByteArray} {t:Int} {l R:List Sv.Svc} {x:Sv.Svc} (h:noE here t l) (hx:recE here t x≠0):recsE here t (l++x :: R)=recE here t x:=by
 have e:(l++x :: R).getD l.length Sv.dm=x:=by simp [List.getD]
 have:=recsE_at (here:=here) (t:=t) (L:=l++x :: R) (k:=l.length) (by simp) (fun j hj=>by
  have h2:=h j hj
  simpa [List.getD,List.getElem?_append_left hj] using h2) (by rw [e];exact hx)
 rw [this,e]
theorem noE_all {here:ByteArray} {t:Int} {l:List Sv.Svc} (h:noE here t l):recsE here t l=0:=recsE_all h
theorem fk_err {here:ByteArray} {t:Int} {SL:List ByteArray} {L:List Sv.Svc} {i k:Nat} (hi:i < SL.length) (hk:k < L.length) (h:(L.getD k Sv.dm).node=SL.getD i ByteArray.empty) (hl:(fk SL L i k).length < 20) (hz:noE here t (fk SL L i k)) (hx:recE here t (L.getD k Sv.dm)≠0):recsE here t ((allN SL L).take 20)=recE here t (L.getD k Sv.dm):=by
 obtain ⟨R,hR⟩:=fk_pre (L:=L) (k:=k+1) hi
 rw [hR,fk_yes hk h hl,List.append_assoc]
 exact noE_err hz hx
theorem nodesR_live {ms:List Mem} {L:List Sv.Svc} {k:Nat} (hk:k < L.length):nodesR (liveL ms (L.take (k+1)))=if outB ms (L.getD k Sv.dm).node=true then nodesR (liveL ms (L.take k)) else addR (nodesR (liveL ms (L.take k))) (L.getD k Sv.dm).node:=by
 rw [take_snocS hk]
 by_cases h:outB ms (L.getD k Sv.dm).node=true
 ·rw [if_pos h,live_skip h]
 ·have h2:outB ms (L.getD k Sv.dm).node=false:=by simpa using h
  rw [if_neg h,live_snoc h2,nodesR_snoc]
theorem nodesR_len (L:List Sv.Svc):(nodesR L).length≤L.length:=by
 refine snoc_ind (p:=fun L=>(nodesR L).length≤L.length) (by simp [nodesR]) (fun l s ih=>?_) L
 rw [nodesR_snoc]
 unfold addR
 split<;>simp<;>omega
theorem rcown_slice {B:Nat} {w:World} {v:Value} {ms:List Rc.Rec} (h:Rc.Own B w v ms):∃ p c,v=.slice p ms.length c:=by
 rcases h.2 with ⟨hv,h0⟩ | ⟨g,c,cur,hv,_⟩
 ·exact ⟨none,0,by rw [hv,h0]⟩
 ·exact ⟨_,c,hv⟩
theorem KnOk.okP {here:ByteArray} {sv:List Sv.Svc} {ms:List Mem} {p:Pl} {wh:List Wh.Whe} (h:KnOk here sv ms p wh):wh.length≤100∧OkP p∧∀ j,j < wh.length→OkP (toPl (plc (wh.getD j Wh.dm))):=by
 obtain ⟨h1,_⟩:=h.sort (ns:=[]) (by simp)
 obtain ⟨h2,_,h3,h4⟩:=sortE_zero h1
 exact ⟨h2,h3,h4⟩
theorem find_up {sv:List Sv.Svc} (name tag:ByteArray) (h:Sv.chk sv=0):UpN (Sv.findL sv name tag):=upN_of (List.Pairwise.sublist (List.filter_sublist) (Sv.chk_zero h).2.1)
theorem live_up {ms:List Mem} {L:List Sv.Svc} (h:UpN L):UpN (liveL ms L):=List.Pairwise.sublist (List.filter_sublist) h
set_option maxHeartbeats 12800000 in
set_option maxRecDepth 1000000 in
theorem rloop1 {u0 u1 u2 u3 u5 u6 u7 u8 u9 aa ab ac af ag ah ai aj ak am ar au aw ay az aA aB aC aD aE aF aG aH aI aJ aK aL aM aN aO aP aQ aR aS aT aU aV aW aX aY aZ ba bb bc bd be bf bh bi bj bp bq br bu bw bz bA bB bC bD bE bF bG bH bI bJ bK bL bM bN bO bP bQ bS bT bU bV bW bX bY bZ cc cd cg ch cj ck cr cx cy cz cA cB cC cD cE cF cG cH cI cJ cK cM cO cP cQ cR cS cT cU cV cW cX cY cZ da dc dd de df dg dh di dj dl dn dr dt du dv dw dx dA dB dC dD dE dF dG dH dI dJ dK dL dM dO dP dQ dR dS dT dU dW dX dY dZ ea eb ed ee eh ei ej el em eo er eu ew ex ey ez eA eC eD eE eF eG eH eI eJ eK eL eM eN eO eP eQ eR eS eT eU eV eW eX eY eZ e9 fa fb fc fe ff fh fj fm fo fp fq fs ft fu fw fx fy fA fB fC:Value} (ms:List Mem) (FL:List Sv.Svc) (pm pf:Option Addr) (nm cm n cf:Nat) (X:World) (hms:chk ms=0) (hfl:n≤40) (HUP:Hid (nodesR (liveL ms FL)=nodesP (liveL ms FL)))
 (HMX:Hid (Sl X (.slice pm nm cm) ms)) (HFX:Hid (Sv.Sl X (.slice pf n cf) FL)) (HNN:Hid (FL.length=n)) (Q:Exit→Act→World→Prop)
 (hN:∀ (j2 hU j3 j4 j5 j6 j7 j8 hZ ia ib ic ie ig ii ij ik il im io ip iq ir iu iw ix iy iz iA iB iC iD iE iF iG iH iI iJ iK iL iM iN iO iP iQ iR iS iT iU iV vn:Value) (wx:World),Hid (OwnS X.heap.size wx vn (nodesP (liveL ms FL)))→Hid (Below X.heap.size X wx)→Q .normal ⟨#[u0,u1,u2,u3,.slice pm nm cm,u5,u6,u7,u8,u9,aa,ab,ac,af,ag,ah,ai,aj,ak,am,.slice pf n cf,vn,j2,hU,au,aw,ay,az,aA,aB,aC,aD,aE,aF,aG,aH,aI,aJ,aK,aL,aM,aN,aO,aP,aQ,aR,aS,aT,aU,aV,aW,aX,aY,aZ,ba,bb,bc,bd,be,bf,bh,bi,bj,bp,bq,br,bu,bw,bz,bA,bB,bC,bD,bE,bF,bG,bH,bI,bJ,bK,bL,bM,bN,bO,bP,bQ,bS,bT,bU,bV,bW,bX,bY,bZ,cc,cd,cg,ch,j3,j4,j5,j6,j7,j8,hZ,ia,ib,ic,ie,ig,ii,ij,ik,il,im,io,ip,iq,ir,iu,iw,ix,iy,iz,iA,iB,iC,iD,iE,iF,iG,iH,iI,iJ,iK,iL,iM,iN,iO,iP,iQ,iR,iS,iT,iU,iV,dB,dC,dD,dE,dF,dG,dH,dI,dJ,dK,dL,dM,dO,dP,dQ,dR,dS,dT,dU,dW,dX,dY,dZ,ea,eb,ed,ee,eh,ei,ej,el,em,eo,er,eu,ew,ex,ey,ez,eA,eC,eD,eE,eF,eG,eH,eI,eJ,eK,eL,eM,eN,eO,eP,eQ,eR,eS,eT,eU,eV,eW,eX,eY,eZ,e9,fa,fb,fc,fe,ff,fh,fj,fm,fo,fp,fq,fs,ft,fu,fw,fx,fy,fA,fB,fC],[]⟩ wx) :
 Code.wp Tryz.prog ((Tryz.f17.body.bind (blkIn 0)).getD .skip) Q ⟨#[u0,u1,u2,u3,.slice pm nm cm,u5,u6,u7,u8,u9,aa,ab,ac,af,ag,ah,ai,aj,ak,am,.slice pf n cf,.slice none 0 0,.int .i64 0,ar,au,aw,ay,az,aA,aB,aC,aD,aE,aF,aG,aH,aI,aJ,aK,aL,aM,aN,aO,aP,aQ,aR,aS,aT,aU,aV,aW,aX,aY,aZ,ba,bb,bc,bd,be,bf,bh,bi,bj,bp,bq,br,bu,bw,bz,bA,bB,bC,bD,bE,bF,bG,bH,bI,bJ,bK,bL,bM,bN,bO,bP,bQ,bS,bT,bU,bV,bW,bX,bY,bZ,cc,cd,cg,ch,cj,ck,cr,cx,cy,cz,cA,cB,cC,cD,cE,cF,cG,cH,cI,cJ,cK,cM,cO,cP,cQ,cR,cS,cT,cU,cV,cW,cX,cY,cZ,da,dc,dd,de,df,dg,dh,di,dj,dl,dn,dr,dt,du,dv,dw,dx,dA,dB,dC,dD,dE,dF,dG,dH,dI,dJ,dK,dL,dM,dO,dP,dQ,dR,dS,dT,dU,dW,dX,dY,dZ,ea,eb,ed,ee,eh,ei,ej,el,em,eo,er,eu,ew,ex,ey,ez,eA,eC,eD,eE,eF,eG,eH,eI,eJ,eK,eL,eM,eN,eO,eP,eQ,eR,eS,eT,eU,eV,eW,eX,eY,eZ,e9,fa,fb,fc,fe,ff,fh,fj,fm,fo,fp,fq,fs,ft,fu,fw,fx,fy,fA,fB,fC],[]⟩ X:=by
 conv=>arg 2;whnf
 have HQN:Hid _:=hN
 clear hN
 have HSTEP:Hid (∀ k,k < n→nodesR (liveL ms (FL.take (k+1)))=if outB ms (FL.getD k Sv.dm).node=true then nodesR (liveL ms (FL.take k)) else addR (nodesR (liveL ms (FL.take k))) (FL.getD k Sv.dm).node):=fun k hk=>nodesR_live (by rw [HNN.out];exact hk)
 have HLEN:Hid (∀ k,(nodesR (liveL ms (FL.take k))).length≤40):=fun k=>by
  have h1:=nodesR_len (liveL ms (FL.take k))
  have h2:=live_len ms (FL.take k)
  have h3:(FL.take k).length≤FL.length:=List.length_take_le' _ _
  have h4:=HNN.out
  omega
 go_wp2_with fail
 go_loopw [21,22] (fun vn i wr=>∃ k:Nat,k≤n∧i=.int .i64 k∧Hid (OwnS X.heap.size wr vn (nodesR (liveL ms (FL.take k))))∧Hid (Below X.heap.size X wr)) (fun _ i _=>n - (intOf i).toNat)
 case atStart=>exact ⟨0,Nat.zero_le _,rfl,ownS_nil _ _,Below.refl _ _⟩
 case round=>
  obtain ⟨k,hkn,rfl,HO,HB⟩:=hrel
  have hsr:=HB.out.size
  by_cases hlt:k < n
  ·have hlen:=HLEN.out k
   go_upto_block 1 with fail
   refine rr1 X.heap.size ms FL pm pf nm cm n cf k u21 (nodesR (liveL ms (FL.take k))) wr hms hlt hlen hsr (HMX.out.below HB.out) (HFX.out.below HB.out) HO _ ?_
   intro _ _ _ _ _ _ _ _ _ _ _ _ _ _ _ _ _ _ _ _ _ _ _ _ _ _ _ _ _ _ _ _ _ _ _ _ _ _ _ _ _ _ _ vn' wx ho hb
   have HO2:Hid (OwnS X.heap.size wx vn' (nodesR (liveL ms (FL.take (k+1))))):=by rw [HSTEP.out k hlt];exact ho
   have HB2:Hid (Below X.heap.size X wx):=HB.out.trans hb.out
   clear ho hb
   go_wp2_with fail
   go_roundw
   case rel=>exact ⟨k+1,by omega,by go_num,HO2,HB2⟩
   case measure=>simp [intOf];omega
  ·have HON:Hid (OwnS X.heap.size wr u21 (nodesP (liveL ms FL))):=by
    have h:=HO.out
    rw [List.take_of_length_le (by rw [HNN.out];omega),HUP.out] at h
    exact h
   go_wp2_with fail
   exact HQN.out _ _ _ _ _ _ _ _ _ _ _ _ _ _ _ _ _ _ _ _ _ _ _ _ _ _ _ _ _ _ _ _ _ _ _ _ _ _ _ _ _ _ _ _ _ _ _ _ _ _ _ _ HON HB
set_option maxHeartbeats 12800000 in
set_option maxRecDepth 1000000 in
theorem rloop2 {u0 u3 u4 u5 u6 u7 u8 u9 aa ab ac af ag ah ai am aq ar ay az aA aB aC aD aE aF aG aH aI aJ aK aL aM aN aO aP aQ aR aS aT aU aV aW aX aY aZ ba bb bc bd be bf bh bi bj bp bq br bu bw bz bA bB bC bD bE bF bG bH bI bJ bK bL bM bN bO bP bQ bS bT bU bV bW bX bY bZ cc cd cg ch cj ck cr cx cy cz cA cB cC cD cE cF cG cH cI cJ cK cM cO cP cQ cR cS cT cU cV cW cX cY cZ da dc dd de df dg dh di dj dl dn dr dt du dv dw dx dA dB dC dD dE dF dG dH dI dJ dK dL dM dO dP dQ dR dS dT dU dW dX dY dZ ea eb ed ee eh ei ej el em eo er eu ew ex ey ez eA eC eD eE eF eG eH eI eJ eK eL eM eN eO eP eQ eR eS eT eU eV eW eX eY eZ e9 fa fb fc fe ff fh fj fm fo fp fq fs ft fu fw fx fy fA fB fC:Value} (name here:ByteArray) (t:Int) (FL NL:List Sv.Svc) (SL:List ByteArray) (pf pn:Option Addr) (n cf m cn:Nat) (Y:World) (hhm:here.size≤maxLen) (hfl:n≤40) (hml:m≤100) (HNR:Hid (NL=(allN SL FL).take 20))
 (HFY:Hid (Sv.Sl Y (.slice pf n cf) FL)) (HTY:Hid (TSl Y (.slice pn m cn) SL)) (HNN:Hid (FL.length=n)) (HMM:Hid (SL.length=m)) (Q:Exit→Act→World→Prop)
 (hN:∀ (j9 ka kc kd kf iW kg kh ki kj kk km ko kr ks kt ku kv kw kx ky kz kA iX iY iZ i1 i2 i6 i7 i8 ja jb jc je jf jg jh ji jj jk jl jm jo jp jq jr js ju jv jw jx jy jz jA jC jD jE jF jG jH jI jJ jK jL jM jN jO jP jQ jR jS jT jU jV jW jX jY jZ j1 vo:Value) (wx:World),Hid (Rc.Own Y.heap.size wx vo (NL.map (rec1 name here t)))→Hid (recsE here t NL=0)→Hid (Below Y.heap.size Y wx)→Q .normal ⟨#[u0,.int .i64 t,.string here,u3,u4,u5,u6,u7,u8,u9,aa,ab,ac,af,j9,ka,kc,.int .i64 0,.string name,am,.slice pf n cf,.slice pn m cn,aq,ar,vo,kd,kf,iW,aA,aB,aC,aD,aE,aF,aG,aH,aI,aJ,aK,aL,aM,aN,aO,aP,aQ,aR,aS,aT,aU,aV,aW,aX,aY,aZ,ba,bb,bc,bd,be,bf,bh,bi,bj,bp,bq,br,bu,bw,bz,bA,bB,bC,bD,bE,bF,bG,bH,bI,bJ,bK,bL,bM,bN,bO,bP,bQ,bS,bT,bU,bV,bW,bX,bY,bZ,cc,cd,cg,ch,cj,ck,cr,cx,cy,cz,cA,cB,cC,cD,cE,cF,cG,cH,cI,cJ,cK,cM,cO,cP,cQ,cR,cS,cT,cU,cV,cW,cX,cY,cZ,da,dc,dd,de,df,dg,dh,di,dj,dl,dn,dr,dt,du,dv,dw,dx,dA,dB,dC,dD,dE,kg,kh,ki,kj,kk,km,ko,kr,ks,kt,ku,kv,kw,kx,ky,kz,kA,iX,iY,iZ,i1,i2,i6,i7,i8,ja,jb,jc,je,jf,jg,jh,ji,jj,jk,jl,jm,jo,jp,jq,jr,js,ju,jv,jw,jx,jy,jz,jA,jC,jD,jE,jF,jG,jH,jI,jJ,jK,jL,jM,jN,jO,jP,jQ,jR,jS,jT,jU,jV,jW,jX,jY,jZ,j1,fu,fw,fx,fy,fA,fB,fC],[]⟩ wx)
 (hE:∀ a W,Ret3 (.slice none 0 0) 0 (recsE here t NL) a→recsE here t NL≠0→FL≠[]→Below Y.heap.size Y W→Q .ret a W) :
 Code.wp Tryz.prog ((Tryz.f17.body.bind (blkIn 2)).getD .skip) Q ⟨#[u0,.int .i64 t,.string here,u3,u4,u5,u6,u7,u8,u9,aa,ab,ac,af,ag,ah,ai,.int .i64 0,.string name,am,.slice pf n cf,.slice pn m cn,aq,ar,.slice none 0 0,.int .i64 0,ay,az,aA,aB,aC,aD,aE,aF,aG,aH,aI,aJ,aK,aL,aM,aN,aO,aP,aQ,aR,aS,aT,aU,aV,aW,aX,aY,aZ,ba,bb,bc,bd,be,bf,bh,bi,bj,bp,bq,br,bu,bw,bz,bA,bB,bC,bD,bE,bF,bG,bH,bI,bJ,bK,bL,bM,bN,bO,bP,bQ,bS,bT,bU,bV,bW,bX,bY,bZ,cc,cd,cg,ch,cj,ck,cr,cx,cy,cz,cA,cB,cC,cD,cE,cF,cG,cH,cI,cJ,cK,cM,cO,cP,cQ,cR,cS,cT,cU,cV,cW,cX,cY,cZ,da,dc,dd,de,df,dg,dh,di,dj,dl,dn,dr,dt,du,dv,dw,dx,dA,dB,dC,dD,dE,dF,dG,dH,dI,dJ,dK,dL,dM,dO,dP,dQ,dR,dS,dT,dU,dW,dX,dY,dZ,ea,eb,ed,ee,eh,ei,ej,el,em,eo,er,eu,ew,ex,ey,ez,eA,eC,eD,eE,eF,eG,eH,eI,eJ,eK,eL,eM,eN,eO,eP,eQ,eR,eS,eT,eU,eV,eW,eX,eY,eZ,e9,fa,fb,fc,fe,ff,fh,fj,fm,fo,fp,fq,fs,ft,fu,fw,fx,fy,fA,fB,fC],[]⟩ Y:=by
 conv=>arg 2;whnf
 have HQN:Hid _:=hN
 have HQE:Hid _:=hE
 clear hN hE
 go_wp2_with fail
 go_loopw [17,24,25] (fun e vo i wr=>∃ j:Nat,j≤m∧i=.int .i64 j∧e=.int .i64 0∧Hid (Rc.Own Y.heap.size wr vo ((fk SL FL j 0).map (rec1 name here t)))∧Hid (noE here t (fk SL FL j 0))∧Hid (Below Y.heap.size Y wr)) (fun _ _ i _=>m - (intOf i).toNat)
 case atStart=>exact ⟨0,Nat.zero_le _,rfl,rfl,by rw [fk_start];exact Rc.own_nil _ _,by rw [fk_start];exact fun j hj=>absurd hj (Nat.not_lt_zero _),Below.refl _ _⟩
 case round=>
  obtain ⟨j,hj,rfl,rfl,HO,HZ,HB⟩:=hrel
  by_cases hjm:j < m
  ·have hjl:j < SL.length:=by rw [HMM.out];exact hjm
   go_wp2_with fail
   go_loopw [17,24,26] (fun e vo k wr=>∃ k':Nat,k'≤n∧k=.int .i64 k'∧e=.int .i64 0∧Hid (Rc.Own Y.heap.size wr vo ((fk SL FL j k').map (rec1 name here t)))∧Hid (noE here t (fk SL FL j k'))∧Hid (Below Y.heap.size Y wr)) (fun _ _ k _=>n - (intOf k).toNat)
   case atStart=>exact ⟨0,Nat.zero_le _,rfl,rfl,HO,HZ,HB⟩
   case round=>
    obtain ⟨k,hk,rfl,rfl,HO,HZ,HB⟩:=hrel
    have hsr:=HB.out.size
    obtain ⟨po,co,hvo⟩:=rcown_slice HO.out
    subst hvo
    have hfl2:=fk_len SL FL j k
    by_cases hlt:k < n
    ·have hkl:k < FL.length:=by rw [HNN.out];exact hlt
     by_cases hl20:(fk SL FL j k).length < 20
     ·have HN1:Hid ((FL.getD k Sv.dm).node≠SL.getD j ByteArray.empty→fk SL FL j (k+1)=fk SL FL j k):=fun h=>fk_no hkl h
      have HY1:Hid ((FL.getD k Sv.dm).node=SL.getD j ByteArray.empty→fk SL FL j (k+1)=fk SL FL j k++[FL.getD k Sv.dm]):=fun h=>fk_yes hkl h hl20
      have HE1:Hid ((FL.getD k Sv.dm).node=SL.getD j ByteArray.empty→recE here t (FL.getD k Sv.dm)≠0→recsE here t NL=recE here t (FL.getD k Sv.dm)):=fun h h2=>by rw [HNR.out];exact fk_err hjl hkl h hl20 HZ.out h2
      have hdl:((fk SL FL j k).map (rec1 name here t)).length < 20:=by rw [List.length_map];exact hl20
      have hdl2:((fk SL FL j k).map (rec1 name here t)).length≤20:=by omega
      have hci:(((fk SL FL j k).map (rec1 name here t)).length:Int) < 20:=by omega
      go_upto_block 5 with fail
      refine rr5 Y.heap.size name here t FL SL ((fk SL FL j k).map (rec1 name here t)) pf pn n cf m cn j k _ wr hhm hlt hjm hdl2 hsr (HFY.out.below HB.out) (HTY.out.below HB.out) HO _ ?hN ?hY ?hE
      case hN=>
       intro hmt _ _ _ _ _ _ _ _ _ _ _ _ _ _ _ _ _ _ _ _ _ _ _ _ _ _ _ _ _ _ _ _ _ _ _ _ _ _ _ _ _ _ _ _ _ _ _ _ _ _ _ _ _ _ _ _ _ _ wx ho hb
       have HO2:Hid (Rc.Own Y.heap.size wx (.slice po ((fk SL FL j k).map (rec1 name here t)).length co) ((fk SL FL j (k+1)).map (rec1 name here t))):=by rw [HN1.out hmt];exact ho
       have HZ2:Hid (noE here t (fk SL FL j (k+1))):=by rw [HN1.out hmt];exact HZ
       have HB2:Hid (Below Y.heap.size Y wx):=HB.out.trans hb
       clear ho hb hmt
       go_wp2_with fail
       go_roundw
       case rel=>exact ⟨k+1,by omega,by go_num,rfl,HO2,HZ2,HB2⟩
       case measure=>simp [intOf];omega
      case hY=>
       intro hmt hz0 _ _ _ _ _ _ _ _ _ _ _ _ _ _ _ _ _ _ _ _ _ _ _ _ _ _ _ _ _ _ _ _ _ _ _ _ _ _ _ _ _ _ _ _ _ _ _ _ _ _ _ _ _ _ _ _ _ _ vo' wx ho hb
       have HO2:Hid (Rc.Own Y.heap.size wx vo' ((fk SL FL j (k+1)).map (rec1 name here t))):=by rw [HY1.out hmt,List.map_append];exact ho
       have HZ2:Hid (noE here t (fk SL FL j (k+1))):=by rw [HY1.out hmt];exact noE_snoc HZ.out hz0
       have HB2:Hid (Below Y.heap.size Y wx):=HB.out.trans hb
       clear ho hb hmt hz0
       go_wp2_with fail
       go_roundw
       case rel=>exact ⟨k+1,by omega,by go_num,rfl,HO2,HZ2,HB2⟩
       case measure=>simp [intOf];omega
      case hE=>
       intro hmt hz0 a W hret hb
       have HER:=HE1.out hmt hz0
       exact HQE.out a W (by rw [HER];exact hret) (by rw [HER];exact hz0) (fun h=>by rw [h] at hkl;simp at hkl) (HB.out.trans hb)
     ·have HOV:Hid (fk SL FL j k=fk SL FL (j+1) 0):=fk_over hjl hl20
      have hdl:¬ (((fk SL FL j k).map (rec1 name here t)).length:Int) < 20:=by rw [List.length_map];omega
      have HO2:Hid (Rc.Own Y.heap.size wr (.slice po ((fk SL FL j k).map (rec1 name here t)).length co) ((fk SL FL (j+1) 0).map (rec1 name here t))):=by rw [← HOV.out];exact HO
      have HZ2:Hid (noE here t (fk SL FL (j+1) 0)):=by rw [← HOV.out];exact HZ
      clear HO HZ HOV hl20 hfl2
      generalize ((fk SL FL j k).map (rec1 name here t)).length=ll at *
      go_wp2_with fail
      exact ⟨⟨j+1,by omega,by go_num,rfl,HO2,HZ2,HB⟩,by simp [intOf];omega⟩
    ·have HOV:Hid (fk SL FL j k=fk SL FL (j+1) 0):=fk_full hjl (by rw [HNN.out];omega)
     have HO2:Hid (Rc.Own Y.heap.size wr (.slice po ((fk SL FL j k).map (rec1 name here t)).length co) ((fk SL FL (j+1) 0).map (rec1 name here t))):=by rw [← HOV.out];exact HO
     have HZ2:Hid (noE here t (fk SL FL (j+1) 0)):=by rw [← HOV.out];exact HZ
     clear HO HZ HOV hfl2
     generalize ((fk SL FL j k).map (rec1 name here t)).length=ll at *
     go_wp2_with fail
     exact ⟨⟨j+1,by omega,by go_num,rfl,HO2,HZ2,HB⟩,by simp [intOf];omega⟩
  ·have HEN:Hid (fk SL FL j 0=NL):=by show _=_;rw [fk_end (by rw [HMM.out];omega),HNR.out]
   have HO2:Hid (Rc.Own Y.heap.size wr u24 (NL.map (rec1 name here t))):=by rw [← HEN.out];exact HO
   have HZ2:Hid (recsE here t NL=0):=by rw [← HEN.out];exact noE_all HZ.out
   go_wp2_with fail
   exact HQN.out _ _ _ _ _ _ _ _ _ _ _ _ _ _ _ _ _ _ _ _ _ _ _ _ _ _ _ _ _ _ _ _ _ _ _ _ _ _ _ _ _ _ _ _ _ _ _ _ _ _ _ _ _ _ _ _ _ _ _ _ _ _ _ _ _ _ _ _ _ _ _ _ _ _ _ _ _ _ _ _ _ _ HO2 HZ2 HB
end Go.Proofs.YtignmeaeibaejaaGreatDoor
