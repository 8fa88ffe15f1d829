import Derived.Test.YtignmeaeibaejaaGreatDoorV35
namespace Go.Proofs.YtignmeaeibaejaaGreatDoor
open Go.RowKit
def ErrRet (w:World) (t:ByteArray) (a:Act) (W:World):Prop:=a.defers=[]∧a.tmps.getD 2 undef=.pointer (some ⟨w.heap.size,0,none⟩)∧a.tmps.getD 3 undef=.int .i64 1∧W.heap[w.heap.size]?=some (.cells zmsg 38 (0,0))∧Below w.heap.size w W∧rdE t≠0
theorem Sc.zeroed {w W:World} {t:ByteArray} {mb a:Nat} {bad:Bool} {mc:Array Value} (h:Sc w t mb a bad mc W):(((((((W.setCell ⟨w.heap.size,0,none⟩ (.int .i64 0)).setCell ⟨w.heap.size,1,none⟩ (.bool false)).setCell ⟨w.heap.size,2,none⟩ (.bool false)).setCell ⟨w.heap.size,3,none⟩ (.int .i64 0)).setCell ⟨w.heap.size,4,none⟩ (.string ⟨#[]⟩)).setCell ⟨w.heap.size,5,none⟩ (.int .i64 0)).setCell ⟨w.heap.size,6,none⟩ (.slice none 0 0)).heap[w.heap.size]?=some (.cells zmsg 38 (0,0)):=
 Joins.block_setCell (i:=6) (Joins.block_setCell (i:=5) (Joins.block_setCell (i:=4) (Joins.block_setCell (i:=3) (Joins.block_setCell (i:=2) (Joins.block_setCell (i:=1) (Joins.block_setCell (i:=0) h.qx _) _) _) _) _) _) _
set_option maxHeartbeats 3200000 in
set_option maxRecDepth 1000000 in
theorem psw {u1 u3 u5 u6 u7 u8 u9 aa ac af ag ah ai aj ak am an ap aq ar au aw ay az aA aB aC aD aE aF aG aH aI aJ aK aL aM aN aO aP aQ aR aS aT aU aV aW aX aY aZ ba bb bc bd be bf bh bi bj bp bq br bu bw bz bA bB bC bD bE bF bG bH bI bJ bK bL bM bN bO bP bQ bS bT bU bV bW bX bY bZ cc cd cg ch cj ck cr cx cy cz cA cB cC cD cE cF cG cH cI cJ cK cM cO cP cQ cR cS cT cU cV cW cX cY cZ da dc dd de df dg dh di dj dl dn dr dt du dv dw dx dA dB dC dD dE dF dG dH dI dK dL dM dO dP dQ dR dS dT dU dW dX dY dZ ea eb ed ee eh ei ej el em eo er eu ew ex ey ez eA eC eD eE eF eG eH eI eJ eK eL eM eN eO eP eQ eR eS eT eU eV eW eX eY eZ e9 fa fb fc fe ff fh fj fm fo fp fq fs ft fu fw fx fy fA fB fC fD fE fF fG fH fI fJ fK fL fM fN fO fP fQ fR fS fT fU fV fW fX fY fZ ga gc gd ge gh gi gj gk:Value} (w wr wh:World) (t s1:ByteArray) (mb rb b b1 b5 x2 x4:Nat) (mv:Array Value) (hs:t.size≤1000) (hs1:s1.size≤1000) (hb5:b5≤20000) (HRM:Hid (recF t b=none→msgF t=none)) (HRE:Hid (recF t b=recH t b1 (datF t b5 s1 x2 x4)))
 (HS:Hid (Sc w t mb b false mv wr)) (R9:Hid (Sr (w.heap.size+1) rb t wr b5 false #[.string s1,.int .i64 x2,.int .i64 x4,.int .i64 0,.string ⟨#[]⟩,.int .i64 0,.string ⟨#[]⟩] wh)) (Q:Exit→Act→World→Prop) (hE:∀ a W,ErrRet w t a W→Q .ret a W)
 (hN:∀ (j9 km ko kr ks kt ku kv kw kx ky kz kA iX iY iZ i1 i2 i6 i7 i8 ja jb jc je jf jg jh ji jj jk jl jm jo jp jq jr js ju jv jw jx jy jz jA jC jD jE jF jG jH jI jJ jK jL jM jN jO jP jQ jR jS jT jU jV jW jX:Value) (r:Rc.Rec) (a:Nat) (d:Bool) (wx:World),a≤20000→Hid (r.ok∧r.name.size≤1000∧r.target.size≤1000)→Hid (Sr (w.heap.size+1) rb t wr a d (recA r) wx)→Hid (d=true→datF t b5 s1 x2 x4=none)→Hid (d=false→datF t b5 s1 x2 x4=some (r,a))→Q .normal ⟨#[.string t,u1,.pointer (some ⟨w.heap.size,0,none⟩),u3,.pointer (some ⟨w.heap.size+1,0,none⟩),u5,u6,u7,u8,u9,aa,.pointer (some ⟨rb,0,none⟩),ac,af,j9,ah,ai,aj,ak,am,an,ap,aq,ar,au,aw,ay,az,aA,aB,aC,aD,aE,aF,aG,aH,aI,aJ,aK,aL,aM,aN,aO,aP,aQ,aR,aS,aT,aU,aV,aW,aX,aY,aZ,ba,bb,bc,bd,be,bf,bh,bi,bj,bp,bq,br,bu,bw,bz,bA,bB,bC,bD,bE,bF,bG,bH,bI,bJ,bK,bL,bM,bN,bO,bP,bQ,bS,bT,bU,bV,bW,bX,bY,bZ,cc,cd,cg,ch,cj,ck,cr,cx,cy,cz,cA,cB,cC,cD,cE,cF,cG,cH,cI,cJ,cK,cM,cO,cP,cQ,cR,cS,cT,cU,cV,cW,cX,cY,cZ,da,dc,dd,de,df,dg,dh,di,dj,dl,dn,dr,dt,du,dv,dw,dx,dA,dB,dC,dD,dE,dF,dG,dH,dI,.int .i64 x2,km,ko,kr,ks,kt,ku,kv,kw,kx,ky,kz,kA,iX,iY,iZ,i1,i2,i6,i7,i8,ja,jb,jc,je,jf,jg,jh,ji,jj,jk,jl,jm,jo,jp,jq,jr,js,ju,jv,jw,jx,jy,jz,jA,jC,jD,jE,jF,jG,jH,jI,jJ,jK,jL,jM,jN,jO,jP,jQ,jR,jS,jT,jU,jV,jW,jX,fq,fs,ft,fu,fw,fx,fy,fA,fB,fC,fD,fE,fF,fG,fH,fI,fJ,fK,fL,fM,fN,fO,fP,fQ,fR,fS,fT,fU,fV,fW,fX,fY,fZ,ga,gc,gd,ge,gh,gi,gj,gk],[]⟩ wx) :
 Code.wp Tryz.prog ((Tryz.f15.body.bind (blkIn 2)).getD .skip) Q ⟨#[.string t,u1,.pointer (some ⟨w.heap.size,0,none⟩),u3,.pointer (some ⟨w.heap.size+1,0,none⟩),u5,u6,u7,u8,u9,aa,.pointer (some ⟨rb,0,none⟩),ac,af,ag,ah,ai,aj,ak,am,an,ap,aq,ar,au,aw,ay,az,aA,aB,aC,aD,aE,aF,aG,aH,aI,aJ,aK,aL,aM,aN,aO,aP,aQ,aR,aS,aT,aU,aV,aW,aX,aY,aZ,ba,bb,bc,bd,be,bf,bh,bi,bj,bp,bq,br,bu,bw,bz,bA,bB,bC,bD,bE,bF,bG,bH,bI,bJ,bK,bL,bM,bN,bO,bP,bQ,bS,bT,bU,bV,bW,bX,bY,bZ,cc,cd,cg,ch,cj,ck,cr,cx,cy,cz,cA,cB,cC,cD,cE,cF,cG,cH,cI,cJ,cK,cM,cO,cP,cQ,cR,cS,cT,cU,cV,cW,cX,cY,cZ,da,dc,dd,de,df,dg,dh,di,dj,dl,dn,dr,dt,du,dv,dw,dx,dA,dB,dC,dD,dE,dF,dG,dH,dI,.int .i64 x2,dK,dL,dM,dO,dP,dQ,dR,dS,dT,dU,dW,dX,dY,dZ,ea,eb,ed,ee,eh,ei,ej,el,em,eo,er,eu,ew,ex,ey,ez,eA,eC,eD,eE,eF,eG,eH,eI,eJ,eK,eL,eM,eN,eO,eP,eQ,eR,eS,eT,eU,eV,eW,eX,eY,eZ,e9,fa,fb,fc,fe,ff,fh,fj,fm,fo,fp,fq,fs,ft,fu,fw,fx,fy,fA,fB,fC,fD,fE,fF,fG,fH,fI,fJ,fK,fL,fM,fN,fO,fP,fQ,fR,fS,fT,fU,fV,fW,fX,fY,fZ,ga,gc,gd,ge,gh,gi,gj,gk],[]⟩ wh:=by
 conv=>arg 2;whnf
 have HQN:Hid _:=hN
 clear hN
 have HQE:Hid _:=hE
 clear hE
 have k5:wh.cell? ⟨w.heap.size+1,2,none⟩=some (.bool false):=R9.out.sbad
 by_cases h1:x2=1
 ·have hx1:((x2:Nat):Int)=1:=by omega
  have HX1:Hid (((x2:Nat):Int)=1):=hx1
  have e1:((x2:Int) == 1)=true:=by simp [hx1]
  clear h1 hx1 HRE k5
  go_wp2_with fail
  refine (snum_l (w.heap.size+1) b5 4 t false _ R9.out.sc hs (by omega) (by omega) hb5).mono ?_
  rintro e wi ⟨x6,b6,d6,rfl,hb6,hx6,HD,HI,HN6⟩
  have RA:Hid (Sr (w.heap.size+1) rb t wr b6 d6 #[.string s1,.int .i64 x2,.int .i64 x4,.int .i64 0,.string ⟨#[]⟩,.int .i64 0,.string ⟨#[]⟩] wi):=R9.out.call HI HD
  have z3:=RA.out.free 3
  have c3:wi.cell? ⟨rb,3,none⟩=some (.int .i64 0):=RA.out.cell 3
  have HX:=dat_one (s:=s1) (la:=(x4:Int)) HN6.out
  rw [← HX1.out] at HX
  have HXA:Hid (d6=true→datF t b5 s1 x2 x4=none):=HX.1
  have HXB:Hid (d6=false→datF t b5 s1 x2 x4=some (⟨s1,x2,x4,x6,⟨#[]⟩,0,⟨#[]⟩⟩,b6)):=HX.2
  clear HX HX1 R9 HD HI HN6
  go_wp2_with fail
  exact HQN.out _ _ _ _ _ _ _ _ _ _ _ _ _ _ _ _ _ _ _ _ _ _ _ _ _ _ _ _ _ _ _ _ _ _ _ _ _ _ _ _ _ _ _ _ _ _ _ _ _ _ _ _ _ _ _ _ _ _ _ _ _ _ _ _ _ _ _ ⟨s1,x2,x4,x6,⟨#[]⟩,0,⟨#[]⟩⟩ b6 d6 _ hb6 (rec_oks hs1 (Nat.zero_le _) (Nat.zero_le _)) (RA.out.store 3 (.int .i64 x6)) HXA HXB
 by_cases h16:x2=16
 ·have hx1:((x2:Nat):Int)=16:=by omega
  have HX1:Hid (((x2:Nat):Int)=16):=hx1
  have e1:((x2:Int) == 1)=false:=by simp;omega
  have e2:((x2:Int) == 16)=true:=by simp [hx1]
  clear h1 h16 hx1 k5
  go_wp2_with fail
  refine (snum_l (w.heap.size+1) b5 1 t false _ R9.out.sc hs (by omega) (by omega) hb5).mono ?_
  rintro e wi ⟨x6,b6,d6,rfl,hb6,hx6,HD,HI,HN6⟩
  have RA:Hid (Sr (w.heap.size+1) rb t wr b6 d6 #[.string s1,.int .i64 x2,.int .i64 x4,.int .i64 0,.string ⟨#[]⟩,.int .i64 0,.string ⟨#[]⟩] wi):=R9.out.call HI HD
  have HSY:Hid (Sc w t mb b6 d6 mv wi):=HS.out.call RA.out.sc RA.out.rd
  have HX:=dat_text (s:=s1) (la:=(x4:Int)) HN6.out
  rw [← HX1.out] at HX
  have HXA:Hid (d6=true→datF t b5 s1 x2 x4=none):=HX.1
  have HXB:Hid (d6=false→(¬ b6+x6≤t.size→datF t b5 s1 x2 x4=none)∧(b6+x6≤t.size→datF t b5 s1 x2 x4=some (⟨s1,x2,x4,0,t.extract b6 (b6+x6),0,⟨#[]⟩⟩,b6+x6))):=HX.2
  have l1:wi.cell? ⟨w.heap.size+1,1,none⟩=some (.int .i64 b6):=RA.out.sat
  have l2:wi.cell? ⟨w.heap.size+1,2,none⟩=some (.bool d6):=RA.out.sbad
  have l3:=RA.out.sfree 1
  have hw6:IntKind.i64.wrap ((b6:Int)+(x6:Int))=(b6:Int)+(x6:Int):=by rw [IntKind.wrap_i64];omega
  clear HX HX1 R9 HD HI HN6
  cases d6 with
  | true=>
    have HE:Hid (rdE t≠0):=rdE_none (HRM.out (rec_none HRE.out (HXA.out rfl)))
    clear HXA HXB HRE HQN
    have q0:wi.cell? ⟨w.heap.size,0,none⟩=some (.int .i64 0):=HSY.out.qcell 0
    have yy0:=HSY.out.qfree 0
    have q1:wi.cell? ⟨w.heap.size,1,none⟩=some (.bool false):=HSY.out.qcell 1
    have yy1:=HSY.out.qfree 1
    have q2:wi.cell? ⟨w.heap.size,2,none⟩=some (.bool false):=HSY.out.qcell 2
    have yy2:=HSY.out.qfree 2
    have q3:wi.cell? ⟨w.heap.size,3,none⟩=some (.int .i64 0):=HSY.out.qcell 3
    have yy3:=HSY.out.qfree 3
    have q4:wi.cell? ⟨w.heap.size,4,none⟩=some (.string ⟨#[]⟩):=HSY.out.qcell 4
    have yy4:=HSY.out.qfree 4
    have q5:wi.cell? ⟨w.heap.size,5,none⟩=some (.int .i64 0):=HSY.out.qcell 5
    have yy5:=HSY.out.qfree 5
    have q6:wi.cell? ⟨w.heap.size,6,none⟩=some (.slice none 0 0):=HSY.out.qcell 6
    have yy6:=HSY.out.qfree 6
    go_wp2_with fail
    exact HQE.out _ _ ⟨rfl,rfl,rfl,HSY.out.zeroed,atop 6 (atop 5 (atop 4 (atop 3 (atop 2 (atop 1 (atop 0 HSY.out.bl (Nat.le_refl _)) (Nat.le_refl _)) (Nat.le_refl _)) (Nat.le_refl _)) (Nat.le_refl _)) (Nat.le_refl _)) (Nat.le_refl _),HE.out⟩
  | false=>
    obtain ⟨hxa,hxb⟩:=HXB.out rfl
    by_cases hin:b6+x6≤t.size
    rotate_left
    ·have HE:Hid (rdE t≠0):=rdE_none (HRM.out (rec_none HRE.out (hxa hin)))
     have hg6:decide ((t.size:Int) < (b6:Int)+(x6:Int))=true:=by simp;omega
     clear HXA HXB HRE hxa hxb hin HQN
     have q0:wi.cell? ⟨w.heap.size,0,none⟩=some (.int .i64 0):=HSY.out.qcell 0
     have yy0:=HSY.out.qfree 0
     have q1:wi.cell? ⟨w.heap.size,1,none⟩=some (.bool false):=HSY.out.qcell 1
     have yy1:=HSY.out.qfree 1
     have q2:wi.cell? ⟨w.heap.size,2,none⟩=some (.bool false):=HSY.out.qcell 2
     have yy2:=HSY.out.qfree 2
     have q3:wi.cell? ⟨w.heap.size,3,none⟩=some (.int .i64 0):=HSY.out.qcell 3
     have yy3:=HSY.out.qfree 3
     have q4:wi.cell? ⟨w.heap.size,4,none⟩=some (.string ⟨#[]⟩):=HSY.out.qcell 4
     have yy4:=HSY.out.qfree 4
     have q5:wi.cell? ⟨w.heap.size,5,none⟩=some (.int .i64 0):=HSY.out.qcell 5
     have yy5:=HSY.out.qfree 5
     have q6:wi.cell? ⟨w.heap.size,6,none⟩=some (.slice none 0 0):=HSY.out.qcell 6
     have yy6:=HSY.out.qfree 6
     go_wp2_with fail
     exact HQE.out _ _ ⟨rfl,rfl,rfl,HSY.out.zeroed,atop 6 (atop 5 (atop 4 (atop 3 (atop 2 (atop 1 (atop 0 HSY.out.bl (Nat.le_refl _)) (Nat.le_refl _)) (Nat.le_refl _)) (Nat.le_refl _)) (Nat.le_refl _)) (Nat.le_refl _)) (Nat.le_refl _),HE.out⟩
    have hg6:decide ((t.size:Int) < (b6:Int)+(x6:Int))=false:=by simp;omega
    have HXC:Hid (datF t b5 s1 x2 x4=some (⟨s1,x2,x4,0,t.extract b6 (b6+x6),0,⟨#[]⟩⟩,b6+x6)):=hxb hin
    have z4:=RA.out.free 4
    have c4:wi.cell? ⟨rb,4,none⟩=some (.string ⟨#[]⟩):=RA.out.cell 4
    have hts:(t.extract b6 (b6+x6)).size≤1000:=by simp;omega
    clear HXA HXB HRE hxa hxb HSY
    have hi0:(0:Int)≤(b6:Int):=by omega
    have hi1:(b6:Int)≤(b6:Int)+(x6:Int):=by omega
    have hi2:(b6:Int)+(x6:Int)≤(t.size:Int):=by omega
    have hi3:((b6:Int)+(x6:Int)).toNat=b6+x6:=by omega
    have hi4:((b6:Int)).toNat=b6:=by omega
    go_wp2_with fail
    go_region
    go_wp2_with fail
    exact HQN.out _ _ _ _ _ _ _ _ _ _ _ _ _ _ _ _ _ _ _ _ _ _ _ _ _ _ _ _ _ _ _ _ _ _ _ _ _ _ _ _ _ _ _ _ _ _ _ _ _ _ _ _ _ _ _ _ _ _ _ _ _ _ _ _ _ _ _ ⟨s1,x2,x4,0,t.extract b6 (b6+x6),0,⟨#[]⟩⟩ (b6+x6) false _ (by omega) (rec_oks hs1 hts (Nat.zero_le _)) (((RA.out.store 4 (.string (t.extract b6 (b6+x6)))).at (b6+x6)).ext (World.Extends.refl _).drew) (fun e=>by cases e) (fun _=>HXC.out)
 by_cases h33:x2=33
 ·have hx1:((x2:Nat):Int)=33:=by omega
  have HX1:Hid (((x2:Nat):Int)=33):=hx1
  have e1:((x2:Int) == 1)=false:=by simp;omega
  have e2:((x2:Int) == 16)=false:=by simp;omega
  have e3:((x2:Int) == 33)=true:=by simp [hx1]
  clear h1 h16 h33 hx1 HRE
  go_wp2_with fail
  refine (snum_l (w.heap.size+1) b5 4 t false _ R9.out.sc hs (by omega) (by omega) hb5).mono ?_
  rintro e wi ⟨x6,b6,d6,rfl,hb6,hx6,HD,HI,HN6⟩
  have RA:Hid (Sr (w.heap.size+1) rb t wr b6 d6 #[.string s1,.int .i64 x2,.int .i64 x4,.int .i64 0,.string ⟨#[]⟩,.int .i64 0,.string ⟨#[]⟩] wi):=R9.out.call HI HD
  have l2:wi.cell? ⟨w.heap.size+1,2,none⟩=some (.bool d6):=RA.out.sbad
  have l3:=RA.out.sfree 2
  obtain ⟨d6x,hd6x⟩:∃ x,((x6:Int) != 0)=x:=⟨_,rfl⟩
  clear R9 HD HI k5
  go_wp2_with fail
  have RB:Hid (Sr (w.heap.size+1) rb t wr b6 d6x #[.string s1,.int .i64 x2,.int .i64 x4,.int .i64 0,.string ⟨#[]⟩,.int .i64 0,.string ⟨#[]⟩] (wi.setCell ⟨w.heap.size+1,2,none⟩ (.bool d6x))):=RA.out.mark d6x
  refine (snum_l (w.heap.size+1) b6 2 t d6x _ RB.out.sc hs (by omega) (by omega) hb6).mono ?_
  rintro e wj ⟨x7,b7,d7,rfl,hb7,hx7,HD,HI,HN7⟩
  have RC:Hid (Sr (w.heap.size+1) rb t wr b7 d7 #[.string s1,.int .i64 x2,.int .i64 x4,.int .i64 0,.string ⟨#[]⟩,.int .i64 0,.string ⟨#[]⟩] wj):=RB.out.call HI HD
  have z5:=RC.out.free 5
  have c5:wj.cell? ⟨rb,5,none⟩=some (.int .i64 0):=RC.out.cell 5
  have HX6:Hid (((x6:Int) != 0)=d6x):=hd6x
  have hb7s:d7=false→b7≤t.size:=fun e=>by have:=(HN7.out.1 e).2;omega
  have HB7:Hid (d7=false→b7≤t.size):=hb7s
  clear RA RB HD HI l2 l3 hd6x hb7s
  go_wp2_with fail
  have RD:Hid (Sr (w.heap.size+1) rb t wr b7 d7 #[.string s1,.int .i64 x2,.int .i64 x4,.int .i64 0,.string ⟨#[]⟩,.int .i64 x7,.string ⟨#[]⟩] (wj.setCell ⟨rb,5,none⟩ (.int .i64 x7))):=RC.out.store 5 (.int .i64 x7)
  refine (sname_l (w.heap.size+1) b7 t d7 _ RD.out.sc hs hb7 HB7.out).mono ?_
  rintro e wk ⟨s8,b8,d8,rfl,hb8,hs8,HD,HI,HN8⟩
  have RE:Hid (Sr (w.heap.size+1) rb t wr b8 d8 #[.string s1,.int .i64 x2,.int .i64 x4,.int .i64 0,.string ⟨#[]⟩,.int .i64 x7,.string ⟨#[]⟩] wk):=RD.out.call HI HD
  have z6:=RE.out.free 6
  have c6:wk.cell? ⟨rb,6,none⟩=some (.string ⟨#[]⟩):=RE.out.cell 6
  have HX:=dat_where (s:=s1) (la:=(x4:Int)) HN6.out (by rw [HX6.out];exact HN7.out) HN8.out
  rw [← HX1.out] at HX
  have HXA:Hid (d8=true→datF t b5 s1 x2 x4=none):=HX.1
  have HXB:Hid (d8=false→datF t b5 s1 x2 x4=some (⟨s1,x2,x4,0,⟨#[]⟩,x7,s8⟩,b8)):=HX.2
  clear HX HX1 RC RD HD HI HN6 HN7 HN8 HX6 z5 c5 HB7
  go_wp2_with fail
  exact HQN.out _ _ _ _ _ _ _ _ _ _ _ _ _ _ _ _ _ _ _ _ _ _ _ _ _ _ _ _ _ _ _ _ _ _ _ _ _ _ _ _ _ _ _ _ _ _ _ _ _ _ _ _ _ _ _ _ _ _ _ _ _ _ _ _ _ _ _ ⟨s1,x2,x4,0,⟨#[]⟩,x7,s8⟩ b8 d8 _ hb8 (rec_oks hs1 (Nat.zero_le _) hs8) (RE.out.store 6 (.string s8)) HXA HXB
 ·have e1:((x2:Int) == 1)=false:=by simp;omega
  have e2:((x2:Int) == 16)=false:=by simp;omega
  have e3:((x2:Int) == 33)=false:=by simp;omega
  have HXB:Hid (datF t b5 s1 x2 x4=some (⟨s1,x2,x4,0,⟨#[]⟩,0,⟨#[]⟩⟩,b5)):=dat_else (by omega) (by omega) (by omega)
  clear h1 h16 h33 HRE k5
  go_wp2_with fail
  exact HQN.out _ _ _ _ _ _ _ _ _ _ _ _ _ _ _ _ _ _ _ _ _ _ _ _ _ _ _ _ _ _ _ _ _ _ _ _ _ _ _ _ _ _ _ _ _ _ _ _ _ _ _ _ _ _ _ _ _ _ _ _ _ _ _ _ _ _ _ ⟨s1,x2,x4,0,⟨#[]⟩,0,⟨#[]⟩⟩ b5 false _ hb5 (rec_oks hs1 (Nat.zero_le _) (Nat.zero_le _)) R9 (fun e=>by cases e) (fun _=>HXB.out)
end Go.Proofs.YtignmeaeibaejaaGreatDoor
