import Derived.Test.YtignmeaeibaejaaGreatDoorV40
import Derived.Deep.DeepCutAuto
import Derived.Deep.CutBlock
import Derived.Test.YtignmeaeibaejaaGreatDoorV45
namespace Go.Proofs.YtignmeaeibaejaaGreatDoor
open Go.RowKit
set_option maxHeartbeats 3200000 in
set_option maxRecDepth 1000000 in
theorem p42 {u0 u1 u2 u3 u5 u6 u7 u8 u9 aa ab ac ag ah ai aj ak am an ap aq ar au aw ay az aA aB aC aD aE aF aG aH aI aJ aK aL aM aN aO aP aQ aR aS aT aU aV aW aX aY aZ ba bb bc bd be bf bh bi bj bp bq br bu bw bz bA bB bC bD bE bF bG bH bI bJ bK bL bM bN bO bP bQ bS bT bU bV bW bX bY bZ cc cd cg ch cj ck cr cx cy cz cA cB cC cD cE cF cG cH cI cJ cK cM cO cP cQ cR cS cT cU cV cW cX cY cZ da dc dd de df dg dh di dj dl dn dr dt du dv dw dx dA dB dC dD dE dF dG dH dI dJ dK dL dM dO dP dQ dR dS dT dU dW dX dY dZ ea eb ed ee eh ei ej el em eo er eu ew ex ey ez eA eC eD eE eF eG eH eI eJ eK eL eM eN eO eP eQ eR eS eT eU eV eW eX eY eZ e9 fa fb fc fe ff fh fj fm fo fp fq fs ft fu fw fx fy fA fB fC fD fE fF fG fH fI fJ fK fL fM fN fO fP fQ fR fS fT fU fV fW fX fY fZ ga gc gd ge gh gi gj gk:Value} (w wr wc:World) (t s1:ByteArray) (rb b b1 b5 x2 x4 x5 a:Nat) (d:Bool) (r:Rc.Rec) (hb5s:b5≤t.size) (HB5:Hid (b5=b1+2+2+4+2)) (HX5:Hid (x5=rnum t (b1+2+2+4) 2)) (HRE:Hid (recF t b=recH t b1 (datF t b5 s1 x2 x4))) (RX:Hid (Sr (w.heap.size+1) rb t wr a d (recA r) wc)) (HDA:Hid (d=true→datF t b5 s1 x2 x4=none)) (HDB:Hid (d=false→datF t b5 s1 x2 x4=some (r,a))) (Q:Exit→Act→World→Prop)
 (hN:∀ (jY jZ j1 kB kC kD kE kF kG kH kI kJ kK kL kM:Value) (d:Bool) (wx:World),Hid (Sr (w.heap.size+1) rb t wr a d (recA r) wx)→Hid (d=true→recF t b=none)→Hid (d=false→a≤t.size∧recF t b=some (r,a))→Q .normal ⟨#[u0,u1,u2,u3,.pointer (some ⟨w.heap.size+1,0,none⟩),u5,u6,u7,u8,u9,aa,ab,ac,.int .i64 ((b5:Int)+(x5:Int)),ag,ah,ai,aj,ak,am,an,ap,aq,ar,au,aw,ay,az,aA,aB,aC,aD,aE,aF,aG,aH,aI,aJ,aK,aL,aM,aN,aO,aP,aQ,aR,aS,aT,aU,aV,aW,aX,aY,aZ,ba,bb,bc,bd,be,bf,bh,bi,bj,bp,bq,br,bu,bw,bz,bA,bB,bC,bD,bE,bF,bG,bH,bI,bJ,bK,bL,bM,bN,bO,bP,bQ,bS,bT,bU,bV,bW,bX,bY,bZ,cc,cd,cg,ch,cj,ck,cr,cx,cy,cz,cA,cB,cC,cD,cE,cF,cG,cH,cI,cJ,cK,cM,cO,cP,cQ,cR,cS,cT,cU,cV,cW,cX,cY,cZ,da,dc,dd,de,df,dg,dh,di,dj,dl,dn,dr,dt,du,dv,dw,dx,dA,dB,dC,dD,dE,dF,dG,dH,dI,dJ,dK,dL,dM,dO,dP,dQ,dR,dS,dT,dU,dW,dX,dY,dZ,ea,eb,ed,ee,eh,ei,ej,el,em,eo,er,eu,ew,ex,ey,ez,eA,eC,eD,eE,eF,eG,eH,eI,eJ,eK,eL,eM,eN,eO,eP,eQ,eR,eS,eT,eU,eV,eW,eX,eY,eZ,e9,fa,fb,fc,fe,ff,fh,fj,fm,fo,fp,jY,jZ,j1,kB,kC,kD,kE,kF,kG,kH,kI,kJ,kK,kL,kM,fI,fJ,fK,fL,fM,fN,fO,fP,fQ,fR,fS,fT,fU,fV,fW,fX,fY,fZ,ga,gc,gd,ge,gh,gi,gj,gk],[]⟩ wx) :
 Code.wp Tryz.prog ((Tryz.f15.body.bind (regIn 42)).getD .skip) Q ⟨#[u0,u1,u2,u3,.pointer (some ⟨w.heap.size+1,0,none⟩),u5,u6,u7,u8,u9,aa,ab,ac,.int .i64 ((b5:Int)+(x5:Int)),ag,ah,ai,aj,ak,am,an,ap,aq,ar,au,aw,ay,az,aA,aB,aC,aD,aE,aF,aG,aH,aI,aJ,aK,aL,aM,aN,aO,aP,aQ,aR,aS,aT,aU,aV,aW,aX,aY,aZ,ba,bb,bc,bd,be,bf,bh,bi,bj,bp,bq,br,bu,bw,bz,bA,bB,bC,bD,bE,bF,bG,bH,bI,bJ,bK,bL,bM,bN,bO,bP,bQ,bS,bT,bU,bV,bW,bX,bY,bZ,cc,cd,cg,ch,cj,ck,cr,cx,cy,cz,cA,cB,cC,cD,cE,cF,cG,cH,cI,cJ,cK,cM,cO,cP,cQ,cR,cS,cT,cU,cV,cW,cX,cY,cZ,da,dc,dd,de,df,dg,dh,di,dj,dl,dn,dr,dt,du,dv,dw,dx,dA,dB,dC,dD,dE,dF,dG,dH,dI,dJ,dK,dL,dM,dO,dP,dQ,dR,dS,dT,dU,dW,dX,dY,dZ,ea,eb,ed,ee,eh,ei,ej,el,em,eo,er,eu,ew,ex,ey,ez,eA,eC,eD,eE,eF,eG,eH,eI,eJ,eK,eL,eM,eN,eO,eP,eQ,eR,eS,eT,eU,eV,eW,eX,eY,eZ,e9,fa,fb,fc,fe,ff,fh,fj,fm,fo,fp,fq,fs,ft,fu,fw,fx,fy,fA,fB,fC,fD,fE,fF,fG,fH,fI,fJ,fK,fL,fM,fN,fO,fP,fQ,fR,fS,fT,fU,fV,fW,fX,fY,fZ,ga,gc,gd,ge,gh,gi,gj,gk],[]⟩ wc:=by
 conv=>arg 2;whnf
 have HQN:Hid _:=hN
 clear hN
 have l1:wc.cell? ⟨w.heap.size+1,1,none⟩=some (.int .i64 a):=RX.out.sat
 have l2:wc.cell? ⟨w.heap.size+1,2,none⟩=some (.bool d):=RX.out.sbad
 have l3:=RX.out.sfree 2
 cases d with
 | true=>
   have HNN:Hid (recF t b=none):=rec_none HRE.out (HDA.out rfl)
   clear HDA HDB HRE HB5 HX5
   go_wp2_with fail
   exact HQN.out _ _ _ _ _ _ _ _ _ _ _ _ _ _ _ true _ (RX.out.mark true) (fun _=>HNN.out) (fun e=>by cases e)
 | false=>
   have HD:=HDB.out rfl
   have HI:=rec_in HB5.out HX5.out HRE.out HD
   have HI1:Hid (((a:Int) != (b5:Int)+(x5:Int))=true→recF t b=none):=HI.1
   have HI2:Hid (((a:Int) != (b5:Int)+(x5:Int))=false→a≤t.size∧recF t b=some (r,a)):=fun e=>⟨dat_le HD hb5s,HI.2 e⟩
   clear HD HI HDA HDB HRE HB5 HX5
   go_wp2_with fail
   exact HQN.out _ _ _ _ _ _ _ _ _ _ _ _ _ _ _ _ _ (RX.out.mark _) HI1 HI2
set_option maxHeartbeats 3200000 in
set_option maxRecDepth 1000000 in
theorem p43 {u0 u1 u2 u3 u4 u6 u7 u8 u9 aa ac af ag ah ai aj ak am an ap aq ar au aw ay az aA aB aC aD aE aF aG aH aI aJ aK aL aM aN aO aP aQ aR aS aT aU aV aW aX aY aZ ba bb bc bd be bf bh bi bj bp bq br bu bw bz bA bB bC bD bE bF bG bH bI bJ bK bL bM bN bO bP bQ bS bT bU bV bW bX bY bZ cc cd cg ch cj ck cr cx cy cz cA cB cC cD cE cF cG cH cI cJ cK cM cO cP cQ cR cS cT cU cV cW cX cY cZ da dc dd de df dg dh di dj dl dn dr dt du dv dw dx dA dB dC dD dE dF dG dH dI dJ dK dL dM dO dP dQ dR dS dT dU dW dX dY dZ ea eb ed ee eh ei ej el em eo er eu ew ex ey ez eA eC eD eE eF eG eH eI eJ eK eL eM eN eO eP eQ eR eS eT eU eV eW eX eY eZ e9 fa fb fc fe ff fh fj fm fo fp fq fs ft fu fw fx fy fA fB fC fD fE fF fG fH fI fJ fK fL fM fN fO fP fQ fR fS fT fU fV fW fX fY fZ ga gc gd ge gh gi gj gk:Value} (w wr wc:World) (t R:ByteArray) (mb rb a b v1 v3 v8:Nat) (ans cut d dz:Bool) (r:Rc.Rec) (v:Value) (D:List Rc.Rec) (hD:D.length≤100000) (HS:Hid (Sc w t mb b d #[.int .i64 v1,.bool ans,.bool cut,.int .i64 v3,.string R,.int .i64 v8,v] wr)) (HO:Hid (Rc.Own (mb+1) wr v D)) (RZ:Hid (Sr (w.heap.size+1) rb t wr a dz (recA r) wc)) (Q:Exit→Act→World→Prop)
 (hN:∀ (kN kO kP kQ kR kT v':Value) (wx:World),Hid (Sc w t mb a dz #[.int .i64 v1,.bool ans,.bool cut,.int .i64 v3,.string R,.int .i64 v8,v'] wx)→Hid (Rc.Own (mb+1) wx v' (D++[r]))→Q .normal ⟨#[u0,u1,u2,u3,u4,.pointer (some ⟨mb,0,none⟩),u6,u7,u8,u9,aa,.pointer (some ⟨rb,0,none⟩),ac,af,ag,ah,ai,aj,ak,am,an,ap,aq,ar,au,aw,ay,az,aA,aB,aC,aD,aE,aF,aG,aH,aI,aJ,aK,aL,aM,aN,aO,aP,aQ,aR,aS,aT,aU,aV,aW,aX,aY,aZ,ba,bb,bc,bd,be,bf,bh,bi,bj,bp,bq,br,bu,bw,bz,bA,bB,bC,bD,bE,bF,bG,bH,bI,bJ,bK,bL,bM,bN,bO,bP,bQ,bS,bT,bU,bV,bW,bX,bY,bZ,cc,cd,cg,ch,cj,ck,cr,cx,cy,cz,cA,cB,cC,cD,cE,cF,cG,cH,cI,cJ,cK,cM,cO,cP,cQ,cR,cS,cT,cU,cV,cW,cX,cY,cZ,da,dc,dd,de,df,dg,dh,di,dj,dl,dn,dr,dt,du,dv,dw,dx,dA,dB,dC,dD,dE,dF,dG,dH,dI,dJ,dK,dL,dM,dO,dP,dQ,dR,dS,dT,dU,dW,dX,dY,dZ,ea,eb,ed,ee,eh,ei,ej,el,em,eo,er,eu,ew,ex,ey,ez,eA,eC,eD,eE,eF,eG,eH,eI,eJ,eK,eL,eM,eN,eO,eP,eQ,eR,eS,eT,eU,eV,eW,eX,eY,eZ,e9,fa,fb,fc,fe,ff,fh,fj,fm,fo,fp,fq,fs,ft,fu,fw,fx,fy,fA,fB,fC,fD,fE,fF,fG,fH,kN,kO,kP,kQ,kR,kT,fO,fP,fQ,fR,fS,fT,fU,fV,fW,fX,fY,fZ,ga,gc,gd,ge,gh,gi,gj,gk],[]⟩ wx) :
 Code.wp Tryz.prog ((Tryz.f15.body.bind (regIn 43)).getD .skip) Q ⟨#[u0,u1,u2,u3,u4,.pointer (some ⟨mb,0,none⟩),u6,u7,u8,u9,aa,.pointer (some ⟨rb,0,none⟩),ac,af,ag,ah,ai,aj,ak,am,an,ap,aq,ar,au,aw,ay,az,aA,aB,aC,aD,aE,aF,aG,aH,aI,aJ,aK,aL,aM,aN,aO,aP,aQ,aR,aS,aT,aU,aV,aW,aX,aY,aZ,ba,bb,bc,bd,be,bf,bh,bi,bj,bp,bq,br,bu,bw,bz,bA,bB,bC,bD,bE,bF,bG,bH,bI,bJ,bK,bL,bM,bN,bO,bP,bQ,bS,bT,bU,bV,bW,bX,bY,bZ,cc,cd,cg,ch,cj,ck,cr,cx,cy,cz,cA,cB,cC,cD,cE,cF,cG,cH,cI,cJ,cK,cM,cO,cP,cQ,cR,cS,cT,cU,cV,cW,cX,cY,cZ,da,dc,dd,de,df,dg,dh,di,dj,dl,dn,dr,dt,du,dv,dw,dx,dA,dB,dC,dD,dE,dF,dG,dH,dI,dJ,dK,dL,dM,dO,dP,dQ,dR,dS,dT,dU,dW,dX,dY,dZ,ea,eb,ed,ee,eh,ei,ej,el,em,eo,er,eu,ew,ex,ey,ez,eA,eC,eD,eE,eF,eG,eH,eI,eJ,eK,eL,eM,eN,eO,eP,eQ,eR,eS,eT,eU,eV,eW,eX,eY,eZ,e9,fa,fb,fc,fe,ff,fh,fj,fm,fo,fp,fq,fs,ft,fu,fw,fx,fy,fA,fB,fC,fD,fE,fF,fG,fH,fI,fJ,fK,fL,fM,fN,fO,fP,fQ,fR,fS,fT,fU,fV,fW,fX,fY,fZ,ga,gc,gd,ge,gh,gi,gj,gk],[]⟩ wc:=by
 conv=>arg 2;whnf
 have HQN:Hid _:=hN
 clear hN
 obtain ⟨i0,hi0,hz0,hzs,hzb⟩:=info_parts Tryz.infoRec
 have hmb:=HS.out.lt
 have HSZ:Hid (Sc w t mb a dz #[.int .i64 v1,.bool ans,.bool cut,.int .i64 v3,.string R,.int .i64 v8,v] wc):=HS.out.call RZ.out.sc RZ.out.rd
 have HOZ:Hid (Rc.Own (mb+1) wc v D):=RZ.out.rd.ownR HO.out (by omega)
 have r0:wc.cell? ⟨rb,0,none⟩=some (.string r.name):=RZ.out.cell 0
 have r1:wc.cell? ⟨rb,1,none⟩=some (.int .i64 r.typ):=RZ.out.cell 1
 have r2:wc.cell? ⟨rb,2,none⟩=some (.int .i64 r.lasts):=RZ.out.cell 2
 have r3:wc.cell? ⟨rb,3,none⟩=some (.int .i64 r.addr):=RZ.out.cell 3
 have r4:wc.cell? ⟨rb,4,none⟩=some (.string r.text):=RZ.out.cell 4
 have r5:wc.cell? ⟨rb,5,none⟩=some (.int .i64 r.port):=RZ.out.cell 5
 have r6:wc.cell? ⟨rb,6,none⟩=some (.string r.target):=RZ.out.cell 6
 obtain ⟨av,lv,cv,hvv⟩:∃ a l c,v=.slice a l c:=by
  rcases HO.out.2 with ⟨hv,_⟩ | ⟨gq,cq,_,hv,_⟩
  ·exact ⟨_,_,_,hv⟩
  ·exact ⟨_,_,_,hv⟩
 subst hvv
 have m6:wc.cell? ⟨mb,6,none⟩=some (.slice av lv cv):=HSZ.out.cell 6
 have hzm:mb+1≤wc.heap.size:=HSZ.out.lm
 clear HS HO RZ
 go_wp2_with (at_builtin;refine wpList_append_own_at _ rfl _ _ 36 rfl (mb+1) 59 i0 _ 7 80 Tryz.underlying36 hi0 hz0 hzs hzb rfl (by omega) _ D.length (Rc.fl D) rfl ?hown ⟨wc.heap.size,0,none⟩ 1 1 r.cs rfl rfl ?hnews (Rc.cs_one r) ?h63 ?hbytes ?hbase ?_)
 case hown=>exact World.ownsRow.alloc HOZ.out _
 case hnews=>first | exact World.news_of_block (cs:=#[.string r.name,.int .i64 r.typ,.int .i64 r.lasts,.int .i64 r.addr,.string r.text,.int .i64 r.port,.string r.target]) (t:=59) (fr:=(0,0)) (heap_alloc_new wc _) | exact fun j u h=>h
 case h63=>(unfold maxLen;omega)
 case hbytes=>omega
 case hbase=>first | omega | (simp;omega)
 intro v' w6 t1 t2 t3 t4
 obtain ⟨ao,l',c',hv'⟩:∃ ao l' c',v'=.slice ao l' c':=by
  rcases t1.2 with ⟨hv,_⟩ | ⟨gq,cq,_,hv,_⟩
  ·exact ⟨_,_,_,hv⟩
  ·exact ⟨_,_,_,hv⟩
 subst hv'
 have hMne:∀ q,q < mb+1→some q≠(Value.slice av lv cv).ownBlock:=fun q hq e=>by have:=(HOZ.out.lt q e.symm).1;omega
 have HS6:Hid (Sc w t mb a dz #[.int .i64 v1,.bool ans,.bool cut,.int .i64 v3,.string R,.int .i64 v8,.slice av lv cv] w6):=(show Sc _ _ _ _ _ _ _ from (HSZ.out.keep ((World.Extends.refl wc).alloc _)).grown t2 (fun q hq=>hMne q hq))
 have HO6:Hid (Rc.Own (mb+1) w6 (.slice ao l' c') (D++[r])):=(show Rc.Own _ _ _ _ from Rc.own_snoc t1)
 have hv6:w6.cell? ⟨mb,6,none⟩=some (.slice av lv cv):=HS6.out.cell 6
 have hf6:=HS6.out.free 6
 have HS7:Hid (Sc w t mb a dz #[.int .i64 v1,.bool ans,.bool cut,.int .i64 v3,.string R,.int .i64 v8,.slice ao l' c'] (w6.setCell ⟨mb,6,none⟩ (.slice ao l' c'))):=HS6.out.store 6 (.slice ao l' c')
 have HO7:Hid (Rc.Own (mb+1) (w6.setCell ⟨mb,6,none⟩ (.slice ao l' c')) (.slice ao l' c') (D++[r])):=own_put HO6.out (by omega)
 clear t1 t2 t3 t4 hMne HSZ HOZ m6 r0 r1 r2 r3 r4 r5 r6
 go_wp2_with fail
 exact HQN.out _ _ _ _ _ _ _ _ HS7 HO7
set_option maxHeartbeats 6400000 in
set_option maxRecDepth 1000000 in
theorem ploop {u1 u3 u6 u7 u9 ab ac af ag ah ai aj ak am an ap aq ar au aw ay az aA aB aC aD aE aF aG aH aI aJ aK aL aM aN aO aP aQ aR aS aT aU aV aW aX aY aZ ba bb bc bd be bf bh bi bj bp bq br bu bw bz bA bB bC bD bE bF bG bH bI bJ bK bL bM bN bO bP bQ bS bT bU bV bW bX bY bZ cc cd cg ch cj ck cr cx cy cz cA cB cC cD cE cF cG cH cI cJ cK cM cO cP cQ cR cS cT cU cV cW cX cY cZ da dc dd de df dg dh di dj dl dn dr dt du dv dw dx dA dB dC dD dE dF dG dH dI dJ dK dL dM dO dP dQ dR dS dT dU dW dX dY dZ ea eb ed ee eh ei ej el em eo er eu ew ex ey ez eA eC eD eE eF eG eH eI eJ eK eL eM eN eO eP eQ eR eS eT eU eV eW eX eY eZ e9 fa fb fc fe ff fh fj fm fo fp fq fs ft fu fw fx fy fA fB fC fD fE fF fG fH fI fJ fK fL fM fN fO fP fQ fR fS fT fU fV fW fX fY fZ ga gc gd ge gh gi gj gk:Value} (w wc:World) (t R:ByteArray) (mb b9 v1 v3 v5 v8:Nat) (ans cut dq:Bool) (hs:t.size≤1000) (h20:v5≤20) (hb9:b9≤20000) (SE:Hid (Sc w t mb b9 dq #[.int .i64 v1,.bool ans,.bool cut,.int .i64 v3,.string R,.int .i64 v8,.slice none 0 0] wc)) (HQ1:Hid (dq=true→msgF t=none)) (HQ2:Hid (dq=false→b9≤t.size∧msgF t=msgU t v1 ans cut v3 R v8 (recsF t v5 b9 []))) (Q:Exit→Act→World→Prop) (hE:∀ a W,ErrRet w t a W→Q .ret a W)
 (hN:∀ (y3 kU kV kW j9 j6 j7 j8 hZ ia ib ic ie ig ii ij ik il im io ip iq ir iu iw ix iy iz iA iB iC iD iE iF iG iH iI iJ iK iL iM iN iO iP iQ iR iS iT iU iV kX kY kZ ld kg kh ki kj kk km ko kr ks kt ku kv kw kx ky kz kA iX iY iZ i1 i2 i6 i7 i8 ja jb jc je jf jg jh ji jj jk jl jm jo jp jq jr js ju jv jw jx jy jz jA jC jD jE jF jG jH jI jJ jK jL jM jN jO jP jQ jR jS jT jU jV jW jX jY jZ j1 kB kC kD kE kF kG kH kI kJ kK kL kM kN kO kP kQ kR kT lg v:Value) (D:List Rc.Rec) (b:Nat) (d:Bool) (wr:World),Hid (Sc w t mb b d #[.int .i64 v1,.bool ans,.bool cut,.int .i64 v3,.string R,.int .i64 v8,v] wr)→Hid (Rc.Own (mb+1) wr v D)→Hid (∀ r∈D,r.ok∧r.name.size≤1000∧r.target.size≤1000)→Hid (d=true→msgF t=none)→Hid (d=false→msgF t=if b=t.size then some ⟨(v1:Int),v3,v8,ans,cut,R,D⟩ else none)→Q .normal ⟨#[.string t,u1,.pointer (some ⟨w.heap.size,0,none⟩),y3,.pointer (some ⟨w.heap.size+1,0,none⟩),.pointer (some ⟨mb,0,none⟩),u6,u7,.int .i64 v5,u9,lg,kU,kV,kW,j9,ah,ai,aj,ak,am,an,ap,aq,ar,au,aw,ay,az,aA,aB,aC,aD,aE,aF,aG,aH,aI,aJ,aK,aL,aM,aN,aO,aP,aQ,aR,aS,aT,aU,aV,aW,aX,aY,aZ,ba,bb,bc,bd,be,bf,bh,bi,bj,bp,bq,br,bu,bw,bz,bA,bB,bC,bD,bE,bF,bG,bH,bI,bJ,bK,bL,bM,bN,bO,bP,bQ,bS,bT,bU,bV,bW,bX,bY,bZ,cc,cd,cg,ch,cj,ck,cr,j6,j7,j8,hZ,ia,ib,ic,ie,ig,ii,ij,ik,il,im,io,ip,iq,ir,iu,iw,ix,iy,iz,iA,iB,iC,iD,iE,iF,iG,iH,iI,iJ,iK,iL,iM,iN,iO,iP,iQ,iR,iS,iT,iU,iV,kX,kY,kZ,ld,kg,kh,ki,kj,kk,km,ko,kr,ks,kt,ku,kv,kw,kx,ky,kz,kA,iX,iY,iZ,i1,i2,i6,i7,i8,ja,jb,jc,je,jf,jg,jh,ji,jj,jk,jl,jm,jo,jp,jq,jr,js,ju,jv,jw,jx,jy,jz,jA,jC,jD,jE,jF,jG,jH,jI,jJ,jK,jL,jM,jN,jO,jP,jQ,jR,jS,jT,jU,jV,jW,jX,jY,jZ,j1,kB,kC,kD,kE,kF,kG,kH,kI,kJ,kK,kL,kM,kN,kO,kP,kQ,kR,kT,fO,fP,fQ,fR,fS,fT,fU,fV,fW,fX,fY,fZ,ga,gc,gd,ge,gh,gi,gj,gk],[]⟩ wr) :
 Code.wp Tryz.prog ((Tryz.f15.body.bind (blkIn 0)).getD .skip) Q ⟨#[.string t,u1,.pointer (some ⟨w.heap.size,0,none⟩),u3,.pointer (some ⟨w.heap.size+1,0,none⟩),.pointer (some ⟨mb,0,none⟩),u6,u7,.int .i64 v5,u9,.int .i64 0,ab,ac,af,ag,ah,ai,aj,ak,am,an,ap,aq,ar,au,aw,ay,az,aA,aB,aC,aD,aE,aF,aG,aH,aI,aJ,aK,aL,aM,aN,aO,aP,aQ,aR,aS,aT,aU,aV,aW,aX,aY,aZ,ba,bb,bc,bd,be,bf,bh,bi,bj,bp,bq,br,bu,bw,bz,bA,bB,bC,bD,bE,bF,bG,bH,bI,bJ,bK,bL,bM,bN,bO,bP,bQ,bS,bT,bU,bV,bW,bX,bY,bZ,cc,cd,cg,ch,cj,ck,cr,cx,cy,cz,cA,cB,cC,cD,cE,cF,cG,cH,cI,cJ,cK,cM,cO,cP,cQ,cR,cS,cT,cU,cV,cW,cX,cY,cZ,da,dc,dd,de,df,dg,dh,di,dj,dl,dn,dr,dt,du,dv,dw,dx,dA,dB,dC,dD,dE,dF,dG,dH,dI,dJ,dK,dL,dM,dO,dP,dQ,dR,dS,dT,dU,dW,dX,dY,dZ,ea,eb,ed,ee,eh,ei,ej,el,em,eo,er,eu,ew,ex,ey,ez,eA,eC,eD,eE,eF,eG,eH,eI,eJ,eK,eL,eM,eN,eO,eP,eQ,eR,eS,eT,eU,eV,eW,eX,eY,eZ,e9,fa,fb,fc,fe,ff,fh,fj,fm,fo,fp,fq,fs,ft,fu,fw,fx,fy,fA,fB,fC,fD,fE,fF,fG,fH,fI,fJ,fK,fL,fM,fN,fO,fP,fQ,fR,fS,fT,fU,fV,fW,fX,fY,fZ,ga,gc,gd,ge,gh,gi,gj,gk],[]⟩ wc:=by
 conv=>arg 2;whnf
 have HQN:Hid _:=hN
 clear hN
 have HQE:Hid _:=hE
 clear hE
 go_wp2_with fail
 go_loopw [10] (fun i wr=>∃ (k:Nat) (v:Value) (D:List Rc.Rec) (b:Nat) (d:Bool),k≤v5∧i=.int .i64 k∧b≤20000∧D.length=k∧Hid (Sc w t mb b d #[.int .i64 v1,.bool ans,.bool cut,.int .i64 v3,.string R,.int .i64 v8,v] wr)∧Hid (Rc.Own (mb+1) wr v D)∧Hid (∀ r∈D,r.ok∧r.name.size≤1000∧r.target.size≤1000)∧Hid (d=true→msgF t=none)∧Hid (d=false→b≤t.size∧msgF t=msgU t v1 ans cut v3 R v8 (recsF t (v5 - k) b D))) (fun i _=>v5 - (intOf i).toNat)
 case atStart=>exact ⟨0,.slice none 0 0,[],b9,dq,Nat.zero_le _,rfl,hb9,rfl,SE,World.ownsRow_nil _ _ _ _,(show ∀ _,_ from fun r hr=>by cases hr),HQ1,HQ2⟩
 case round=>
  obtain ⟨k,v,D,b,d,hk,rfl,hb,hDk,HS,HO,HOK,HT,HF⟩:=hrel
  clear HQ1 HQ2 SE
  have k2:wr.cell? ⟨w.heap.size+1,2,none⟩=some (.bool d):=HS.out.sbad
  cases d with
  | true=>
    have HN:Hid (msgF t=none):=HT.out rfl
    by_cases hlt:k < v5
    ·have hd:decide ((k:Int) < (v5:Int))=true:=by simp;omega
     go_wp2_with fail
     exact HQN.out _ _ _ _ _ _ _ _ _ _ _ _ _ _ _ _ _ _ _ _ _ _ _ _ _ _ _ _ _ _ _ _ _ _ _ _ _ _ _ _ _ _ _ _ _ _ _ _ _ _ _ _ _ _ _ _ _ _ _ _ _ _ _ _ _ _ _ _ _ _ _ _ _ _ _ _ _ _ _ _ _ _ _ _ _ _ _ _ _ _ _ _ _ _ _ _ _ _ _ _ _ _ _ _ _ _ _ _ _ _ _ _ _ _ _ _ _ _ _ _ _ _ _ _ _ _ _ _ _ _ _ _ _ _ _ _ _ _ _ _ _ _ _ _ _ _ _ v D b true _ HS HO HOK (fun _=>HN.out) (fun e=>by cases e)
    ·have hd:decide ((k:Int) < (v5:Int))=false:=by simp;omega
     go_wp2_with fail
     exact HQN.out _ _ _ _ _ _ _ _ _ _ _ _ _ _ _ _ _ _ _ _ _ _ _ _ _ _ _ _ _ _ _ _ _ _ _ _ _ _ _ _ _ _ _ _ _ _ _ _ _ _ _ _ _ _ _ _ _ _ _ _ _ _ _ _ _ _ _ _ _ _ _ _ _ _ _ _ _ _ _ _ _ _ _ _ _ _ _ _ _ _ _ _ _ _ _ _ _ _ _ _ _ _ _ _ _ _ _ _ _ _ _ _ _ _ _ _ _ _ _ _ _ _ _ _ _ _ _ _ _ _ _ _ _ _ _ _ _ _ _ _ _ _ _ _ _ _ _ v D b true _ HS HO HOK (fun _=>HN.out) (fun e=>by cases e)
  | false=>
    by_cases hlt:k < v5
    rotate_left
    ·have hd:decide ((k:Int) < (v5:Int))=false:=by simp;omega
     have HFC:Hid (msgF t=if b=t.size then some ⟨(v1:Int),v3,v8,ans,cut,R,D⟩ else none):=(show _=_ by
      rw [(HF.out rfl).2,show v5 - k=0 by omega];rfl)
     clear HF HT
     go_wp2_with fail
     exact HQN.out _ _ _ _ _ _ _ _ _ _ _ _ _ _ _ _ _ _ _ _ _ _ _ _ _ _ _ _ _ _ _ _ _ _ _ _ _ _ _ _ _ _ _ _ _ _ _ _ _ _ _ _ _ _ _ _ _ _ _ _ _ _ _ _ _ _ _ _ _ _ _ _ _ _ _ _ _ _ _ _ _ _ _ _ _ _ _ _ _ _ _ _ _ _ _ _ _ _ _ _ _ _ _ _ _ _ _ _ _ _ _ _ _ _ _ _ _ _ _ _ _ _ _ _ _ _ _ _ _ _ _ _ _ _ _ _ _ _ _ _ _ _ _ _ _ _ _ v D b false _ HS HO HOK (fun e=>by cases e) (fun _=>HFC.out)
    have hd:decide ((k:Int) < (v5:Int))=true:=by simp;omega
    have HRM:Hid (recF t b=none→msgF t=none):=fun h=>by rw [(HF.out rfl).2,recsF_no h (by omega)];rfl
    have HRG:Hid (∀ r q,recF t b=some (r,q)→msgF t=msgU t v1 ans cut v3 R v8 (recsF t (v5 - (k+1)) q (D++[r]))):=fun r q h=>by rw [(HF.out rfl).2,recsF_go h (by omega),show v5 - (k+1)=v5 - k - 1 by omega]
    have hbs:b≤t.size:=(HF.out rfl).1
    clear HF HT HQN
    go_wp2_with fail
    obtain ⟨wa,hwa⟩:∃ wa,wa=wr.alloc (.cells #[.string ⟨#[]⟩,.int .i64 0,.int .i64 0,.int .i64 0,.string ⟨#[]⟩,.int .i64 0,.string ⟨#[]⟩] 59):=⟨_,rfl⟩
    obtain ⟨rb,hrb⟩:∃ rb,rb=wr.heap.size:=⟨_,rfl⟩
    have hmw:=HS.out.lt
    have R0:Hid (Sr (w.heap.size+1) rb t wr b false #[.string ⟨#[]⟩,.int .i64 0,.int .i64 0,.int .i64 0,.string ⟨#[]⟩,.int .i64 0,.string ⟨#[]⟩] wa):=(show Sr _ _ _ _ _ _ _ _ by
     have hx:wr.Extends wa:=by rw [hwa];exact (World.Extends.refl _).alloc _
     refine ⟨Rd.ext hx,(hx.block _ HS.out.sc.lt).trans HS.out.sc,?_,by omega,HS.out.sc.lt⟩
     rw [hrb,hwa];exact heap_alloc_new wr _)
    rw [← hwa,← hrb]
    clear hwa hrb k2
    refine (sname_l (w.heap.size+1) b t false wa R0.out.sc hs hb (fun _=>hbs)).mono ?_
    rintro e wb ⟨s1,b1,d1,rfl,hb1,hs1,HD,HI,HN1⟩
    have R1:Hid (Sr (w.heap.size+1) rb t wr b1 d1 #[.string ⟨#[]⟩,.int .i64 0,.int .i64 0,.int .i64 0,.string ⟨#[]⟩,.int .i64 0,.string ⟨#[]⟩] wb):=R0.out.call HI HD
    have z0:=R1.out.free 0
    have c0:wb.cell? ⟨rb,0,none⟩=some (.string ⟨#[]⟩):=R1.out.cell 0
    clear R0 HD HI
    go_wp2_with fail
    have R2:Hid (Sr (w.heap.size+1) rb t wr b1 d1 #[.string s1,.int .i64 0,.int .i64 0,.int .i64 0,.string ⟨#[]⟩,.int .i64 0,.string ⟨#[]⟩] (wb.setCell ⟨rb,0,none⟩ (.string s1))):=R1.out.store 0 (.string s1)
    refine (snum_l (w.heap.size+1) b1 2 t d1 _ R2.out.sc hs (by omega) (by omega) hb1).mono ?_
    rintro e wd ⟨x2,b2,d2,rfl,hb2,hx2,HD,HI,HN2⟩
    have R3:Hid (Sr (w.heap.size+1) rb t wr b2 d2 #[.string s1,.int .i64 0,.int .i64 0,.int .i64 0,.string ⟨#[]⟩,.int .i64 0,.string ⟨#[]⟩] wd):=R2.out.call HI HD
    have z1:=R3.out.free 1
    have c1:wd.cell? ⟨rb,1,none⟩=some (.int .i64 0):=R3.out.cell 1
    clear R1 R2 HD HI z0 c0
    go_upto_region 23 with fail
    obtain ⟨we,hwe⟩:∃ we,we=wd.setCell ⟨rb,1,none⟩ (.int .i64 x2):=⟨_,rfl⟩
    have R4:Hid (Sr (w.heap.size+1) rb t wr b2 d2 #[.string s1,.int .i64 x2,.int .i64 0,.int .i64 0,.string ⟨#[]⟩,.int .i64 0,.string ⟨#[]⟩] we):=(show Sr _ _ _ _ _ _ _ _ by rw [hwe];exact R3.out.store 1 (.int .i64 x2))
    rw [← hwe]
    clear R3 z1 c1 hwe
    have k2:we.cell? ⟨w.heap.size+1,2,none⟩=some (.bool d2):=R4.out.sbad
    have k3:=R4.out.sfree 2
    cases d2 with
    | true=>
      have HE:Hid (rdE t≠0):=rdE_none (HRM.out (rec_bad HN1.out HN2.out))
      go_wp2_with fail
      refine (snum_l (w.heap.size+1) b2 4 t true _ (R4.out.mark true).sc hs (by omega) (by omega) hb2).mono ?_
      rintro e wf ⟨x4,b4,d4,rfl,hb4,hx4,HD,HI,HN4⟩
      have hd4:d4=true:=by
       cases d4 with
       | true=>rfl
       | false=>exact absurd (HN4.out.1 rfl).1 (by simp)
      subst hd4
      have R6:Hid (Sr (w.heap.size+1) rb t wr b4 true #[.string s1,.int .i64 x2,.int .i64 0,.int .i64 0,.string ⟨#[]⟩,.int .i64 0,.string ⟨#[]⟩] wf):=(R4.out.mark true).call HI HD
      have z2:=R6.out.free 2
      have c2:wf.cell? ⟨rb,2,none⟩=some (.int .i64 0):=R6.out.cell 2
      clear R4 HD HI k2 k3 HN4
      go_wp2_with fail
      have R7:Hid (Sr (w.heap.size+1) rb t wr b4 true #[.string s1,.int .i64 x2,.int .i64 x4,.int .i64 0,.string ⟨#[]⟩,.int .i64 0,.string ⟨#[]⟩] (wf.setCell ⟨rb,2,none⟩ (.int .i64 x4))):=R6.out.store 2 (.int .i64 x4)
      refine (snum_l (w.heap.size+1) b4 2 t true _ R7.out.sc hs (by omega) (by omega) hb4).mono ?_
      rintro e wg ⟨x5,b5,d5,rfl,hb5,hx5,HD,HI,HN5⟩
      have hd5:d5=true:=by
       cases d5 with
       | true=>rfl
       | false=>exact absurd (HN5.out.1 rfl).1 (by simp)
      subst hd5
      have R8:Hid (Sr (w.heap.size+1) rb t wr b5 true #[.string s1,.int .i64 x2,.int .i64 x4,.int .i64 0,.string ⟨#[]⟩,.int .i64 0,.string ⟨#[]⟩] wg):=R7.out.call HI HD
      have HSX:Hid (Sc w t mb b5 true #[.int .i64 v1,.bool ans,.bool cut,.int .i64 v3,.string R,.int .i64 v8,v] wg):=HS.out.call R8.out.sc R8.out.rd
      have k4:wg.cell? ⟨w.heap.size+1,1,none⟩=some (.int .i64 b5):=R8.out.sat
      have k5:wg.cell? ⟨w.heap.size+1,2,none⟩=some (.bool true):=R8.out.sbad
      clear R6 R7 R8 HD HI HN5 z2 c2
      have q0:wg.cell? ⟨w.heap.size,0,none⟩=some (.int .i64 0):=HSX.out.qcell 0
      have yy0:=HSX.out.qfree 0
      have q1:wg.cell? ⟨w.heap.size,1,none⟩=some (.bool false):=HSX.out.qcell 1
      have yy1:=HSX.out.qfree 1
      have q2:wg.cell? ⟨w.heap.size,2,none⟩=some (.bool false):=HSX.out.qcell 2
      have yy2:=HSX.out.qfree 2
      have q3:wg.cell? ⟨w.heap.size,3,none⟩=some (.int .i64 0):=HSX.out.qcell 3
      have yy3:=HSX.out.qfree 3
      have q4:wg.cell? ⟨w.heap.size,4,none⟩=some (.string ⟨#[]⟩):=HSX.out.qcell 4
      have yy4:=HSX.out.qfree 4
      have q5:wg.cell? ⟨w.heap.size,5,none⟩=some (.int .i64 0):=HSX.out.qcell 5
      have yy5:=HSX.out.qfree 5
      have q6:wg.cell? ⟨w.heap.size,6,none⟩=some (.slice none 0 0):=HSX.out.qcell 6
      have yy6:=HSX.out.qfree 6
      go_wp2_with fail
      exact HQE.out _ _ ⟨rfl,rfl,rfl,HSX.out.zeroed,atop 6 (atop 5 (atop 4 (atop 3 (atop 2 (atop 1 (atop 0 HSX.out.bl (Nat.le_refl _)) (Nat.le_refl _)) (Nat.le_refl _)) (Nat.le_refl _)) (Nat.le_refl _)) (Nat.le_refl _)) (Nat.le_refl _),HE.out⟩
    | false=>
      go_wp2_with fail
      refine (snum_l (w.heap.size+1) b2 2 t false _ R4.out.sc hs (by omega) (by omega) hb2).mono ?_
      rintro e wf ⟨x3,b3,d3,rfl,hb3,hx3,HD,HI,HN3⟩
      have R5:Hid (Sr (w.heap.size+1) rb t wr b3 d3 #[.string s1,.int .i64 x2,.int .i64 0,.int .i64 0,.string ⟨#[]⟩,.int .i64 0,.string ⟨#[]⟩] wf):=R4.out.call HI HD
      have k4:wf.cell? ⟨w.heap.size+1,2,none⟩=some (.bool d3):=R5.out.sbad
      have k5:=R5.out.sfree 2
      obtain ⟨d3x,hd3x⟩:∃ x,((x3:Int) != 1)=x:=⟨_,rfl⟩
      clear R4 HD HI k2 k3
      go_wp2_with fail
      have R6:Hid (Sr (w.heap.size+1) rb t wr b3 d3x #[.string s1,.int .i64 x2,.int .i64 0,.int .i64 0,.string ⟨#[]⟩,.int .i64 0,.string ⟨#[]⟩] (wf.setCell ⟨w.heap.size+1,2,none⟩ (.bool d3x))):=R5.out.mark d3x
      refine (snum_l (w.heap.size+1) b3 4 t d3x _ R6.out.sc hs (by omega) (by omega) hb3).mono ?_
      rintro e wg ⟨x4,b4,d4,rfl,hb4,hx4,HD,HI,HN4⟩
      have R7:Hid (Sr (w.heap.size+1) rb t wr b4 d4 #[.string s1,.int .i64 x2,.int .i64 0,.int .i64 0,.string ⟨#[]⟩,.int .i64 0,.string ⟨#[]⟩] wg):=R6.out.call HI HD
      have z2:=R7.out.free 2
      have c2:wg.cell? ⟨rb,2,none⟩=some (.int .i64 0):=R7.out.cell 2
      have HX3:Hid (((x3:Int) != 1)=d3x):=hd3x
      clear R5 R6 HD HI k4 k5 hd3x
      go_wp2_with fail
      have R8:Hid (Sr (w.heap.size+1) rb t wr b4 d4 #[.string s1,.int .i64 x2,.int .i64 x4,.int .i64 0,.string ⟨#[]⟩,.int .i64 0,.string ⟨#[]⟩] (wg.setCell ⟨rb,2,none⟩ (.int .i64 x4))):=R7.out.store 2 (.int .i64 x4)
      refine (snum_l (w.heap.size+1) b4 2 t d4 _ R8.out.sc hs (by omega) (by omega) hb4).mono ?_
      rintro e wh ⟨x5,b5,d5,rfl,hb5,hx5,HD,HI,HN5⟩
      have R9:Hid (Sr (w.heap.size+1) rb t wr b5 d5 #[.string s1,.int .i64 x2,.int .i64 x4,.int .i64 0,.string ⟨#[]⟩,.int .i64 0,.string ⟨#[]⟩] wh):=R8.out.call HI HD
      have HRH:=rec_head HN1.out HN2.out HN3.out (by rw [HX3.out];exact HN4.out) HN5.out
      have HR1:Hid (d5=true→recF t b=none):=HRH.1
      have HR2:Hid (d5=false→b5≤t.size∧b5=b1+2+2+4+2∧x5=rnum t (b1+2+2+4) 2∧recF t b=recH t b1 (datF t b5 s1 x2 x4)):=HRH.2
      clear R7 R8 HD HI HRH HN1 HN2 HN3 HN4 HN5 HX3 z2 c2
      have k4:wh.cell? ⟨w.heap.size+1,1,none⟩=some (.int .i64 b5):=R9.out.sat
      have k5:wh.cell? ⟨w.heap.size+1,2,none⟩=some (.bool d5):=R9.out.sbad
      have hw5:IntKind.i64.wrap ((b5:Int)+(x5:Int))=(b5:Int)+(x5:Int):=by rw [IntKind.wrap_i64];omega
      have HSX:Hid (Sc w t mb b5 d5 #[.int .i64 v1,.bool ans,.bool cut,.int .i64 v3,.string R,.int .i64 v8,v] wh):=HS.out.call R9.out.sc R9.out.rd
      cases d5 with
      | true=>
        have HE:Hid (rdE t≠0):=rdE_none (HRM.out (HR1.out rfl))
        clear HR1 HR2 R9
        have q0:wh.cell? ⟨w.heap.size,0,none⟩=some (.int .i64 0):=HSX.out.qcell 0
        have yy0:=HSX.out.qfree 0
        have q1:wh.cell? ⟨w.heap.size,1,none⟩=some (.bool false):=HSX.out.qcell 1
        have yy1:=HSX.out.qfree 1
        have q2:wh.cell? ⟨w.heap.size,2,none⟩=some (.bool false):=HSX.out.qcell 2
        have yy2:=HSX.out.qfree 2
        have q3:wh.cell? ⟨w.heap.size,3,none⟩=some (.int .i64 0):=HSX.out.qcell 3
        have yy3:=HSX.out.qfree 3
        have q4:wh.cell? ⟨w.heap.size,4,none⟩=some (.string ⟨#[]⟩):=HSX.out.qcell 4
        have yy4:=HSX.out.qfree 4
        have q5:wh.cell? ⟨w.heap.size,5,none⟩=some (.int .i64 0):=HSX.out.qcell 5
        have yy5:=HSX.out.qfree 5
        have q6:wh.cell? ⟨w.heap.size,6,none⟩=some (.slice none 0 0):=HSX.out.qcell 6
        have yy6:=HSX.out.qfree 6
        go_wp2_with fail
        exact HQE.out _ _ ⟨rfl,rfl,rfl,HSX.out.zeroed,atop 6 (atop 5 (atop 4 (atop 3 (atop 2 (atop 1 (atop 0 HSX.out.bl (Nat.le_refl _)) (Nat.le_refl _)) (Nat.le_refl _)) (Nat.le_refl _)) (Nat.le_refl _)) (Nat.le_refl _)) (Nat.le_refl _),HE.out⟩
      | false=>
        obtain ⟨hb5s,hb5e,hx5e,hre⟩:=HR2.out rfl
        have HRE:Hid (recF t b=recH t b1 (datF t b5 s1 x2 x4)):=hre
        have HB5:Hid (b5=b1+2+2+4+2):=hb5e
        have HX5:Hid (x5=rnum t (b1+2+2+4) 2):=hx5e
        clear HR1 HR2 hre hb5e hx5e
        by_cases hend:b5+x5≤t.size
        rotate_left
        ·have HE:Hid (rdE t≠0):=rdE_none (HRM.out (rec_far HB5.out HX5.out HRE.out hb5s hend))
         have hgt:decide ((t.size:Int) < (b5:Int)+(x5:Int))=true:=by simp;omega
         clear R9
         have q0:wh.cell? ⟨w.heap.size,0,none⟩=some (.int .i64 0):=HSX.out.qcell 0
         have yy0:=HSX.out.qfree 0
         have q1:wh.cell? ⟨w.heap.size,1,none⟩=some (.bool false):=HSX.out.qcell 1
         have yy1:=HSX.out.qfree 1
         have q2:wh.cell? ⟨w.heap.size,2,none⟩=some (.bool false):=HSX.out.qcell 2
         have yy2:=HSX.out.qfree 2
         have q3:wh.cell? ⟨w.heap.size,3,none⟩=some (.int .i64 0):=HSX.out.qcell 3
         have yy3:=HSX.out.qfree 3
         have q4:wh.cell? ⟨w.heap.size,4,none⟩=some (.string ⟨#[]⟩):=HSX.out.qcell 4
         have yy4:=HSX.out.qfree 4
         have q5:wh.cell? ⟨w.heap.size,5,none⟩=some (.int .i64 0):=HSX.out.qcell 5
         have yy5:=HSX.out.qfree 5
         have q6:wh.cell? ⟨w.heap.size,6,none⟩=some (.slice none 0 0):=HSX.out.qcell 6
         have yy6:=HSX.out.qfree 6
         go_wp2_with fail
         exact HQE.out _ _ ⟨rfl,rfl,rfl,HSX.out.zeroed,atop 6 (atop 5 (atop 4 (atop 3 (atop 2 (atop 1 (atop 0 HSX.out.bl (Nat.le_refl _)) (Nat.le_refl _)) (Nat.le_refl _)) (Nat.le_refl _)) (Nat.le_refl _)) (Nat.le_refl _)) (Nat.le_refl _),HE.out⟩
        have hgt:decide ((t.size:Int) < (b5:Int)+(x5:Int))=false:=by simp;omega
        have c1:wh.cell? ⟨rb,1,none⟩=some (.int .i64 x2):=R9.out.cell 1
        go_upto_block 2 with fail
        refine psw w wr wh t s1 mb rb b b1 b5 x2 x4 #[.int .i64 v1,.bool ans,.bool cut,.int .i64 v3,.string R,.int .i64 v8,v] hs hs1 hb5 HRM HRE HS R9 _ (fun a W hh=>HQE.out a W hh) ?_
        intro j9 km ko kr ks kt ku kv kw kx ky kz kA iX iY iZ i1 i2 i6 i7 i8 ja jb jc je jf jg jh ji jj jk jl jm jo jp jq jr js ju jv jw jx jy jz jA jC jD jE jF jG jH jI jJ jK jL jM jN jO jP jQ jR jS jT jU jV jW jX r a d wx ha HRO RX HDA HDB
        clear R9 HSX k4 k5 c1 hgt hend hw5 HQE
        go_upto_region 42 with fail
        refine p42 w wr wx t s1 rb b b1 b5 x2 x4 x5 a d r hb5s HB5 HX5 HRE RX HDA HDB _ ?_
        intro jY jZ j1 kB kC kD kE kF kG kH kI kJ kK kL kM dz wz RZ HZ1 HZ2
        have HZA:Hid (dz=true→msgF t=none):=fun e=>HRM.out (HZ1.out e)
        have HZB:Hid (dz=false→a≤t.size∧msgF t=msgU t v1 ans cut v3 R v8 (recsF t (v5 - (k+1)) a (D++[r]))):=fun e=>⟨(HZ2.out e).1,HRG.out r a (HZ2.out e).2⟩
        have HOK2:Hid (∀ x∈D++[r],x.ok∧x.name.size≤1000∧x.target.size≤1000):=(show ∀ _,_ from fun x hx=>by
         rcases List.mem_append.1 hx with h | h
         ·exact HOK.out x h
         ·rw [List.mem_singleton.1 h];exact HRO.out)
        clear RX HDA HDB HRE HB5 HX5 HRM HRG HZ1 HZ2 HOK HRO
        go_upto_region 43 with fail
        refine p43 w wr wz t R mb rb a b v1 v3 v8 ans cut false dz r v D (by omega) HS HO RZ _ ?_
        intro kN kO kP kQ kR kT v' wy HS7 HO7
        clear HS HO RZ
        go_wp2_with fail
        exact ⟨⟨k+1,v',D++[r],a,dz,by omega,by go_num,ha,by rw [List.length_append,List.length_singleton,hDk],HS7,HO7,HOK2,HZA,HZB⟩,by simp [intOf];omega⟩
def behindC:Code→Option Code
 | .seq a b=>match behindC b with
   | some c=>some c
   | none=>if (blkIn 0 a).isSome then some b else none
 | _=>none
def OkRet (w:World) (t:ByteArray) (a:Act) (W:World):Prop:=∃ M v,a.defers=[]∧a.tmps.getD 2 undef=.pointer (some ⟨w.heap.size,0,none⟩)∧a.tmps.getD 3 undef=.int .i64 0∧msgF t=some M∧chkMsg M.id M.code M.typ M.R M.rs=0∧W.heap[w.heap.size]?=some (.cells #[.int .i64 M.id,.bool M.ans,.bool M.cut,.int .i64 M.code,.string M.R,.int .i64 M.typ,v] 38 (0,0))∧Below w.heap.size w W∧Rc.Own w.heap.size W v M.rs
set_option maxHeartbeats 3200000 in
set_option maxRecDepth 1000000 in
theorem ptail {u1 u3 u6 u7 u8 u9 aa ab ac af ag ah ai aj ak am an ap aq ar au aw ay az aA aB aC aD aE aF aG aH aI aJ aK aL aM aN aO aP aQ aR aS aT aU aV aW aX aY aZ ba bb bc bd be bf bh bi bj bp bq br bu bw bz bA bB bC bD bE bF bG bH bI bJ bK bL bM bN bO bP bQ bS bT bU bV bW bX bY bZ cc cd cg ch cj ck cr cx cy cz cA cB cC cD cE cF cG cH cI cJ cK cM cO cP cQ cR cS cT cU cV cW cX cY cZ da dc dd de df dg dh di dj dl dn dr dt du dv dw dx dA dB dC dD dE dF dG dH dI dJ dK dL dM dO dP dQ dR dS dT dU dW dX dY dZ ea eb ed ee eh ei ej el em eo er eu ew ex ey ez eA eC eD eE eF eG eH eI eJ eK eL eM eN eO eP eQ eR eS eT eU eV eW eX eY eZ e9 fa fb fc fe ff fh fj fm fo fp fq fs ft fu fw fx fy fA fB fC fD fE fF fG fH fI fJ fK fL fM fN fO fP fQ fR fS fT fU fV fW fX fY fZ ga gc gd ge gh gi gj gk:Value} (w wr:World) (t R:ByteArray) (mb b v1 v3 v8:Nat) (ans cut d:Bool) (v:Value) (D:List Rc.Rec) (hR:R.size≤1000) (HS:Hid (Sc w t mb b d #[.int .i64 v1,.bool ans,.bool cut,.int .i64 v3,.string R,.int .i64 v8,v] wr)) (HO:Hid (Rc.Own (mb+1) wr v D)) (HOK:Hid (∀ r∈D,r.ok∧r.name.size≤1000∧r.target.size≤1000)) (HT:Hid (d=true→msgF t=none)) (HF:Hid (d=false→msgF t=if b=t.size then some ⟨(v1:Int),v3,v8,ans,cut,R,D⟩ else none)) (Q:Exit→Act→World→Prop) (hE:∀ a W,ErrRet w t a W→Q .ret a W) (hO:∀ a W,OkRet w t a W→Q .ret a W) :
 Code.wp Tryz.prog ((Tryz.f15.body.bind behindC).getD .skip) Q ⟨#[.string t,u1,.pointer (some ⟨w.heap.size,0,none⟩),u3,.pointer (some ⟨w.heap.size+1,0,none⟩),.pointer (some ⟨mb,0,none⟩),u6,u7,u8,u9,aa,ab,ac,af,ag,ah,ai,aj,ak,am,an,ap,aq,ar,au,aw,ay,az,aA,aB,aC,aD,aE,aF,aG,aH,aI,aJ,aK,aL,aM,aN,aO,aP,aQ,aR,aS,aT,aU,aV,aW,aX,aY,aZ,ba,bb,bc,bd,be,bf,bh,bi,bj,bp,bq,br,bu,bw,bz,bA,bB,bC,bD,bE,bF,bG,bH,bI,bJ,bK,bL,bM,bN,bO,bP,bQ,bS,bT,bU,bV,bW,bX,bY,bZ,cc,cd,cg,ch,cj,ck,cr,cx,cy,cz,cA,cB,cC,cD,cE,cF,cG,cH,cI,cJ,cK,cM,cO,cP,cQ,cR,cS,cT,cU,cV,cW,cX,cY,cZ,da,dc,dd,de,df,dg,dh,di,dj,dl,dn,dr,dt,du,dv,dw,dx,dA,dB,dC,dD,dE,dF,dG,dH,dI,dJ,dK,dL,dM,dO,dP,dQ,dR,dS,dT,dU,dW,dX,dY,dZ,ea,eb,ed,ee,eh,ei,ej,el,em,eo,er,eu,ew,ex,ey,ez,eA,eC,eD,eE,eF,eG,eH,eI,eJ,eK,eL,eM,eN,eO,eP,eQ,eR,eS,eT,eU,eV,eW,eX,eY,eZ,e9,fa,fb,fc,fe,ff,fh,fj,fm,fo,fp,fq,fs,ft,fu,fw,fx,fy,fA,fB,fC,fD,fE,fF,fG,fH,fI,fJ,fK,fL,fM,fN,fO,fP,fQ,fR,fS,fT,fU,fV,fW,fX,fY,fZ,ga,gc,gd,ge,gh,gi,gj,gk],[]⟩ wr:=by
 conv=>arg 2;whnf
 have HQE:Hid _:=hE
 have HQO:Hid _:=hO
 clear hE hO
 have k2:wr.cell? ⟨w.heap.size+1,2,none⟩=some (.bool d):=HS.out.sbad
 have k1:wr.cell? ⟨w.heap.size+1,1,none⟩=some (.int .i64 b):=HS.out.sat
 cases d with
 | true=>
   have HE:Hid (rdE t≠0):=rdE_none (HT.out rfl)
   have q0:wr.cell? ⟨w.heap.size,0,none⟩=some (.int .i64 0):=HS.out.qcell 0
   have yy0:=HS.out.qfree 0
   have q1:wr.cell? ⟨w.heap.size,1,none⟩=some (.bool false):=HS.out.qcell 1
   have yy1:=HS.out.qfree 1
   have q2:wr.cell? ⟨w.heap.size,2,none⟩=some (.bool false):=HS.out.qcell 2
   have yy2:=HS.out.qfree 2
   have q3:wr.cell? ⟨w.heap.size,3,none⟩=some (.int .i64 0):=HS.out.qcell 3
   have yy3:=HS.out.qfree 3
   have q4:wr.cell? ⟨w.heap.size,4,none⟩=some (.string ⟨#[]⟩):=HS.out.qcell 4
   have yy4:=HS.out.qfree 4
   have q5:wr.cell? ⟨w.heap.size,5,none⟩=some (.int .i64 0):=HS.out.qcell 5
   have yy5:=HS.out.qfree 5
   have q6:wr.cell? ⟨w.heap.size,6,none⟩=some (.slice none 0 0):=HS.out.qcell 6
   have yy6:=HS.out.qfree 6
   go_wp2_with fail
   exact HQE.out _ _ ⟨rfl,rfl,rfl,HS.out.zeroed,atop 6 (atop 5 (atop 4 (atop 3 (atop 2 (atop 1 (atop 0 HS.out.bl (Nat.le_refl _)) (Nat.le_refl _)) (Nat.le_refl _)) (Nat.le_refl _)) (Nat.le_refl _)) (Nat.le_refl _)) (Nat.le_refl _),HE.out⟩
 | false=>
   have HFC:Hid (msgF t=if b=t.size then some ⟨(v1:Int),v3,v8,ans,cut,R,D⟩ else none):=HF.out rfl
   obtain ⟨av,lv,cv,hvv⟩:∃ a l c,v=.slice a l c:=by
    rcases HO.out.2 with ⟨hv,_⟩ | ⟨gq,cq,_,hv,_⟩
    ·exact ⟨_,_,_,hv⟩
    ·exact ⟨_,_,_,hv⟩
   subst hvv
   clear HF HT
   by_cases hbe:b=t.size
   ·have HFD:Hid (msgF t=some ⟨(v1:Int),v3,v8,ans,cut,R,D⟩):=HFC.out.trans (if_pos hbe)
    have hbn:((b:Int) != (t.size:Int))=false:=by simp;omega
    have HSL:Hid (Rc.Sl wr (.slice av lv cv) D):=HO.out.sl (fun j=>by
     by_cases hj:j < D.length
     ·have:D.getD j Rc.dm=D[j]:=by simp [List.getD,List.getElem?_eq_getElem hj]
      rw [this];exact (HOK.out _ (List.getElem_mem hj)).1
     ·have:D.getD j Rc.dm=Rc.dm:=by simp [List.getD,List.getElem?_eq_none (by omega:D.length≤j)]
      rw [this];exact Rc.dm_ok)
    have HCK:Hid (Calls Tryz.prog 38 #[.agg #[.int .i64 v1,.bool ans,.bool cut,.int .i64 v3,.string R,.int .i64 v8,.slice av lv cv]] wr fun e w'=>e=.returned (.int .i64 (chkMsg v1 v3 v8 R D))∧Below wr.heap.size wr w'):=refMsg_any v1 v3 v8 ans cut R D _ wr (by omega) (fun r hr=>⟨by have:=(HOK.out r hr).2.1;omega,by have:=(HOK.out r hr).2.2;omega⟩) HSL.out
    have HSE0:Hid (chkMsg v1 v3 v8 R D≠0→rdE t≠0):=fun h=>rdE_some HFD.out h
    have HRES:Hid (chkMsg v1 v3 v8 R D=0→∃ M:Ms,msgF t=some M∧chkMsg M.id M.code M.typ M.R M.rs=0∧#[Value.int .i64 v1,.bool ans,.bool cut,.int .i64 v3,.string R,.int .i64 v8,.slice av lv cv]=#[.int .i64 M.id,.bool M.ans,.bool M.cut,.int .i64 M.code,.string M.R,.int .i64 M.typ,.slice av lv cv]∧M.rs=D):=fun h=>⟨_,HFD.out,h,rfl,rfl⟩
    have n0:wr.cell? ⟨mb,0,none⟩=some (.int .i64 v1):=HS.out.cell 0
    have n1:wr.cell? ⟨mb,1,none⟩=some (.bool ans):=HS.out.cell 1
    have n2:wr.cell? ⟨mb,2,none⟩=some (.bool cut):=HS.out.cell 2
    have n3:wr.cell? ⟨mb,3,none⟩=some (.int .i64 v3):=HS.out.cell 3
    have n4:wr.cell? ⟨mb,4,none⟩=some (.string R):=HS.out.cell 4
    have n5:wr.cell? ⟨mb,5,none⟩=some (.int .i64 v8):=HS.out.cell 5
    have n6:wr.cell? ⟨mb,6,none⟩=some (.slice av lv cv):=HS.out.cell 6
    generalize chkMsg v1 v3 v8 R D=CK at *
    clear HFC HSL hbe
    go_wp2_with fail
    refine HCK.out.mono ?_
    rintro e we ⟨rfl,hbl⟩
    have HSE:Hid (Sc w t mb b false #[.int .i64 v1,.bool ans,.bool cut,.int .i64 v3,.string R,.int .i64 v8,.slice av lv cv] we):=HS.out.below hbl
    have HOE:Hid (Rc.Own (mb+1) we (.slice av lv cv) D):=HO.out.below hbl
    have hmb:=HSE.out.lt
    clear hbl n0 n1 n2 n3 n4 n5 n6 HCK HS HO k1 k2
    by_cases hck:CK=0
    ·have hcb:(CK != 0)=false:=by simp [hck]
     have HRX:Hid (∃ M:Ms,msgF t=some M∧chkMsg M.id M.code M.typ M.R M.rs=0∧#[Value.int .i64 v1,.bool ans,.bool cut,.int .i64 v3,.string R,.int .i64 v8,.slice av lv cv]=#[.int .i64 M.id,.bool M.ans,.bool M.cut,.int .i64 M.code,.string M.R,.int .i64 M.typ,.slice av lv cv]∧M.rs=D):=HRES.out hck
     clear hck HRES HSE0
     have m0:we.cell? ⟨mb,0,none⟩=some (.int .i64 v1):=HSE.out.cell 0
     have q0:we.cell? ⟨w.heap.size,0,none⟩=some (.int .i64 0):=HSE.out.qcell 0
     have yy0:=HSE.out.qfree 0
     have m1:we.cell? ⟨mb,1,none⟩=some (.bool ans):=HSE.out.cell 1
     have q1:we.cell? ⟨w.heap.size,1,none⟩=some (.bool false):=HSE.out.qcell 1
     have yy1:=HSE.out.qfree 1
     have m2:we.cell? ⟨mb,2,none⟩=some (.bool cut):=HSE.out.cell 2
     have q2:we.cell? ⟨w.heap.size,2,none⟩=some (.bool false):=HSE.out.qcell 2
     have yy2:=HSE.out.qfree 2
     have m3:we.cell? ⟨mb,3,none⟩=some (.int .i64 v3):=HSE.out.cell 3
     have q3:we.cell? ⟨w.heap.size,3,none⟩=some (.int .i64 0):=HSE.out.qcell 3
     have yy3:=HSE.out.qfree 3
     have m4:we.cell? ⟨mb,4,none⟩=some (.string R):=HSE.out.cell 4
     have q4:we.cell? ⟨w.heap.size,4,none⟩=some (.string ⟨#[]⟩):=HSE.out.qcell 4
     have yy4:=HSE.out.qfree 4
     have m5:we.cell? ⟨mb,5,none⟩=some (.int .i64 v8):=HSE.out.cell 5
     have q5:we.cell? ⟨w.heap.size,5,none⟩=some (.int .i64 0):=HSE.out.qcell 5
     have yy5:=HSE.out.qfree 5
     have m6:we.cell? ⟨mb,6,none⟩=some (.slice av lv cv):=HSE.out.cell 6
     have q6:we.cell? ⟨w.heap.size,6,none⟩=some (.slice none 0 0):=HSE.out.qcell 6
     have yy6:=HSE.out.qfree 6
     go_wp2_with fail
     obtain ⟨M,g1,g2,g3,g4⟩:=HRX.out
     refine HQO.out _ _ ⟨M,.slice av lv cv,rfl,rfl,rfl,g1,g2,?_,?_,?_⟩
     ·rw [← g3]
      exact Joins.block_setCell (i:=6) (Joins.block_setCell (i:=5) (Joins.block_setCell (i:=4) (Joins.block_setCell (i:=3) (Joins.block_setCell (i:=2) (Joins.block_setCell (i:=1) (Joins.block_setCell (i:=0) HSE.out.qx _) _) _) _) _) _) _
     ·exact atop 6 (atop 5 (atop 4 (atop 3 (atop 2 (atop 1 (atop 0 HSE.out.bl (Nat.le_refl _)) (Nat.le_refl _)) (Nat.le_refl _)) (Nat.le_refl _)) (Nat.le_refl _)) (Nat.le_refl _)) (Nat.le_refl _)
     ·rw [g4]
      exact Rc.Own.mono (own_put (i:=6) (own_put (i:=5) (own_put (i:=4) (own_put (i:=3) (own_put (i:=2) (own_put (i:=1) (own_put (i:=0) HOE.out (by omega)) (by omega)) (by omega)) (by omega)) (by omega)) (by omega)) (by omega)) (by omega)
    ·have hcb:(CK != 0)=true:=by simp [hck]
     have HE:Hid (rdE t≠0):=HSE0.out hck
     clear hck HRES HSE0
     have q0:we.cell? ⟨w.heap.size,0,none⟩=some (.int .i64 0):=HSE.out.qcell 0
     have yy0:=HSE.out.qfree 0
     have q1:we.cell? ⟨w.heap.size,1,none⟩=some (.bool false):=HSE.out.qcell 1
     have yy1:=HSE.out.qfree 1
     have q2:we.cell? ⟨w.heap.size,2,none⟩=some (.bool false):=HSE.out.qcell 2
     have yy2:=HSE.out.qfree 2
     have q3:we.cell? ⟨w.heap.size,3,none⟩=some (.int .i64 0):=HSE.out.qcell 3
     have yy3:=HSE.out.qfree 3
     have q4:we.cell? ⟨w.heap.size,4,none⟩=some (.string ⟨#[]⟩):=HSE.out.qcell 4
     have yy4:=HSE.out.qfree 4
     have q5:we.cell? ⟨w.heap.size,5,none⟩=some (.int .i64 0):=HSE.out.qcell 5
     have yy5:=HSE.out.qfree 5
     have q6:we.cell? ⟨w.heap.size,6,none⟩=some (.slice none 0 0):=HSE.out.qcell 6
     have yy6:=HSE.out.qfree 6
     go_wp2_with fail
     exact HQE.out _ _ ⟨rfl,rfl,rfl,HSE.out.zeroed,atop 6 (atop 5 (atop 4 (atop 3 (atop 2 (atop 1 (atop 0 HSE.out.bl (Nat.le_refl _)) (Nat.le_refl _)) (Nat.le_refl _)) (Nat.le_refl _)) (Nat.le_refl _)) (Nat.le_refl _)) (Nat.le_refl _),HE.out⟩
   ·have HE:Hid (rdE t≠0):=rdE_none (HFC.out.trans (if_neg hbe))
    have hbn:((b:Int) != (t.size:Int))=true:=by simp;omega
    clear hbe HFC
    have q0:wr.cell? ⟨w.heap.size,0,none⟩=some (.int .i64 0):=HS.out.qcell 0
    have yy0:=HS.out.qfree 0
    have q1:wr.cell? ⟨w.heap.size,1,none⟩=some (.bool false):=HS.out.qcell 1
    have yy1:=HS.out.qfree 1
    have q2:wr.cell? ⟨w.heap.size,2,none⟩=some (.bool false):=HS.out.qcell 2
    have yy2:=HS.out.qfree 2
    have q3:wr.cell? ⟨w.heap.size,3,none⟩=some (.int .i64 0):=HS.out.qcell 3
    have yy3:=HS.out.qfree 3
    have q4:wr.cell? ⟨w.heap.size,4,none⟩=some (.string ⟨#[]⟩):=HS.out.qcell 4
    have yy4:=HS.out.qfree 4
    have q5:wr.cell? ⟨w.heap.size,5,none⟩=some (.int .i64 0):=HS.out.qcell 5
    have yy5:=HS.out.qfree 5
    have q6:wr.cell? ⟨w.heap.size,6,none⟩=some (.slice none 0 0):=HS.out.qcell 6
    have yy6:=HS.out.qfree 6
    go_wp2_with fail
    exact HQE.out _ _ ⟨rfl,rfl,rfl,HS.out.zeroed,atop 6 (atop 5 (atop 4 (atop 3 (atop 2 (atop 1 (atop 0 HS.out.bl (Nat.le_refl _)) (Nat.le_refl _)) (Nat.le_refl _)) (Nat.le_refl _)) (Nat.le_refl _)) (Nat.le_refl _)) (Nat.le_refl _),HE.out⟩
theorem errRet_post {w W:World} {t:ByteArray} {a:Act} (h:ErrRet w t a W):bodyPost Tryz.prog Tryz.f15 (fun e w'=>Below w.heap.size w w'∧((∃ M v,msgF t=some M∧chkMsg M.id M.code M.typ M.R M.rs=0∧e=.returned (.tuple #[.agg #[.int .i64 M.id,.bool M.ans,.bool M.cut,.int .i64 M.code,.string M.R,.int .i64 M.typ,v],.int .i64 0])∧Hid (Rc.Own w.heap.size w' v M.rs))∨(rdE t≠0∧e=.returned (.tuple #[.agg zmsg,.int .i64 1])))) .ret a W:=by
 obtain ⟨h1,h2,h3,hq,hb,he⟩:=h
 refine bodyPost_ret (v:=.tuple #[.agg zmsg,.int .i64 1]) ?_ h1 ⟨hb,.inr ⟨he,rfl⟩⟩
 have q0:W.cell? ⟨w.heap.size,0,none⟩=some (.int .i64 0):=cellsAt hq 0
 have q1:W.cell? ⟨w.heap.size,1,none⟩=some (.bool false):=cellsAt hq 1
 have q2:W.cell? ⟨w.heap.size,2,none⟩=some (.bool false):=cellsAt hq 2
 have q3:W.cell? ⟨w.heap.size,3,none⟩=some (.int .i64 0):=cellsAt hq 3
 have q4:W.cell? ⟨w.heap.size,4,none⟩=some (.string ⟨#[]⟩):=cellsAt hq 4
 have q5:W.cell? ⟨w.heap.size,5,none⟩=some (.int .i64 0):=cellsAt hq 5
 have q6:W.cell? ⟨w.heap.size,6,none⟩=some (.slice none 0 0):=cellsAt hq 6
 have h2':a.tmps[2]?.getD undef=.pointer (some ⟨w.heap.size,0,none⟩):=by simpa using h2
 have h3':a.tmps[3]?.getD undef=.int .i64 1:=by simpa using h3
 simp [results,Tryz.results15,go_sem,h2',h3',q0,q1,q2,q3,q4,q5,q6]
theorem okRet_post {w W:World} {t:ByteArray} {a:Act} (h:OkRet w t a W):bodyPost Tryz.prog Tryz.f15 (fun e w'=>Below w.heap.size w w'∧((∃ M v,msgF t=some M∧chkMsg M.id M.code M.typ M.R M.rs=0∧e=.returned (.tuple #[.agg #[.int .i64 M.id,.bool M.ans,.bool M.cut,.int .i64 M.code,.string M.R,.int .i64 M.typ,v],.int .i64 0])∧Hid (Rc.Own w.heap.size w' v M.rs))∨(rdE t≠0∧e=.returned (.tuple #[.agg zmsg,.int .i64 1])))) .ret a W:=by
 obtain ⟨M,v,h1,h2,h3,h4,h5,hq,hb,ho⟩:=h
 refine bodyPost_ret (v:=.tuple #[.agg #[.int .i64 M.id,.bool M.ans,.bool M.cut,.int .i64 M.code,.string M.R,.int .i64 M.typ,v],.int .i64 0]) ?_ h1 ⟨hb,.inl ⟨M,v,h4,h5,rfl,ho⟩⟩
 have q0:W.cell? ⟨w.heap.size,0,none⟩=some (.int .i64 M.id):=cellsAt hq 0
 have q1:W.cell? ⟨w.heap.size,1,none⟩=some (.bool M.ans):=cellsAt hq 1
 have q2:W.cell? ⟨w.heap.size,2,none⟩=some (.bool M.cut):=cellsAt hq 2
 have q3:W.cell? ⟨w.heap.size,3,none⟩=some (.int .i64 M.code):=cellsAt hq 3
 have q4:W.cell? ⟨w.heap.size,4,none⟩=some (.string M.R):=cellsAt hq 4
 have q5:W.cell? ⟨w.heap.size,5,none⟩=some (.int .i64 M.typ):=cellsAt hq 5
 have q6:W.cell? ⟨w.heap.size,6,none⟩=some v:=cellsAt hq 6
 have h2':a.tmps[2]?.getD undef=.pointer (some ⟨w.heap.size,0,none⟩):=by simpa using h2
 have h3':a.tmps[3]?.getD undef=.int .i64 0:=by simpa using h3
 obtain ⟨av,lv,cv,rfl⟩:∃ a l c,v=.slice a l c:=by
  rcases ho.2 with ⟨hv,_⟩ | ⟨gq,cq,_,hv,_⟩
  ·exact ⟨_,_,_,hv⟩
  ·exact ⟨_,_,_,hv⟩
 simp [results,Tryz.results15,go_sem,h2',h3',q0,q1,q2,q3,q4,q5,q6]
end Go.Proofs.YtignmeaeibaejaaGreatDoor
