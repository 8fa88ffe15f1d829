import Derived.Test.YtignmeaeibaejaaGreatDoorV24
import Derived.Test.YtignmeaeibaejaaGreatDoorV35
import Derived.Deep.DeepCutAuto
import Derived.Deep.CutBlock
namespace Go.Proofs.YtignmeaeibaejaaGreatDoor
open Go.RowKit
theorem firstE_mem0:∀ {ms:List Mem},firstE ms=0→∀ m∈ms,m.e=0
 | [],_,m,hm=>by simp at hm
 | x :: r,h,m,hm=>by
   rw [firstE] at h
   by_cases h2:x.e=0
   ·rw [if_pos h2] at h
    rcases List.mem_cons.1 hm with rfl | hm
    ·exact h2
    ·exact firstE_mem0 h m hm
   ·rw [if_neg h2] at h;exact absurd h h2
theorem st_range {ms:List Mem} {k:Nat} (hc:chk ms=0) (hk:k < ms.length):1≤(ms.getD k dm).state∧(ms.getD k dm).state≤4:=by
 have h:=(chk_zero hc).2.2
 have h2:(ms.getD k dm).e=0:=firstE_mem0 h _ (by simp [List.getD,List.getElem?_eq_getElem hk])
 unfold Mem.e oneE at h2
 by_cases h3:within (ms.getD k dm).state 1 4=true
 ·unfold within at h3;rw [Bool.and_eq_true,decide_eq_true_eq,decide_eq_true_eq] at h3;exact h3
 ·rw [if_neg h3] at h2;split at h2<;>omega
theorem out_of {ms:List Mem} {t:ByteArray} {k:Nat} (hc:chk ms=0) (hk:k < ms.length) (h:fstM ms t=some (ms.getD k dm)):outB ms t=decide (2 < (ms.getD k dm).state):=by
 have hm:mOf ms t=ms.getD k dm:=mOf_some h
 unfold outB
 rw [hm]
 have h1:=st_range hc hk
 have h2:(ms.getD k dm).state=1∨(ms.getD k dm).state=2∨(ms.getD k dm).state=3∨(ms.getD k dm).state=4:=by omega
 rcases h2 with h2 | h2 | h2 | h2<;>rw [h2]<;>rfl
theorem out_none {ms:List Mem} {t:ByteArray} (h:fstM ms t=none):outB ms t=false:=by
 unfold outB;rw [mOf_none h];rfl
theorem last_get {l:List ByteArray} (h:l≠[]):l.getLast?=some (l.getD (l.length - 1) ByteArray.empty):=by
 have hl:0 < l.length:=List.length_pos_iff.2 h
 rw [List.getLast?_eq_getElem?,List.getElem?_eq_getElem (by omega)]
 simp [List.getD,List.getElem?_eq_getElem (show l.length - 1 < l.length by omega)]
theorem addR_new {l:List ByteArray} {n:ByteArray} (h:l=[]∨l.getD (l.length - 1) ByteArray.empty≠n):addR l n=l++[n]:=by
 unfold addR
 rw [if_neg]
 intro e
 rcases h with h | h
 ·rw [h] at e;simp at e
 ·by_cases hl:l=[]
  ·rw [hl] at e;simp at e
  ·rw [last_get hl] at e
   exact h (by simpa using e)
theorem addR_old {l:List ByteArray} {n:ByteArray} (hl:l≠[]) (h:l.getD (l.length - 1) ByteArray.empty=n):addR l n=l:=by
 unfold addR
 rw [if_pos]
 rw [last_get hl,h]
set_option maxHeartbeats 1600000 in
set_option maxRecDepth 1000000 in
theorem rr1 {u0 u1 u2 u3 u5 u6 u7 u8 u9 aa ab ac af ag ah ai aj ak am ar au aw ay az aA aB aC aD aE aF aG aH aI aJ aK aL aM aN aO aP aQ aR aS aT aU aV aW aX aY aZ ba bb bc bd be bf bh bi bj bp bq br bu bw bz bA bB bC bD bE bF bG bH bI bJ bK bL bM bN bO bP bQ bS bT bU bV bW bX bY bZ cc cd cg ch cj ck cr cx cy cz cA cB cC cD cE cF cG cH cI cJ cK cM cO cP cQ cR cS cT cU cV cW cX cY cZ da dc dd de df dg dh di dj dl dn dr dt du dv dw dx dA dB dC dD dE dF dG dH dI dJ dK dL dM dO dP dQ dR dS dT dU dW dX dY dZ ea eb ed ee eh ei ej el em eo er eu ew ex ey ez eA eC eD eE eF eG eH eI eJ eK eL eM eN eO eP eQ eR eS eT eU eV eW eX eY eZ e9 fa fb fc fe ff fh fj fm fo fp fq fs ft fu fw fx fy fA fB fC:Value} (B:Nat) (ms:List Mem) (found:List Sv.Svc) (pm pf:Option Addr) (nm cm n cf k:Nat) (vn:Value) (NL:List ByteArray) (w:World) (hc:chk ms=0) (hk:k < n) (hNL:NL.length≤40) (hBw:B≤w.heap.size)
 (HM:Hid (Sl w (.slice pm nm cm) ms)) (HF:Hid (Sv.Sl w (.slice pf n cf) found)) (HO:Hid (OwnS B w vn NL)) (Q:Exit→Act→World→Prop)
 (hN:∀ (hU hZ ia ib ic ie ig ii ij ik il im io ip iq ir iu iw ix iy iz iA iB iC iD iE iF iG iH iI iJ iK iL iM iN iO iP iQ iR iS iT iU iV vn':Value) (wx:World),Hid (OwnS B wx vn' (if outB ms (found.getD k Sv.dm).node=true then NL else addR NL (found.getD k Sv.dm).node))→Hid (Below B w wx)→Q .normal ⟨#[u0,u1,u2,u3,.slice pm nm cm,u5,u6,u7,u8,u9,aa,ab,ac,af,ag,ah,ai,aj,ak,am,.slice pf n cf,vn',.int .i64 k,hU,au,aw,ay,az,aA,aB,aC,aD,aE,aF,aG,aH,aI,aJ,aK,aL,aM,aN,aO,aP,aQ,aR,aS,aT,aU,aV,aW,aX,aY,aZ,ba,bb,bc,bd,be,bf,bh,bi,bj,bp,bq,br,bu,bw,bz,bA,bB,bC,bD,bE,bF,bG,bH,bI,bJ,bK,bL,bM,bN,bO,bP,bQ,bS,bT,bU,bV,bW,bX,bY,bZ,cc,cd,cg,ch,cj,ck,cr,cx,cy,cz,hZ,ia,ib,ic,ie,ig,ii,ij,ik,il,im,io,ip,iq,ir,iu,iw,ix,iy,iz,iA,iB,iC,iD,iE,iF,iG,iH,iI,iJ,iK,iL,iM,iN,iO,iP,iQ,iR,iS,iT,iU,iV,dB,dC,dD,dE,dF,dG,dH,dI,dJ,dK,dL,dM,dO,dP,dQ,dR,dS,dT,dU,dW,dX,dY,dZ,ea,eb,ed,ee,eh,ei,ej,el,em,eo,er,eu,ew,ex,ey,ez,eA,eC,eD,eE,eF,eG,eH,eI,eJ,eK,eL,eM,eN,eO,eP,eQ,eR,eS,eT,eU,eV,eW,eX,eY,eZ,e9,fa,fb,fc,fe,ff,fh,fj,fm,fo,fp,fq,fs,ft,fu,fw,fx,fy,fA,fB,fC],[]⟩ wx) :
 Code.wp Tryz.prog ((Tryz.f17.body.bind (blkIn 1)).getD .skip) Q ⟨#[u0,u1,u2,u3,.slice pm nm cm,u5,u6,u7,u8,u9,aa,ab,ac,af,ag,ah,ai,aj,ak,am,.slice pf n cf,vn,.int .i64 k,ar,au,aw,ay,az,aA,aB,aC,aD,aE,aF,aG,aH,aI,aJ,aK,aL,aM,aN,aO,aP,aQ,aR,aS,aT,aU,aV,aW,aX,aY,aZ,ba,bb,bc,bd,be,bf,bh,bi,bj,bp,bq,br,bu,bw,bz,bA,bB,bC,bD,bE,bF,bG,bH,bI,bJ,bK,bL,bM,bN,bO,bP,bQ,bS,bT,bU,bV,bW,bX,bY,bZ,cc,cd,cg,ch,cj,ck,cr,cx,cy,cz,cA,cB,cC,cD,cE,cF,cG,cH,cI,cJ,cK,cM,cO,cP,cQ,cR,cS,cT,cU,cV,cW,cX,cY,cZ,da,dc,dd,de,df,dg,dh,di,dj,dl,dn,dr,dt,du,dv,dw,dx,dA,dB,dC,dD,dE,dF,dG,dH,dI,dJ,dK,dL,dM,dO,dP,dQ,dR,dS,dT,dU,dW,dX,dY,dZ,ea,eb,ed,ee,eh,ei,ej,el,em,eo,er,eu,ew,ex,ey,ez,eA,eC,eD,eE,eF,eG,eH,eI,eJ,eK,eL,eM,eN,eO,eP,eQ,eR,eS,eT,eU,eV,eW,eX,eY,eZ,e9,fa,fb,fc,fe,ff,fh,fj,fm,fo,fp,fq,fs,ft,fu,fw,fx,fy,fA,fB,fC],[]⟩ w:=by
 conv=>arg 2;whnf
 have HQN:Hid _:=hN
 clear hN
 obtain ⟨s0,hs0,sz0,szs,szb⟩:=info_parts Tryz.info9
 have HMS:Hid (Sl w (.slice pm nm cm) ms):=HM
 obtain ⟨_,_,hme,-,hma⟩:=HM.out
 simp only [Value.slice.injEq] at hme
 obtain ⟨rfl,hml,rfl⟩:=hme
 have HML:Hid (ms.length=nm):=hml.symm
 have hml2:ms.length≤1000:=by have:=(chk_zero hc).1;omega
 have HMA:Hid (ms=[]∨∃ b off,pm=some ⟨b,off,none⟩∧b < w.heap.size∧Row w b off ms):=hma
 obtain ⟨_,_,hfe,hfz,hfa⟩:=HF.out
 simp only [Value.slice.injEq] at hfe
 obtain ⟨rfl,hfl,rfl⟩:=hfe
 obtain ⟨b,off,hp1,hl1,hr⟩:∃ b off,pf=some ⟨b,off,none⟩∧b < w.heap.size∧Sv.Row w b off found:=by
  rcases hfa with h | h
  ·rw [h] at hfl;simp at hfl;omega
  ·exact h
 subst hp1
 obtain ⟨c0,-,-,-,-,-,-,-,-⟩:=hr k (by omega)
 have HAT:Hid (∀ W,Sl W (.slice pm nm cm) ms→Calls Tryz.prog 44 #[.slice pm nm cm,.string (found.getD k Sv.dm).node] W fun e w'=>∃ r:Int,e=.returned (.int .i64 r)∧Hid (AtF ms (found.getD k Sv.dm).node r)∧w'=W):=fun W h=>memAt_any ms _ _ W h hml2
 have HOF:Hid (∀ j,j < ms.length→fstM ms (found.getD k Sv.dm).node=some (ms.getD j dm)→outB ms (found.getD k Sv.dm).node=decide (2 < (ms.getD j dm).state)):=fun j hj h=>out_of hc hj h
 clear hma hfa hr hfz hml hfl HM HF hc
 generalize (found.getD k Sv.dm).node=nd at *
 have hk0:(0:Int)≤(k:Int):=Int.natCast_nonneg _
 have hk1:(k:Int) < (n:Int):=by omega
 go_wp2_with fail
 refine Calls.mono (HAT.out w HMS.out) ?_
 rintro e w1 ⟨r,rfl,hat,hw1⟩
 subst hw1
 have HQ1:Hid (outB ms nd=true→∀ (hU hZ ia ib ic ie ig ii ij ik il im io ip iq ir iu iw ix iy iz iA iB iC iD iE iF iG iH iI iJ iK iL iM iN iO iP iQ iR iS iT iU iV:Value),Q .normal ⟨#[u0,u1,u2,u3,.slice pm nm cm,u5,u6,u7,u8,u9,aa,ab,ac,af,ag,ah,ai,aj,ak,am,.slice (some ⟨b,off,none⟩) n cf,vn,.int .i64 k,hU,au,aw,ay,az,aA,aB,aC,aD,aE,aF,aG,aH,aI,aJ,aK,aL,aM,aN,aO,aP,aQ,aR,aS,aT,aU,aV,aW,aX,aY,aZ,ba,bb,bc,bd,be,bf,bh,bi,bj,bp,bq,br,bu,bw,bz,bA,bB,bC,bD,bE,bF,bG,bH,bI,bJ,bK,bL,bM,bN,bO,bP,bQ,bS,bT,bU,bV,bW,bX,bY,bZ,cc,cd,cg,ch,cj,ck,cr,cx,cy,cz,hZ,ia,ib,ic,ie,ig,ii,ij,ik,il,im,io,ip,iq,ir,iu,iw,ix,iy,iz,iA,iB,iC,iD,iE,iF,iG,iH,iI,iJ,iK,iL,iM,iN,iO,iP,iQ,iR,iS,iT,iU,iV,dB,dC,dD,dE,dF,dG,dH,dI,dJ,dK,dL,dM,dO,dP,dQ,dR,dS,dT,dU,dW,dX,dY,dZ,ea,eb,ed,ee,eh,ei,ej,el,em,eo,er,eu,ew,ex,ey,ez,eA,eC,eD,eE,eF,eG,eH,eI,eJ,eK,eL,eM,eN,eO,eP,eQ,eR,eS,eT,eU,eV,eW,eX,eY,eZ,e9,fa,fb,fc,fe,ff,fh,fj,fm,fo,fp,fq,fs,ft,fu,fw,fx,fy,fA,fB,fC],[]⟩ w1):=fun h _ _ _ _ _ _ _ _ _ _ _ _ _ _ _ _ _ _ _ _ _ _ _ _ _ _ _ _ _ _ _ _ _ _ _ _ _ _ _ _ _ _ _=>HQN.out _ _ _ _ _ _ _ _ _ _ _ _ _ _ _ _ _ _ _ _ _ _ _ _ _ _ _ _ _ _ _ _ _ _ _ _ _ _ _ _ _ _ _ vn w1 (by rw [if_pos h];exact HO) (Below.refl _ _)
 have HQ2:Hid (outB ms nd=false→∀ (hU hZ ia ib ic ie ig ii ij ik il im io ip iq ir iu iw ix iy iz iA iB iC iD iE iF iG iH iI iJ iK iL iM iN iO iP iQ iR iS iT iU iV vn':Value) (wx:World),OwnS B wx vn' (addR NL nd)→Below B w1 wx→Q .normal ⟨#[u0,u1,u2,u3,.slice pm nm cm,u5,u6,u7,u8,u9,aa,ab,ac,af,ag,ah,ai,aj,ak,am,.slice (some ⟨b,off,none⟩) n cf,vn',.int .i64 k,hU,au,aw,ay,az,aA,aB,aC,aD,aE,aF,aG,aH,aI,aJ,aK,aL,aM,aN,aO,aP,aQ,aR,aS,aT,aU,aV,aW,aX,aY,aZ,ba,bb,bc,bd,be,bf,bh,bi,bj,bp,bq,br,bu,bw,bz,bA,bB,bC,bD,bE,bF,bG,bH,bI,bJ,bK,bL,bM,bN,bO,bP,bQ,bS,bT,bU,bV,bW,bX,bY,bZ,cc,cd,cg,ch,cj,ck,cr,cx,cy,cz,hZ,ia,ib,ic,ie,ig,ii,ij,ik,il,im,io,ip,iq,ir,iu,iw,ix,iy,iz,iA,iB,iC,iD,iE,iF,iG,iH,iI,iJ,iK,iL,iM,iN,iO,iP,iQ,iR,iS,iT,iU,iV,dB,dC,dD,dE,dF,dG,dH,dI,dJ,dK,dL,dM,dO,dP,dQ,dR,dS,dT,dU,dW,dX,dY,dZ,ea,eb,ed,ee,eh,ei,ej,el,em,eo,er,eu,ew,ex,ey,ez,eA,eC,eD,eE,eF,eG,eH,eI,eJ,eK,eL,eM,eN,eO,eP,eQ,eR,eS,eT,eU,eV,eW,eX,eY,eZ,e9,fa,fb,fc,fe,ff,fh,fj,fm,fo,fp,fq,fs,ft,fu,fw,fx,fy,fA,fB,fC],[]⟩ wx):=fun h _ _ _ _ _ _ _ _ _ _ _ _ _ _ _ _ _ _ _ _ _ _ _ _ _ _ _ _ _ _ _ _ _ _ _ _ _ _ _ _ _ _ _ vn' wx h1 h2=>HQN.out _ _ _ _ _ _ _ _ _ _ _ _ _ _ _ _ _ _ _ _ _ _ _ _ _ _ _ _ _ _ _ _ _ _ _ _ _ _ _ _ _ _ _ vn' wx (by rw [if_neg (by rw [h];simp)];exact h1) h2
 clear HQN
 have htri:(∃ pv cv,vn=.slice pv 0 cv∧NL=[])∨(∃ g m l1 c la,vn=.slice (some ⟨g,0,none⟩) l1 c∧Hid (l1=m+1)∧Hid (NL.length=l1)∧Hid (addR NL nd=NL++[nd])∧w1.cell? ⟨g,m,none⟩=some (.string la)∧g < w1.heap.size∧((la.toList == nd.toList)=false∧¬ la.toList=nd.toList))∨(∃ g m l1 c la,vn=.slice (some ⟨g,0,none⟩) l1 c∧Hid (l1=m+1)∧Hid (NL.length=l1)∧Hid (addR NL nd=NL)∧w1.cell? ⟨g,m,none⟩=some (.string la)∧g < w1.heap.size∧(la.toList == nd.toList)=true):=by
  rcases HO.out.form with ⟨hv,hl⟩ | ⟨g,c,hv,hlc,hbg,hgl,hcells⟩
  ·exact .inl ⟨none,0,hv,hl⟩
  ·by_cases hl:NL=[]
   ·exact .inl ⟨_,c,by rw [hv,hl];rfl,hl⟩
   ·have hpos:0 < NL.length:=List.length_pos_iff.2 hl
    obtain ⟨m,hm⟩:∃ m,NL.length=m+1:=⟨NL.length - 1,by omega⟩
    have hcl:=hcells m (by omega)
    by_cases e:NL.getD m ByteArray.empty=nd
    ·exact .inr (.inr ⟨g,m,NL.length,c,_,hv,hm,rfl,addR_old hl (by rw [hm];exact e),hcl,hgl,by rw [e];simp⟩)
    ·exact .inr (.inl ⟨g,m,NL.length,c,_,hv,hm,rfl,addR_new (.inr (by rw [hm];exact e)),hcl,hgl,beq_name e⟩)
 rcases hat.out with ⟨j,hj,rfl,hfj⟩ | ⟨rfl,hfj⟩
 ·have HOJ:Hid (outB ms nd=decide (2 < (ms.getD j dm).state)):=HOF.out j hj hfj
  obtain ⟨bm,om,hp2,hl2,hr2⟩:∃ b off,pm=some ⟨b,off,none⟩∧b < w1.heap.size∧Row w1 b off ms:=by
   rcases HMA.out with h | h
   ·rw [h] at hj;simp at hj
   ·exact h
  subst hp2
  obtain ⟨-,m1,-,-,-⟩:=hr2 j hj
  have hjn:j < nm:=by rw [← HML.out];exact hj
  have hj0:(0:Int)≤(j:Int):=Int.natCast_nonneg _
  have hj1:(j:Int) < (nm:Int):=by omega
  clear hr2 hfj hat HOF HMA hj
  generalize (ms.getD j dm).state=st at *
  by_cases hst:2 < st
  ·have HT:Hid (outB ms nd=true):=HOJ.out.trans (decide_eq_true hst)
   go_wp2_with fail
   exact HQ1.out HT.out _ _ _ _ _ _ _ _ _ _ _ _ _ _ _ _ _ _ _ _ _ _ _ _ _ _ _ _ _ _ _ _ _ _ _ _ _ _ _ _ _ _ _
  ·have HT:Hid (outB ms nd=false):=HOJ.out.trans (decide_eq_false hst)
   have HQ3:Hid _:=HQ2.out HT.out
   clear HQ1 HQ2
   rcases htri with ⟨pv,cv,rfl,rfl⟩ | ⟨g,m,l1,c,la,rfl,HL1,HLM,HLA,cL,hgl,hne⟩ | ⟨g,m,l1,c,la,rfl,HL1,HLM,HLA,cL,hgl,hne⟩
   ·go_wp2_with fail
    go_quiet (fail)
    go_wp2_with (at_builtin;refine wpList_append_own _ rfl _ _ 81 rfl B 9 s0 _ 1 16 Tryz.underlying81 hs0 sz0 szs szb rfl (by omega) _ 0 [] rfl ?hown _ 1 1 [.string nd] rfl rfl ?hnews (strs_one [_]) ?h63 ?hbytes ?hbase ?_)
    case hown=>exact World.ownsRow.alloc (show (w1.drewN _).ownsRow _ _ _ _ _ _ from HO.out) _
    case hnews=>exact cell_one_new _ _ _
    case h63=>(unfold maxLen;omega)
    case hbytes=>omega
    case hbase=>(simp;omega)
    intro v' w2 r1 r2 r3
    have HB2:Hid (Below B w1 w2):=((belowN (Below.refl _ _) _).alloc (by simp;omega) _).grown r2 (by simp;omega) (fun j hj=>(World.ownsRow.lt HO.out j hj).1)
    have HO2:Hid (OwnS B w2 v' (addR [] nd)):=ownS_snoc (l:=[]) r1
    clear r1 r2 r3
    go_wp2_with fail
    exact HQ3.out _ _ _ _ _ _ _ _ _ _ _ _ _ _ _ _ _ _ _ _ _ _ _ _ _ _ _ _ _ _ _ _ _ _ _ _ _ _ _ _ _ _ _ v' w2 HO2.out HB2.out
   ·have h3:(la.toList == nd.toList)=false:=hne.1
    have h4:¬ la.toList=nd.toList:=hne.2
    have hm40:l1≤40:=by have:=HLM.out;omega
    have hx0:(0:Int)≤(l1:Int) - 1:=by have:=HL1.out;omega
    have hx1:(l1:Int) - 1 < (l1:Int):=by omega
    have hx2:((l1:Int) - 1).toNat=m:=by have:=HL1.out;omega
    have HO3:Hid (w1.ownsRow B 9 1 (.slice (some ⟨g,0,none⟩) l1 c) l1 (NL.map Value.string)):=by have h:=HO.out;unfold OwnS at h;rw [HLM.out] at h;exact h
    have hz1:((l1:Int) == 0)=false:=by have:=HL1.out;simp;omega
    go_wp2_with fail
    go_quiet (fail)
    go_wp2_with (at_builtin;refine wpList_append_own _ rfl _ _ 81 rfl B 9 s0 _ 1 16 Tryz.underlying81 hs0 sz0 szs szb rfl (by omega) _ l1 (NL.map Value.string) rfl ?hown _ 1 1 [.string nd] rfl rfl ?hnews (strs_one [_]) ?h63 ?hbytes ?hbase ?_)
    case hown=>exact World.ownsRow.alloc (show (w1.drewN _).ownsRow _ _ _ _ _ _ from HO3.out) _
    case hnews=>exact cell_one_new _ _ _
    case h63=>(unfold maxLen;omega)
    case hbytes=>omega
    case hbase=>(simp;omega)
    intro v' w2 r1 r2 r3
    have HB2:Hid (Below B w1 w2):=((belowN (Below.refl _ _) _).alloc (by simp;omega) _).grown r2 (by simp;omega) (fun j hj=>(World.ownsRow.lt HO3.out j hj).1)
    have HO2:Hid (OwnS B w2 v' (addR NL nd)):=by rw [HLA.out];exact ownS_snoc (by rw [HLM.out];exact r1)
    clear r1 r2 r3
    go_wp2_with fail
    exact HQ3.out _ _ _ _ _ _ _ _ _ _ _ _ _ _ _ _ _ _ _ _ _ _ _ _ _ _ _ _ _ _ _ _ _ _ _ _ _ _ _ _ _ _ _ v' w2 HO2.out HB2.out
   ·have hm40:l1≤40:=by have:=HLM.out;omega
    have hx0:(0:Int)≤(l1:Int) - 1:=by have:=HL1.out;omega
    have hx1:(l1:Int) - 1 < (l1:Int):=by omega
    have hx2:((l1:Int) - 1).toNat=m:=by have:=HL1.out;omega
    have hz1:((l1:Int) == 0)=false:=by have:=HL1.out;simp;omega
    have HO2:Hid (OwnS B w1 (.slice (some ⟨g,0,none⟩) l1 c) (addR NL nd)):=by rw [HLA.out];exact HO
    go_wp2_with fail
    go_quiet (fail)
    go_wp2_with fail
    exact HQ3.out _ _ _ _ _ _ _ _ _ _ _ _ _ _ _ _ _ _ _ _ _ _ _ _ _ _ _ _ _ _ _ _ _ _ _ _ _ _ _ _ _ _ _ _ _ (show OwnS B (w1.drewN _) _ _ from HO2.out) (belowN (Below.refl _ _) _)
 ·have HT:Hid (outB ms nd=false):=out_none hfj
  clear hfj hat HOF HMA
  have HQ3:Hid _:=HQ2.out HT.out
  clear HQ1 HQ2
  rcases htri with ⟨pv,cv,rfl,rfl⟩ | ⟨g,m,l1,c,la,rfl,HL1,HLM,HLA,cL,hgl,hne⟩ | ⟨g,m,l1,c,la,rfl,HL1,HLM,HLA,cL,hgl,hne⟩
  ·go_wp2_with fail
   go_quiet (fail)
   go_wp2_with (at_builtin;refine wpList_append_own _ rfl _ _ 81 rfl B 9 s0 _ 1 16 Tryz.underlying81 hs0 sz0 szs szb rfl (by omega) _ 0 [] rfl ?hown _ 1 1 [.string nd] rfl rfl ?hnews (strs_one [_]) ?h63 ?hbytes ?hbase ?_)
   case hown=>exact World.ownsRow.alloc (show (w1.drewN _).ownsRow _ _ _ _ _ _ from HO.out) _
   case hnews=>exact cell_one_new _ _ _
   case h63=>(unfold maxLen;omega)
   case hbytes=>omega
   case hbase=>(simp;omega)
   intro v' w2 r1 r2 r3
   have HB2:Hid (Below B w1 w2):=((belowN (Below.refl _ _) _).alloc (by simp;omega) _).grown r2 (by simp;omega) (fun j hj=>(World.ownsRow.lt HO.out j hj).1)
   have HO2:Hid (OwnS B w2 v' (addR [] nd)):=ownS_snoc (l:=[]) r1
   clear r1 r2 r3
   go_wp2_with fail
   exact HQ3.out _ _ _ _ _ _ _ _ _ _ _ _ _ _ _ _ _ _ _ _ _ _ _ _ _ _ _ _ _ _ _ _ _ _ _ _ _ _ _ _ _ _ _ v' w2 HO2.out HB2.out
  ·have h3:(la.toList == nd.toList)=false:=hne.1
   have h4:¬ la.toList=nd.toList:=hne.2
   have hm40:l1≤40:=by have:=HLM.out;omega
   have hx0:(0:Int)≤(l1:Int) - 1:=by have:=HL1.out;omega
   have hx1:(l1:Int) - 1 < (l1:Int):=by omega
   have hx2:((l1:Int) - 1).toNat=m:=by have:=HL1.out;omega
   have HO3:Hid (w1.ownsRow B 9 1 (.slice (some ⟨g,0,none⟩) l1 c) l1 (NL.map Value.string)):=by have h:=HO.out;unfold OwnS at h;rw [HLM.out] at h;exact h
   have hz1:((l1:Int) == 0)=false:=by have:=HL1.out;simp;omega
   go_wp2_with fail
   go_quiet (fail)
   go_wp2_with (at_builtin;refine wpList_append_own _ rfl _ _ 81 rfl B 9 s0 _ 1 16 Tryz.underlying81 hs0 sz0 szs szb rfl (by omega) _ l1 (NL.map Value.string) rfl ?hown _ 1 1 [.string nd] rfl rfl ?hnews (strs_one [_]) ?h63 ?hbytes ?hbase ?_)
   case hown=>exact World.ownsRow.alloc (show (w1.drewN _).ownsRow _ _ _ _ _ _ from HO3.out) _
   case hnews=>exact cell_one_new _ _ _
   case h63=>(unfold maxLen;omega)
   case hbytes=>omega
   case hbase=>(simp;omega)
   intro v' w2 r1 r2 r3
   have HB2:Hid (Below B w1 w2):=((belowN (Below.refl _ _) _).alloc (by simp;omega) _).grown r2 (by simp;omega) (fun j hj=>(World.ownsRow.lt HO3.out j hj).1)
   have HO2:Hid (OwnS B w2 v' (addR NL nd)):=by rw [HLA.out];exact ownS_snoc (by rw [HLM.out];exact r1)
   clear r1 r2 r3
   go_wp2_with fail
   exact HQ3.out _ _ _ _ _ _ _ _ _ _ _ _ _ _ _ _ _ _ _ _ _ _ _ _ _ _ _ _ _ _ _ _ _ _ _ _ _ _ _ _ _ _ _ v' w2 HO2.out HB2.out
  ·have hm40:l1≤40:=by have:=HLM.out;omega
   have hx0:(0:Int)≤(l1:Int) - 1:=by have:=HL1.out;omega
   have hx1:(l1:Int) - 1 < (l1:Int):=by omega
   have hx2:((l1:Int) - 1).toNat=m:=by have:=HL1.out;omega
   have hz1:((l1:Int) == 0)=false:=by have:=HL1.out;simp;omega
   have HO2:Hid (OwnS B w1 (.slice (some ⟨g,0,none⟩) l1 c) (addR NL nd)):=by rw [HLA.out];exact HO
   go_wp2_with fail
   go_quiet (fail)
   go_wp2_with fail
   exact HQ3.out _ _ _ _ _ _ _ _ _ _ _ _ _ _ _ _ _ _ _ _ _ _ _ _ _ _ _ _ _ _ _ _ _ _ _ _ _ _ _ _ _ _ _ _ _ (show OwnS B (w1.drewN _) _ _ from HO2.out) (belowN (Below.refl _ _) _)
end Go.Proofs.YtignmeaeibaejaaGreatDoor
