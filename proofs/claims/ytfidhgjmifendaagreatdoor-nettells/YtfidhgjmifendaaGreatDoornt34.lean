import Derived.Test.YtfidhgjmifendaaGreatDoornt31
import Derived.Test.YtfidhgjmifendaaGreatDoornt33
set_option maxHeartbeats 12800000
set_option maxRecDepth 100000
open Option renaming none→be,some→AI
open Go.Proofs.Tryz renaming prog→AS,underlying3→ID
open Go.World renaming block_lt_of_cell?→Ix,frozen?→Ir
open Go.RowKit.Below renaming refl→Ib
open Nat renaming le_refl→Ic,le_trans→Iq
open List renaming length_append→Ig,getElem?_append_left→Js,getElem?_append_right→Jr,replicate→Jn,getD→Ip,getElem?_eq_getElem→If,getElem_mem→IH,append_assoc→Im
open Go renaming heap_alloc_new→Ih,cell_regrown→Is
open Go.Instr renaming lookup→OY
namespace Go.Proofs.YtfidhgjmifendaaGreatDoor
open Go.RowKit
structure gh(w:World)(t:Nt)(vn vl:Value):Prop where
 ns:xG w vn t.ns
 ls:Lt.Sl w vl t.ls
theorem gh.below{w w':World}{t:Nt}{vn vl:Value}(h:gh w t vn vl)(hb:Below w.heap.size w w'):gh w' t vn vl:=⟨h.ns.below hb,h.ls.below hb⟩
def Nt.Dk(t:Nt):Prop:=t.ls.length<=20->∀l∈t.ls,l.text.size<=16777216
theorem Nt.SJ{t:Nt}(h:6<t.ns.length\/20<t.ls.length):t.e=2:=if_pos h
theorem Nt.MW{t:Nt}(h:¬ (6<t.ns.length\/20<t.ls.length))(hn:j8 t.ns≠0):t.e=j8 t.ns:=by unfold Nt.e;rw[if_neg h,if_neg hn]
theorem Nt.qR{t:Nt}(h:¬ (6<t.ns.length\/20<t.ls.length))(hn:j8 t.ns=0):t.e=nK (vd t.ns.length) t.ls:=by unfold Nt.e;rw[if_neg h,if_pos hn]
theorem Nt.aed{t:Nt}(h:t.e=0):nK (vd t.ns.length) t.ls=0:=by
 unfold Nt.e at h;split at h
 .cases h
 .split at h
  .exact h
  .exact absurd h (by assumption)
theorem zI(t:Nt)(g:Nat)(vn vl:Value)(w:World)(hV:Rv w.heap.size w)(h:gh w t vn vl)(hs:t.Dk)(PH:nK (vd t.ns.length) t.ls=0)(hg:w.cell? ⟨g,0,be⟩=AI vn)(cK:w.cell? ⟨g,1,be⟩=AI vl) :
 Calls AS 26 #[.pointer (AI ⟨g,0,be⟩)] w λe w'=>e=.returned (.int .i64 t.e)/\Below w.heap.size w w':=by
 have dn:=Ix w _ hg;have HCN:Hid (t.ns.length<=6->Calls AS 42 #[.pointer (AI ⟨g,0,be⟩)] w λe w'=>e=.returned (.int .i64 (j8 t.ns))/\Below w.heap.size w w'):=λh6=>tJ t.ns g vn w h.ns hg h6;have Ro:Hid (t.ns.length<=6->t.ls.length<=20->∀W,Below w.heap.size w W->Calls AS 43 #[.pointer (AI ⟨g,0,be⟩)] W λe w'=>e=.returned (.int .i64 0)/\Below W.heap.size W w'):=λh6 h20 W hW=>by
  obtain⟨a,cap,EN,_⟩:=h.ns;exact qK t.ls t.ns.length g a cap vl W (hV.after hW) (h.ls.below hW) ((hW.cell (p:=⟨g,0,be⟩) dn).trans (by rw[hg,EN])) ((hW.cell (p:=⟨g,1,be⟩) dn).trans cK) h6 h20 (hs h20) PH
 have wL:Hid ((6<t.ns.length\/20<t.ls.length)->t.e=2):=Nt.SJ;have kz:Hid (¬ (6<t.ns.length\/20<t.ls.length)->j8 t.ns≠0->t.e=j8 t.ns):=Nt.MW;have Dd:Hid (¬ (6<t.ns.length\/20<t.ls.length)->j8 t.ns=0->t.e=0):=λh h1=>(Nt.qR h h1).trans PH;obtain⟨⟨pn,cn,EN,_⟩,⟨pl,cl,lj,_,_⟩⟩:=h;subst EN lj;generalize t.e=te at *;generalize j8 t.ns=ce at *;generalize t.ns.length=n at *;generalize t.ls.length=m at *;clear hs hV PH;by_cases h6:6<n
 .have d1:decide ((6:Int)<(n:Int))=true:=by simp;omega
  have HE:Hid _:=wL.out (.inl h6);clear wL kz Dd h6;go_enter Tryz.func26,Tryz.ntmps26;go_wp2_with fail;go_ret;exact⟨ai HE.out.symm,Ib _ _⟩
 have d1:decide ((6:Int)<(n:Int))=false:=by simp;omega
 by_cases h20:20<m
 .have d2:decide ((20:Int)<(m:Int))=true:=by simp;omega
  have HE:Hid _:=wL.out (.inr h20);clear wL kz Dd h6 h20;go_enter Tryz.func26,Tryz.ntmps26;go_wp2_with fail;go_ret;exact⟨ai HE.out.symm,Ib _ _⟩
 have d2:decide ((20:Int)<(m:Int))=false:=by simp;omega
 have LF:Hid (Calls _ _ _ _ _):=HCN.out (by omega);have vA:Hid (∀W,Below w.heap.size w W->Calls _ _ _ _ _):=Ro.out (by omega) (by omega);have SK:Hid _:=kz.out (by omega);have SL:Hid _:=Dd.out (by omega);clear wL kz Dd h6 h20 HCN Ro;go_enter Tryz.func26,Tryz.ntmps26;go_wp2_with fail;refine LF.out.mono ?_;rintro e w1 ⟨rfl,aB⟩;have aV:Hid _:=aB;clear aB;by_cases h0:ce=0
 .have he:(ce !=0)=false:=by simpa using h0
  have HE:Hid _:=SL.out h0;clear h0 SK SL;go_wp2_with fail;refine(vA.out w1 aV.out).mono ?_;rintro e w2 ⟨rfl,aJ⟩;have bp:Hid _:=aV.out.trans (aJ.mono aV.out.size);clear aJ;go_wp2_with fail;go_ret;exact⟨ai HE.out.symm,bp.out⟩
 .have he:(ce !=0)=true:=by simpa using h0
  have HE:Hid _:=SK.out h0;clear h0 SK SL;go_wp2_with fail;go_ret;exact⟨ai HE.out.symm,aV.out⟩
theorem pT(t:Nt)(vn vl:Value)(w:World)(hV:Rv w.heap.size w)(h:gh w t vn vl)(hs:t.Dk)(PH:nK (vd t.ns.length) t.ls=0) :
 Calls AS 11 #[.agg #[vn,vl]] w λe w'=>e=.returned (.int .i64 t.e)/\Below w.heap.size w w':=by
 have HC:Hid (∀W g,Below w.heap.size w W->W.cell? ⟨g,0,be⟩=AI vn->W.cell? ⟨g,1,be⟩=AI vl->Calls _ _ _ _ _):=λW g hW h0 h1=>zI t g vn vl W (hV.after hW) (h.below hW) hs PH h0 h1;obtain⟨⟨pn,cn,EN,_⟩,⟨pl,cl,lj,_,_⟩⟩:=h;subst EN lj;generalize t.e=te at *;generalize t.ns.length=n at *;generalize t.ls.length=m at *;clear hs hV PH;go_enter Tryz.func11,Tryz.ntmps11;go_wp2_with fail;refine(HC.out _ _ (((Ib _ _).alloc (Ic _) _).alloc (by simp) _) (by simp) (by simp)).mono ?_;rintro e w1 ⟨rfl,aB⟩;have aV:Hid _:=((((Ib w.heap.size w).alloc (Ic _) _).alloc (by simp) _).trans (aB.mono (by simp;omega)));clear aB;go_wp2_with fail;go_ret;exact⟨rfl,aV.out⟩
structure Nx where
 n:Nd
 vm:Value
 vr:Value
 vs:Value
 vg:Value
 vw:Value
def Nx.cs(x:Nx):List Value:=(dt x.n x.vm x.vr x.vs x.vg x.vw).toList
def bX:Nx:=⟨cS,.slice be 0 0,.slice be 0 0,.slice be 0 0,.slice be 0 0,.slice be 0 0⟩
def iW(L:List Nx):List Value:=L.flatMap Nx.cs
theorem jx(x:Nx):x.cs.length=12:=rfl
theorem xH:∀L:List Nx,(iW L).length=L.length*12
 |[]=>rfl
 |x::L=>by
  have:=xH L;unfold iW at this ⊢;rw[List.flatMap_cons,Ig,this,jx,List.length_cons];omega
theorem kt(a b:List Nx):iW (a++b)=iW a++iW b:=by simp[iW]
theorem sw(x:Nx):iW [x]=x.cs:=by simp[iW]
theorem lW(L:List Nx)(j:Nat)(hj:j<L.length)(t:Nat)(ht:t<12):(iW L)[j*12+t]?=(L.getD j bX).cs[t]?:=by
 induction L generalizing j with
 |nil=>simp at hj
 |cons m r ih=>
  have e:iW (m::r)=m.cs++iW r:=by simp[iW]
  rw[e];cases j with
  |zero=>rw[Js (by rw[jx];omega)];simp
  |succ j=>
   rw[Jr (by rw[jx];omega),jx,show(j+1)*12+t-12=j*12+t by omega,ih j (by simpa using hj)];simp
theorem oG{b:Nat}{T:TypeId}{f:Nat×Nat}:∀(L pre Ma post:List Value) {w:World},w.heap[b]?=AI (.cells (pre++Ma++post).toArray T f)->Ma.length=L.length->(aC b L pre.length w).heap[b]?=AI (.cells (pre++L++post).toArray T f)
 |[],pre,Ma,post,w,h,hl=>by
  have:Ma=[]:=List.eq_nil_of_length_eq_zero (by simpa using hl)
  subst this;exact h
 |x::r,pre,[],post,w,h,hl=>absurd hl (by simp)
 |x::r,pre,y::s,post,w,h,hl=>by
  have h1:=Joins.block_setCell (i:=pre.length) h x;rw[List.setIfInBounds_toArray,show(pre++y::s++post).set pre.length x=(pre++[x])++s++post by simp] at h1;have h2:=oG r (pre++[x]) s post h1 (by simpa using hl);rw[show(pre++[x]).length=pre.length+1 by simp,show(pre++[x])++r++post=pre++x::r++post by simp] at h2;exact h2
structure rA(B:Nat)(w:World)(t:Nt)(un ul:Value)(nb:Nat)(L:List Nx):Prop where
 un:un=.slice (AI ⟨nb,0,be⟩) t.ns.length t.ns.length
 le:B<=nb
 ns:L.map (·.n)=t.ns
 row:w.heap[nb]?=AI (.cells (iW L).toArray 42 (0,0))
 own:∀x∈L,cL (nb+1) w x.n x.vm x.vr x.vs x.vg x.vw
 ls:Lt.Own (nb+1) w ul t.ls
theorem cL.fa{B:Nat}{w w':World}{n:Nd}{vm vr vs vg vw:Value}(h:cL B w n vm vr vs vg vw)(hk:∀b,B<=b->b<w.heap.size->w'.heap[b]?=w.heap[b]?):cL B w' n vm vr vs vg vw:=⟨ee hk h.ms,ee hk h.rs,ee hk h.sv,ee hk h.gw,ee hk h.wh⟩
theorem zJ{base iK:Nat}{w:World}{T:TypeId}{k n:Nat}{v:Value}{cs:List Value}(h:w.ownsRow base T k v n cs)(hb:iK<=base):w.ownsRow iK T k v n cs:=by
 rcases h.2 with⟨rfl,h0⟩|⟨g,c,cur,rfl,ev,r⟩
 .exact⟨h.1,.inl ⟨rfl,h0⟩⟩
 .exact⟨h.1,.inr ⟨g,c,cur,rfl,Iq hb ev,r⟩⟩
theorem cL.mono{A B:Nat}{w:World}{n:Nd}{vm vr vs vg vw:Value}(h:cL B w n vm vr vs vg vw)(hb:A<=B):cL A w n vm vr vs vg vw:=⟨h.ms.mono hb,zJ h.rs hb,h.sv.mono hb,h.gw.mono hb,h.wh.mono hb⟩
def MX:Value:=.agg #[.string ⟨#[]⟩,.string ⟨#[]⟩,.slice be 0 0,.slice be 0 0,.slice be 0 0,.slice be 0 0,.int .i64 0,.int .i64 0,.int .i64 0,.int .i64 0,.int .i64 0,.slice be 0 0]
theorem MY:madeCells MX.cells (0*12)=(iW (Jn 0 bX)).toArray:=by kernel_rfl
theorem MZ:madeCells MX.cells (1*12)=(iW (Jn 1 bX)).toArray:=by kernel_rfl
theorem M0:madeCells MX.cells (2*12)=(iW (Jn 2 bX)).toArray:=by kernel_rfl
theorem M1:madeCells MX.cells (3*12)=(iW (Jn 3 bX)).toArray:=by kernel_rfl
theorem M3:madeCells MX.cells (4*12)=(iW (Jn 4 bX)).toArray:=by kernel_rfl
theorem M4:madeCells MX.cells (5*12)=(iW (Jn 5 bX)).toArray:=by kernel_rfl
theorem M5:madeCells MX.cells (6*12)=(iW (Jn 6 bX)).toArray:=by kernel_rfl
theorem BQ(n:Nat)(h:n<=6):madeCells MX.cells (n*12)=(iW (Jn n bX)).toArray:=by
 have h7:n=0\/n=1\/n=2\/n=3\/n=4\/n=5\/n=6:=by omega
 rcases h7 with rfl|rfl|rfl|rfl|rfl|rfl|rfl
 .exact MY
 .exact MZ
 .exact M0
 .exact M1
 .exact M3
 .exact M4
 .exact M5
theorem Tryz.SM:(Tryz.prog.info? 42).map (λi=>(i.zero,i.size,i.bytes))=AI (AI (.agg #[.string ⟨#[]⟩,.string ⟨#[]⟩,.slice be 0 0,.slice be 0 0,.slice be 0 0,.slice be 0 0,.int .i64 0,.int .i64 0,.int .i64 0,.int .i64 0,.int .i64 0,.slice be 0 0]),12,192):=by kernel_rfl
theorem tO(t:Nt)(vn vl:Value)(w:World)(h:gh w t vn vl)(BJ:t.ns.length<=6)(adK:t.ls.length<=20)(yZ:∀n∈t.ns,n.ms.length<=1000/\n.rs.length<=1000/\n.sv.length<=1000/\n.gw.length<=1000/\n.wh.length<=1000) :
 Calls AS 32 #[.agg #[vn,vl]] w λe w'=>∃un a l c L,e=.returned (.agg #[un,.slice a l c])/\rA w.heap.size w' t un (.slice a l c) (w.heap.size+2) L/\Below w.heap.size w w':=by
 obtain⟨i0,fL,dh,gW,gG⟩:=info_parts Tryz.SM;have Ro:Hid (∀W,Below w.heap.size w W->Calls _ _ _ _ _):=λW hW=>Lt.eU t.ls vl W (h.ls.below hW) (by omega);have HSM:Hid _:=yZ;obtain⟨⟨pn,cn,EN,ha⟩,⟨pl,cl,lj,_,_⟩⟩:=h;subst EN lj;obtain⟨ns,ls⟩:=t;simp only at *;have HA:Hid _:=ha;clear ha yZ;generalize hN:ns.length=n at *;have HN:Hid _:=hN;clear hN;generalize ls.length=m at *;obtain⟨W0,bJ⟩:∃W0,W0=(w.alloc (.cells #[.slice pn n cn,.slice pl m cl] 27)).alloc (.cells #[.slice be 0 0,.slice be 0 0] 27):=⟨_,rfl⟩;have bM:Below w.heap.size w W0:=by rw[bJ];exact((Ib _ _).alloc (Ic _) _).alloc (by simp) _
 have eE:W0.heap.size=w.heap.size+2:=by rw[bJ];simp
 have k0:W0.heap[w.heap.size]?=AI (.cells #[.slice pn n cn,.slice pl m cl] 27 (0,0)):=by
  rw[bJ];exact(Lib.alloc_old _ _ _ (by simp)).trans (Ih w _)
 have k1:W0.heap[w.heap.size+1]?=AI (.cells #[.slice be 0 0,.slice be 0 0] 27 (0,0)):=by
  rw[bJ];have:=Ih (w.alloc (.cells #[.slice pn n cn,.slice pl m cl] 27)) (.cells #[.slice be 0 0,.slice be 0 0] 27);simpa using this
 obtain⟨W1,cM⟩:∃W1,W1=W0.alloc (.cells (iW (Jn n bX)).toArray 42):=⟨_,rfl⟩;have RO:(Instr.makeSlice 24 (.int .i64 (n:Int)) (.int .i64 (n:Int))).run AS W0=.ok (.slice (AI ⟨w.heap.size+2,0,be⟩) n n) W1:=by
  have h:=run_makeSlice (P:=AS) (w:=W0) 24 42 i0 _ Tryz.underlying24 fL dh .i64 .i64 (n:Int) (n:Int) (by omega) (Int.le_refl _) (by rw[gW];omega) (by rw[gG];omega) (by omega);have hm:=BQ n BJ;unfold MX at hm;rw[gW,Int.toNat_natCast,hm,eE] at h;rw[cM];exact h
 have aB:Below W0.heap.size W0 W1:=by rw[cM];exact(Ib _ _).alloc (Ic _) _
 have kn:W1.heap[w.heap.size+2]?=AI (.cells (iW (Jn n bX)).toArray 42 (0,0)):=by rw[cM,<- eE];exact Ih W0 _
 have fg:W1.heap.size=w.heap.size+3:=by rw[cM];simp;omega
 have o7:Hid (W1.heap[w.heap.size]?=AI (.cells #[.slice pn n cn,.slice pl m cl] 27 (0,0))/\W1.heap[w.heap.size+1]?=AI (.cells #[.slice be 0 0,.slice be 0 0] 27 (0,0))/\Below w.heap.size w W1):=⟨(aB.block _ (by omega)).trans k0,(aB.block _ (by omega)).trans k1,bM.trans (aB.mono (by omega))⟩;have Gn:Hid _:=kn;have tv:Hid _:=fg;have x0:=ae k0 0;have x1:=ae o7.out.1 0;clear bM aB k0 k1 kn cM eE fg fL dh gW gG;go_enter Tryz.func32,Tryz.ntmps32;go_upto_region 1 with fail
 rw[<- bJ];clear bJ;go_wp2_with fail;clear RO x0 x1;go_loopw [13] (λi wr=>∃(k:Nat) (L:List Nx),k<=n/\i=.int .i64 k/\Hid (L.map (·.n)=ns.take k/\L.length=k)/\Hid (wr.heap[w.heap.size+2]?=AI (.cells (iW (L++Jn (n-k) bX)).toArray 42 (0,0)))/\Hid (∀x∈L,cL (w.heap.size+3) wr x.n x.vm x.vr x.vs x.vg x.vw)/\Hid (wr.heap[w.heap.size]?=AI (.cells #[.slice pn n cn,.slice pl m cl] 27 (0,0))/\wr.heap[w.heap.size+1]?=AI (.cells #[.slice be 0 0,.slice be 0 0] 27 (0,0))/\Below w.heap.size w wr)/\w.heap.size+3<=wr.heap.size) (λi _=>n-(intOf i).toNat)
 case atStart=>exact⟨0,[],Nat.zero_le _,rfl,⟨rfl,rfl⟩,Gn,(λx hx=>by cases hx),o7,by have:=tv.out;omega⟩
 case round=>
  obtain⟨k,L,hk,rfl,HL,HK,HO,HB,cF⟩:=hrel;by_cases aW:k<n
  .obtain⟨b,off,hp,hl,hr⟩:∃b off,pn=AI ⟨b,off,be⟩/\b<w.heap.size/\ve w b off ns:=by
    rcases HA.out with h|h
    .have:=HN.out;rw[h] at this;simp at this;omega
    .exact h
   subst hp;obtain⟨vm,vr,vs,vg,vw,LO,c0,c1,c2,c3,c4,c5,c6,c7,c8,c9,c10,c11⟩:=(hr.below HB.out.2.2 hl).at (by rw[HN.out];exact aW);have iH:k<ns.length:=by rw[HN.out];exact aW
   have HTK:Hid (ns.take (k+1)=ns.take k++[ns.getD k cS]):=by
    show _=_;rw[List.take_add_one,Ip,If iH];rfl
   have EO:=HSM.out (ns.getD k cS) (by rw[Ip,If iH];exact IH iH);generalize(ns.getD k cS)=nk at *;have Ku:Hid (∀W,Below wr.heap.size wr W->Calls _ _ _ _ _):=λW hW=>qE nk vm vr vs vg vw W (LO.below hW) EO.1 EO.2.1 EO.2.2.1 EO.2.2.2.1 EO.2.2.2.2;obtain⟨⟨am,cm,nJ,_,_⟩,⟨ar,cr,uX,_,_⟩,⟨ax,cx,tK,_,_⟩,⟨ag,cg,zC,_,_⟩,⟨aw,cw,LH,_,_⟩,_,_⟩:=LO;subst nJ uX tK zC LH;obtain⟨nm,ct,ms,rs,sv,gw,⟨px,py,pz,ph,pq⟩,wh⟩:=nk;simp only[dt] at c0 c1 c2 c3 c4 c5 c6 c7 c8 c9 c10 c11 Ku;clear hr EO iH;have fQ:(k:Int)<n:=by omega
   obtain⟨W2,bF⟩:∃W2,W2=wr.alloc (.cells #[.string nm,.string ct,.slice am ms.length cm,.slice ar rs.length cr,.slice ax sv.length cx,.slice ag gw.length cg,.int .i64 px,.int .i64 py,.int .i64 pz,.int .i64 ph,.int .i64 pq,.slice aw wh.length cw] 42):=⟨_,rfl⟩;have aJ:Below wr.heap.size wr W2:=by rw[bF];exact(Ib _ _).alloc (Ic _) _
   have si:Hid (W2.heap[wr.heap.size]?=AI (.cells #[.string nm,.string ct,.slice am ms.length cm,.slice ar rs.length cr,.slice ax sv.length cx,.slice ag gw.length cg,.int .i64 px,.int .i64 py,.int .i64 pz,.int .i64 ph,.int .i64 pq,.slice aw wh.length cw] 42 (0,0))):=by rw[bF];exact Ih wr _
   have bp:Hid _:=aJ;clear aJ;go_upto_region 5 with fail
   rw[<- bF];clear bF c0 c1 c2 c3 c4 c5 c6 c7 c8 c9 c10 c11;obtain⟨d0,d1,d2,d3,d4,d5,d6,d7,d8,d9,d10,d11⟩:=bA si.out;go_wp2_with fail;refine(Ku.out W2 bp.out).mono ?_;rintro e w3 ⟨um,ur,us,ug,uw,rfl,lh,bV⟩;have BR:=bp.out.trans (bV.mono bp.out.size);have jO:w3.heap[w.heap.size+2]?=AI (.cells (iW (L++Jn (n-k) bX)).toArray 42 (0,0)):=(BR.block _ (by omega)).trans HK.out;have DS:=HL.out.2;have hnk:Jn (n-k) bX=bX::Jn (n-(k+1)) bX:=by rw[show n-k=(n-(k+1))+1 by omega,List.replicate_succ]
   have Wx:iW (L++Jn (n-k) bX)=iW L++bX.cs++iW (Jn (n-(k+1)) bX):=by
    rw[kt,hnk,show iW (bX::Jn (n-(k+1)) bX)=bX.cs++iW (Jn (n-(k+1)) bX) by simp[iW],Im]
   have hlen:(iW L).length=k*12:=by rw[xH,DS]
   rw[Wx] at jO;have hz:∀i,i<12->w3.cell? ⟨w.heap.size+2,k*12+i,be⟩=bX.cs[i]? /\ w3.frozen? ⟨w.heap.size+2,k*12+i,be⟩=false:=λi hi=>by
    refine⟨?_,by simp[Ir,jO]⟩;rw[ae jO];rw[List.getElem?_toArray,Im,Jr (by omega),hlen,Nat.add_sub_cancel_left,Js (by rw[jx];omega)]
   have e0:w3.cell? ⟨w.heap.size+2,k*12,be⟩=AI (.string ⟨#[]⟩):=(hz 0 (by omega)).1;have z0:w3.frozen? ⟨w.heap.size+2,k*12,be⟩=false:=(hz 0 (by omega)).2;have e1:w3.cell? ⟨w.heap.size+2,k*12+1,be⟩=AI (.string ⟨#[]⟩):=(hz 1 (by omega)).1;have z1:w3.frozen? ⟨w.heap.size+2,k*12+1,be⟩=false:=(hz 1 (by omega)).2;have e2:w3.cell? ⟨w.heap.size+2,k*12+2,be⟩=AI (.slice be 0 0):=(hz 2 (by omega)).1;have z2:w3.frozen? ⟨w.heap.size+2,k*12+2,be⟩=false:=(hz 2 (by omega)).2;have e3:w3.cell? ⟨w.heap.size+2,k*12+3,be⟩=AI (.slice be 0 0):=(hz 3 (by omega)).1;have z3:w3.frozen? ⟨w.heap.size+2,k*12+3,be⟩=false:=(hz 3 (by omega)).2;have e4:w3.cell? ⟨w.heap.size+2,k*12+4,be⟩=AI (.slice be 0 0):=(hz 4 (by omega)).1;have z4:w3.frozen? ⟨w.heap.size+2,k*12+4,be⟩=false:=(hz 4 (by omega)).2;have e5:w3.cell? ⟨w.heap.size+2,k*12+5,be⟩=AI (.slice be 0 0):=(hz 5 (by omega)).1;have z5:w3.frozen? ⟨w.heap.size+2,k*12+5,be⟩=false:=(hz 5 (by omega)).2;have e6:w3.cell? ⟨w.heap.size+2,k*12+6,be⟩=AI (.int .i64 0):=(hz 6 (by omega)).1;have z6:w3.frozen? ⟨w.heap.size+2,k*12+6,be⟩=false:=(hz 6 (by omega)).2;have e7:w3.cell? ⟨w.heap.size+2,k*12+7,be⟩=AI (.int .i64 0):=(hz 7 (by omega)).1;have z7:w3.frozen? ⟨w.heap.size+2,k*12+7,be⟩=false:=(hz 7 (by omega)).2;have e8:w3.cell? ⟨w.heap.size+2,k*12+8,be⟩=AI (.int .i64 0):=(hz 8 (by omega)).1;have z8:w3.frozen? ⟨w.heap.size+2,k*12+8,be⟩=false:=(hz 8 (by omega)).2;have e9:w3.cell? ⟨w.heap.size+2,k*12+9,be⟩=AI (.int .i64 0):=(hz 9 (by omega)).1;have z9:w3.frozen? ⟨w.heap.size+2,k*12+9,be⟩=false:=(hz 9 (by omega)).2;have e10:w3.cell? ⟨w.heap.size+2,k*12+10,be⟩=AI (.int .i64 0):=(hz 10 (by omega)).1;have z10:w3.frozen? ⟨w.heap.size+2,k*12+10,be⟩=false:=(hz 10 (by omega)).2;have e11:w3.cell? ⟨w.heap.size+2,k*12+11,be⟩=AI (.slice be 0 0):=(hz 11 (by omega)).1;have z11:w3.frozen? ⟨w.heap.size+2,k*12+11,be⟩=false:=(hz 11 (by omega)).2;obtain⟨bm,em,hum,_⟩:=aA lh.ms;obtain⟨br,er,hur,_⟩:=aA lh.rs;obtain⟨bx,ex,hus,_⟩:=aA lh.sv;obtain⟨bg,eg,hug,_⟩:=aA lh.gw;obtain⟨bw,ew,huw,_⟩:=aA lh.wh;simp only at hum hur hus hug huw;subst hum hur hus hug huw;clear hz Wx hnk d0 d1 d2 d3 d4 d5 d6 d7 d8 d9 d10 d11;obtain⟨W4,nQ⟩:∃W4,W4=aC (w.heap.size+2) [.string nm,.string ct,.slice bm ms.length em,.slice br rs.length er,.slice bx sv.length ex,.slice bg gw.length eg,.int .i64 px,.int .i64 py,.int .i64 pz,.int .i64 ph,.int .i64 pq,.slice bw wh.length ew] (k*12) w3:=⟨_,rfl⟩;have DO:Hid (W4.heap[w.heap.size+2]?=AI (.cells (iW ((L++[⟨⟨nm,ct,ms,rs,sv,gw,⟨px,py,pz,ph,pq⟩,wh⟩,.slice bm ms.length em,.slice br rs.length er,.slice bx sv.length ex,.slice bg gw.length eg,.slice bw wh.length ew⟩])++Jn (n-(k+1)) bX)).toArray 42 (0,0))):=by
    have h:=oG [.string nm,.string ct,.slice bm ms.length em,.slice br rs.length er,.slice bx sv.length ex,.slice bg gw.length eg,.int .i64 px,.int .i64 py,.int .i64 pz,.int .i64 ph,.int .i64 pq,.slice bw wh.length ew] (iW L) bX.cs (iW (Jn (n-(k+1)) bX)) jO rfl;rw[hlen,<- nQ] at h;rw[kt,kt,sw];exact h
   have eo:∀q,q≠w.heap.size+2->W4.heap[q]?=w3.heap[q]?:=λq hq=>by rw[nQ];exact aX hq _ _ _
   have mu:W4.heap.size=w3.heap.size:=by rw[nQ];exact fe _ _ _ _
   have nH:Hid (∀x∈L++[(⟨⟨nm,ct,ms,rs,sv,gw,⟨px,py,pz,ph,pq⟩,wh⟩,.slice bm ms.length em,.slice br rs.length er,.slice bx sv.length ex,.slice bg gw.length eg,.slice bw wh.length ew⟩:Nx)],cL (w.heap.size+3) W4 x.n x.vm x.vr x.vs x.vg x.vw):=λx hx=>by
    rcases List.mem_append.1 hx with hx|hx
    .exact((HO.out x hx).below BR).fa (λq hq _=>eo q (by omega))
    .rw[List.mem_singleton.1 hx]
     exact(lh.mono (by have:=bp.out.size;omega)).fa (λq hq _=>eo q (by omega))
   have eP:Hid (W4.heap[w.heap.size]?=AI (.cells #[.slice (AI ⟨b,off,be⟩) n cn,.slice pl m cl] 27 (0,0))/\W4.heap[w.heap.size+1]?=AI (.cells #[.slice be 0 0,.slice be 0 0] 27 (0,0))/\Below w.heap.size w W4):=⟨(eo _ (by omega)).trans ((BR.block _ (by omega)).trans HB.out.1),(eo _ (by omega)).trans ((BR.block _ (by omega)).trans HB.out.2.1),by rw[nQ];exact aQ (by omega) _ _ (HB.out.2.2.trans (BR.mono (by omega)))⟩;have Rn:Hid ((L++[(⟨⟨nm,ct,ms,rs,sv,gw,⟨px,py,pz,ph,pq⟩,wh⟩,.slice bm ms.length em,.slice br rs.length er,.slice bx sv.length ex,.slice bg gw.length eg,.slice bw wh.length ew⟩:Nx)]).map (·.n)=ns.take (k+1)/\(L++[(⟨⟨nm,ct,ms,rs,sv,gw,⟨px,py,pz,ph,pq⟩,wh⟩,.slice bm ms.length em,.slice br rs.length er,.slice bx sv.length ex,.slice bg gw.length eg,.slice bw wh.length ew⟩:Nx)]).length=k+1):=⟨by rw[List.map_append,HL.out.1,HTK.out];rfl,by rw[Ig,DS];rfl⟩;have aee:w.heap.size+3<=W4.heap.size:=by rw[mu];have:=BR.size;omega
   clear eo mu jO hlen lh bV BR DS HTK HO HK HL HB bp si Ku;go_upto_region 6 with fail
   simp only[aC,Nat.add_assoc,Nat.reduceAdd] at nQ;rw[<- nQ];clear nQ e0 e1 e2 e3 e4 e5 e6 e7 e8 e9 e10 e11 z0 z1 z2 z3 z4 z5 z6 z7 z8 z9 z10 z11;go_wp2_with fail;exact⟨⟨k+1,_,by omega,by go_num,Rn,DO,nH,eP,aee⟩,by simp[intOf];omega⟩
  .have fQ:k=n:=by omega
   have hd:decide ((k:Int)<(n:Int))=false:=by simp;omega
   have x2:=ae HB.out.1 1;go_wp2_with fail;refine(Ro.out wr HB.out.2.2).mono ?_;rintro e w5 ⟨v',rfl,PS,jB⟩;obtain⟨al,ll,kl,rfl⟩:=bl PS;have mT:=(jB.block _ (by omega)).trans HB.out.2.1;obtain⟨W6,uo⟩:∃W6,W6=aC (w.heap.size+1) [.slice (AI ⟨w.heap.size+2,0,be⟩) n n,.slice al ll kl] 0 w5:=⟨_,rfl⟩;have Dl:W6.heap[w.heap.size+1]?=AI (.cells #[.slice (AI ⟨w.heap.size+2,0,be⟩) n n,.slice al ll kl] 27 (0,0)):=by rw[uo];exact bC [.slice (AI ⟨w.heap.size+2,0,be⟩) n n,.slice al ll kl] [] [.slice be 0 0,.slice be 0 0] mT rfl
   have eo:∀q,q≠w.heap.size+1->W6.heap[q]?=w5.heap[q]?:=λq hq=>by rw[uo];exact aX hq _ _ _
   have gN:Hid (∃un a l c L,Ending.returned (.agg #[.slice (AI ⟨w.heap.size+2,0,be⟩) n n,.slice al ll kl])=.returned (.agg #[un,.slice a l c])/\rA w.heap.size W6 ⟨ns,ls⟩ un (.slice a l c) (w.heap.size+2) L/\Below w.heap.size w W6):=by
    have hHK:=HK.out;rw[show n-k=0 by omega] at hHK;simp only[List.replicate_zero,List.append_nil] at hHK;refine⟨_,_,_,_,L,rfl,⟨by rw[HN.out],by omega,?_,?_,?_,?_⟩,?_⟩
    .rw[HL.out.1,fQ,<- HN.out,List.take_length]
    .exact(eo _ (by omega)).trans ((jB.block _ (by omega)).trans hHK)
    .exact λx hx=>((HO.out x hx).below jB).fa (λq hq _=>eo q (by omega))
    .exact ee (λq hq _=>eo q (by omega)) (zJ PS (by omega))
    .rw[uo];exact aQ (by omega) _ _ (HB.out.2.2.trans (jB.mono (by omega)))
   have g0:=ae mT 0;have g1:=ae mT 1;have f0:w5.frozen? ⟨w.heap.size+1,0,be⟩=false:=by simp[Ir,mT]
   have f1:w5.frozen? ⟨w.heap.size+1,1,be⟩=false:=by simp[Ir,mT]
   have q0:=ae Dl 0;have q1:=ae Dl 1;clear mT Dl eo PS jB HB HO HK HL fQ hd x2 Ro;go_wp2_with fail;simp only[aC,Nat.zero_add] at uo;rw[<- uo];clear uo g0 g1 f0 f1;exact bodyPost_ret (v:=.agg #[.slice (AI ⟨w.heap.size+2,0,be⟩) n n,.slice al ll kl]) (by simp[results,Tryz.results32,go_sem,q0,q1]) rfl gN.out
structure cJ(C:Nat)(w:World)(nb:Nat)(L:List Nx):Prop where
 le:C<=nb
 row:w.heap[nb]?=AI (.cells (iW L).toArray 42 (0,0))
 own:∀x∈L,cL C w x.n x.vm x.vr x.vs x.vg x.vw
 ok:∀x∈L,il x.n
theorem cL.mv{C B:Nat}{w w':World}{n:Nd}{vm vr vs vg vw:Value}(h:cL B w n vm vr vs vg vw)(hm:Mv C w w'):cL B w' n vm vr vs vg vw:=
 ⟨ek h.ms (λb cs f e=>hm.fa b cs _ f e (by decide) (by decide)),ek h.rs (λb cs f e=>hm.fa b cs _ f e (by decide) (by decide)),ek h.sv (λb cs f e=>hm.fa b cs _ f e (by decide) (by decide)),ek h.gw (λb cs f e=>hm.fa b cs _ f e (by decide) (by decide)),ek h.wh (λb cs f e=>hm.fa b cs _ f e (by decide) (by decide))⟩
theorem cJ.mv{C nb:Nat}{w w':World}{L:List Nx}(h:cJ C w nb L)(hm:Mv C w w'):cJ C w' nb L:=⟨h.le,hm.fa _ _ _ _ h.row (by decide) (by decide),λx hx=>(h.own x hx).mv hm,h.ok⟩
theorem cJ.below{C nb:Nat}{w w':World}{L:List Nx}(h:cJ C w nb L)(hb:Below w.heap.size w w')(hC:C<=w.heap.size):cJ C w' nb L:=h.mv (Mv.of hb hC)
theorem gi{L:List Nx}{j:Nat}(hj:j<L.length):L.getD j bX∈L:=by rw[Ip,If hj];exact IH hj
theorem cJ.cell{C nb:Nat}{w:World}{L:List Nx}(h:cJ C w nb L){j:Nat}(hj:j<L.length)(i:Nat)(hi:i<12):w.cell? ⟨nb,0+j*12+i,be⟩=(L.getD j bX).cs[i]?:=by
 rw[ae h.row];simpa using lW L j hj i hi
theorem xI(C g nb j n cap:Nat)(L:List Nx)(w:World)(hN:cJ C w nb L)(hj:j<L.length)(hn:n=L.length)(g0:w.cell? ⟨g,0,be⟩=AI (.slice (AI ⟨nb,0,be⟩) n cap))(g3:w.cell? ⟨g,3,be⟩=AI (.int .i64 (j:Int))) :
 Calls AS 85 #[.pointer (AI ⟨g,0,be⟩)] w λe w'=>e=.returned (.agg (dt (L.getD j bX).n (L.getD j bX).vm (L.getD j bX).vr (L.getD j bX).vs (L.getD j bX).vg (L.getD j bX).vw))/\Below w.heap.size w w':=by
 have hc:=λi hi=>hN.cell hj i hi;have ho:=hN.own _ (gi hj);generalize L.getD j bX=x at *;obtain⟨⟨nm,ct,ms,rs,sv,gw,⟨px,py,pz,ph,pq⟩,wh⟩,vm,vr,vs,vg,vw⟩:=x;obtain⟨a2,c2,h2⟩:=aK ho.ms;obtain⟨a3,c3,h3⟩:=aK ho.rs;obtain⟨a4,c4,h4⟩:=aK ho.sv;obtain⟨a5,c5,h5⟩:=aK ho.gw;obtain⟨a11,c11,h11⟩:=aK ho.wh;simp only at h2 h3 h4 h5 h11;subst h2 h3 h4 h5 h11;exact RS g nb 0 n cap j nm ct a2 a3 a4 a5 a11 _ c2 _ c3 _ c4 _ c5 _ c11 px py pz ph pq w g0 g3 (by omega) (hc 0 (by omega)) (hc 1 (by omega)) (hc 2 (by omega)) (hc 3 (by omega)) (hc 4 (by omega)) (hc 5 (by omega)) (hc 6 (by omega)) (hc 7 (by omega)) (hc 8 (by omega)) (hc 9 (by omega)) (hc 10 (by omega)) (hc 11 (by omega))
def ep(n:Nd):Pk:=⟨n.name,true,n.ms,n.sv,n.gw,n.wh⟩
end Go.Proofs.YtfidhgjmifendaaGreatDoor
namespace Go.Proofs.YtfidhgjmifendaaGreatDoor
open Go.RowKit Go.WideMaps Go.Maps
def Kz(v:Value):Option (DataW Value×List MemPlace):=AI (.held v,[])
def kI(k:Int):Lit:=.int .i64 k
theorem KA(k:Int):WideAt.IsKeyLit (kI k):=by simp[kI,WideAt.IsKeyLit]
theorem PU{a b:Int}(h:a≠b):kI a≠kI b:=λe=>h (by simpa[kI] using e)
def uq:List (Int×Value)->Int->Option Value
 |[],_=>be
 |(a,v)::r,k=>if k=a then AI v else uq r k
def xJ(w:World)(b n:Nat)(M:List (Int×Value)):Prop:=∃D:DataW Value,w.ownsMap AS 3 Kz b n D/\(∀k,has D (kI k)=(uq M k).isSome)/\∀k,D.atKey (kI k) (.held .nilFunc)=.held ((uq M k).getD .nilFunc)
theorem PV:Keyed AS 3:=int_keyed ID
theorem SN(w:World):(zeroValue 73).run AS w=.ok .nilFunc w:=by kernel_rfl
theorem EP(w:World):xJ (w.alloc (.map #[] 0)) w.heap.size 0 []:=⟨.map [],World.ownsMap_made w AS 3 Kz,λk=>by simp[has,uq],λk=>by simp[DataW.atKey,uq]⟩
theorem xJ.look{w:World}{b n:Nat}{M:List (Int×Value)}(h:xJ w b n M){k:Int}(hk:(Lit.int .i64 k).wf=true):(OY 104 (.map (AI b)) (.int .i64 k) true).run AS w=.ok (.tuple #[(uq M k).getD .nilFunc,.bool (uq M k).isSome]) w:=by
 obtain⟨D,h1,h2,h3⟩:=h;obtain⟨v,ps,jM,hv⟩:=h1.look_ok PV Tryz.underlying104 (SN w) (show Kz .nilFunc=AI (.held .nilFunc,[]) from rfl) (keyOf_int_mk ID hk);have e:v=(uq M k).getD .nilFunc:=by
  have h4:(DataW.held v:DataW Value)=D.atKey (kI k) (.held .nilFunc):=by
   simp only[Kz,Option.some.injEq,Prod.mk.injEq] at hv;exact hv.1
  rw[h3 k] at h4;injection h4
 have e2:has D (.int .i64 k)=(uq M k).isSome:=h2 k;rw[jM,e,e2]
theorem xJ.put{w:World}{b n:Nat}{M:List (Int×Value)}(h:xJ w b n M)(hn:n<maxLen){k:Int}(hk:(Lit.int .i64 k).wf=true)(v:Value):∃w',(Instr.mapUpdate 104 (.map (AI b)) (.int .i64 k) v).run AS w=.ok () w'/\xJ w' b (n+1) ((k,v)::M)/\w.grownBy w' (AI b):=by
 obtain⟨D,h1,h2,h3⟩:=h;obtain⟨w',jM,ho,hg⟩:=h1.update PV Tryz.underlying104 hn (keyOf_int_mk ID hk) (show Kz v=AI (.held v,[]) from rfl);refine⟨w',jM,⟨_,ho,λx=>?_,λx=>?_⟩,hg⟩
 .by_cases e:x=k
  .subst e
   rw[uq,if_pos rfl];exact has_put_same h1.isMap (KA _) _
  .rw[uq,if_neg e,<- h2 x]
   exact has_put_other (PU e) _
 .by_cases e:x=k
  .subst e
   rw[uq,if_pos rfl];exact atKey_put_same h1.isMap (KA _) _ _
  .rw[uq,if_neg e,<- h3 x]
   exact atKey_put_other (PU e) _ _
def tP(g pb:Nat):List (Int×Value):=[(12,.func (.func 96) #[] #[.pointer (AI ⟨pb,0,be⟩)]),(11,.func (.func 94) #[] #[.pointer (AI ⟨pb,0,be⟩)]),(10,.func (.func 92) #[] #[.pointer (AI ⟨pb,0,be⟩)]),(9,.func (.func 90) #[] #[.pointer (AI ⟨pb,0,be⟩)]),(8,.func (.func 88) #[] #[.pointer (AI ⟨pb,0,be⟩)]),(7,.func (.func 86) #[] #[.pointer (AI ⟨pb,0,be⟩)]),(6,.func (.func 83) #[] #[.pointer (AI ⟨pb,0,be⟩)]),(5,.func (.func 82) #[.pointer (AI ⟨g,0,be⟩)] #[]),(4,.func (.func 81) #[.pointer (AI ⟨g,0,be⟩)] #[]),(3,.func (.func 80) #[.pointer (AI ⟨g,0,be⟩)] #[]),(2,.func (.func 79) #[.pointer (AI ⟨g,0,be⟩)] #[]),(1,.func (.func 78) #[.pointer (AI ⟨g,0,be⟩)] #[])]
theorem jW(g:Nat)(w:World) :
 Calls AS 51 #[.pointer (AI ⟨g,0,be⟩)] w λe w'=>e=.returned (.map (AI (w.heap.size+1)))/\xJ w' (w.heap.size+1) 12 (tP g w.heap.size)/\w'.heap[w.heap.size]?=AI (.cells #[.pointer (AI ⟨g,0,be⟩)] 70 (0,0))/\Below w.heap.size w w':=by
 obtain⟨W0,bJ⟩:∃W0,W0=(w.alloc (.cells #[.pointer (AI ⟨g,0,be⟩)] 70)).alloc (.map #[] 0):=⟨_,rfl⟩;have bM:Below w.heap.size w W0:=by rw[bJ];exact((Ib _ _).alloc (Ic _) _).alloc (by simp) _
 have k0:W0.heap[w.heap.size]?=AI (.cells #[.pointer (AI ⟨g,0,be⟩)] 70 (0,0)):=by
  rw[bJ];exact(Lib.alloc_old _ _ _ (by simp)).trans (Ih w _)
 have eE:w.heap.size+2<=W0.heap.size:=by rw[bJ];simp
 have m0:xJ W0 (w.heap.size+1) 0 []:=by
  have:=EP (w.alloc (.cells #[.pointer (AI ⟨g,0,be⟩)] 70));rw[bJ];simpa using this
 obtain⟨w1,r1,m1,g1⟩:=m0.put (by decide) (k:=1) (by decide) (.func (.func 78) #[.pointer (AI ⟨g,0,be⟩)] #[]);have fg:=Iq eE g1.size;have k1:=(g1.block _ (by omega) (by simp)).trans k0;have aB:=bM.grown g1 (by omega) (λq hq=>by cases hq;omega);obtain⟨w2,r2,m2,g2⟩:=m1.put (by decide) (k:=2) (by decide) (.func (.func 79) #[.pointer (AI ⟨g,0,be⟩)] #[]);have gY:=Iq fg g2.size;have k2:=(g2.block _ (by omega) (by simp)).trans k1;have aJ:=aB.grown g2 (by omega) (λq hq=>by cases hq;omega);obtain⟨w3,r3,m3,g3⟩:=m2.put (by decide) (k:=3) (by decide) (.func (.func 80) #[.pointer (AI ⟨g,0,be⟩)] #[]);have rP:=Iq gY g3.size;have k3:=(g3.block _ (by omega) (by simp)).trans k2;have bV:=aJ.grown g3 (by omega) (λq hq=>by cases hq;omega);obtain⟨w4,r4,m4,g4⟩:=m3.put (by decide) (k:=4) (by decide) (.func (.func 81) #[.pointer (AI ⟨g,0,be⟩)] #[]);have D7:=Iq rP g4.size;have k4:=(g4.block _ (by omega) (by simp)).trans k3;have eO:=bV.grown g4 (by omega) (λq hq=>by cases hq;omega);obtain⟨w5,r5,m5,g5⟩:=m4.put (by decide) (k:=5) (by decide) (.func (.func 82) #[.pointer (AI ⟨g,0,be⟩)] #[]);have Hl:=Iq D7 g5.size;have k5:=(g5.block _ (by omega) (by simp)).trans k4;have jB:=eO.grown g5 (by omega) (λq hq=>by cases hq;omega);obtain⟨w6,r6,m6,g6⟩:=m5.put (by decide) (k:=6) (by decide) (.func (.func 83) #[] #[.pointer (AI ⟨w.heap.size,0,be⟩)]);have Wy:=Iq Hl g6.size;have k6:=(g6.block _ (by omega) (by simp)).trans k5;have rR:=jB.grown g6 (by omega) (λq hq=>by cases hq;omega);obtain⟨w7,r7,m7,g7⟩:=m6.put (by decide) (k:=7) (by decide) (.func (.func 86) #[] #[.pointer (AI ⟨w.heap.size,0,be⟩)]);have Pw:=Iq Wy g7.size;have k7:=(g7.block _ (by omega) (by simp)).trans k6;have Gc:=rR.grown g7 (by omega) (λq hq=>by cases hq;omega);obtain⟨w8,r8,m8,g8⟩:=m7.put (by decide) (k:=8) (by decide) (.func (.func 88) #[] #[.pointer (AI ⟨w.heap.size,0,be⟩)]);have Wj:=Iq Pw g8.size;have k8:=(g8.block _ (by omega) (by simp)).trans k7;have Wz:=Gc.grown g8 (by omega) (λq hq=>by cases hq;omega);obtain⟨w9,r9,m9,g9⟩:=m8.put (by decide) (k:=9) (by decide) (.func (.func 90) #[] #[.pointer (AI ⟨w.heap.size,0,be⟩)]);have WA:=Iq Wj g9.size;have k9:=(g9.block _ (by omega) (by simp)).trans k8;have zn:=Wz.grown g9 (by omega) (λq hq=>by cases hq;omega);obtain⟨w10,r10,m10,g10⟩:=m9.put (by decide) (k:=10) (by decide) (.func (.func 92) #[] #[.pointer (AI ⟨w.heap.size,0,be⟩)]);have WB:=Iq WA g10.size;have k10:=(g10.block _ (by omega) (by simp)).trans k9;have WC:=zn.grown g10 (by omega) (λq hq=>by cases hq;omega);obtain⟨w11,r11,m11,g11⟩:=m10.put (by decide) (k:=11) (by decide) (.func (.func 94) #[] #[.pointer (AI ⟨w.heap.size,0,be⟩)]);have WD:=Iq WB g11.size;have k11:=(g11.block _ (by omega) (by simp)).trans k10;have WE:=WC.grown g11 (by omega) (λq hq=>by cases hq;omega);obtain⟨w12,r12,m12,g12⟩:=m11.put (by decide) (k:=12) (by decide) (.func (.func 96) #[] #[.pointer (AI ⟨w.heap.size,0,be⟩)]);have aeg:=Iq WD g12.size;have k12:=(g12.block _ (by omega) (by simp)).trans k11;have WG:=WE.grown g12 (by omega) (λq hq=>by cases hq;omega);have gN:Hid (xJ w12 (w.heap.size+1) 12 (tP g w.heap.size)/\w12.heap[w.heap.size]?=AI (.cells #[.pointer (AI ⟨g,0,be⟩)] 70 (0,0))/\Below w.heap.size w w12):=⟨m12,k12,WG⟩;have c0:=ae k0 0;have c1:=ae k1 0;have c2:=ae k2 0;have c3:=ae k3 0;have c4:=ae k4 0;clear m0 k0 bM eE m1 k1 aB fg m2 k2 aJ gY m3 k3 bV rP m4 k4 eO D7 m5 k5 jB Hl m6 k6 rR Wy m7 k7 Gc Pw m8 k8 Wz Wj m9 k9 zn WA m10 k10 WC WB m11 k11 WE WD m12 k12 WG aeg g1 g2 g3 g4 g5 g6 g7 g8 g9 g10 g11 g12;have GA := @run_makeMap AS;subst bJ;go_enter Tryz.func51,Tryz.ntmps51;go_wp2_with fail;go_ret;exact⟨rfl,gN.out⟩
theorem ER(g:Nat)(k:Int)(w:World)(hw:(Lit.int .i64 k).wf=true)(hf:uq (tP g w.heap.size) k=be)(hg:w.cell? ⟨g,2,be⟩=AI (.int .i64 k)) :
 Calls AS 33 #[.pointer (AI ⟨g,0,be⟩)] w λe w'=>e=.returned (.int .i64 7)/\Below w.heap.size w w':=by
 have dn:=Ix w _ hg;have HH:Hid (Calls AS 51 #[.pointer (AI ⟨g,0,be⟩)] w.drew λe w1=>∃mb,e=.returned (.map (AI mb))/\(OY 104 (.map (AI mb)) (.int .i64 k) true).run AS w1=.ok (.tuple #[.nilFunc,.bool false]) w1/\w1.cell? ⟨g,2,be⟩=AI (.int .i64 k)/\Hid (Below w.heap.size w w1)):=by
  refine(jW g w.drew).mono ?_;rintro e w1 ⟨rfl,hm,hp,hb⟩;have aB:=(Ib _ _).drew.trans hb;have hl:=hm.look hw;rw[show uq (tP g w.drew.heap.size) k=be from hf] at hl;exact⟨_,rfl,hl,(aB.cell (p:=⟨g,2,be⟩) dn).trans hg,aB⟩
 have rN:Hid (w.heap.size<w.heap.size+1):=Nat.lt_succ_self _;clear dn hf hw;go_enter Tryz.func33,Tryz.ntmps33;go_wp2_with fail;go_region_held3 (λw'=>w'.cell? ⟨g,2,be⟩=AI (.int .i64 k)) (go_keep) (first|(go_at_call 51;refine HH.out.mono ?_;rintro e w1 ⟨mb,rfl,Bd,hS,aV⟩)|fail)
 go_wp2_with fail;go_ret;exact⟨rfl,aV.out⟩
theorem ET(kf:Nat)(fs cs:Array Value)(g:Nat)(k:Int)(w:World)(hw:(Lit.int .i64 k).wf=true)(hf:uq (tP g w.heap.size) k=AI (.func (.func kf) fs cs))(hg:w.cell? ⟨g,2,be⟩=AI (.int .i64 k))(hT:∀W,Below w.heap.size w W->Calls AS 52 #[.pointer (AI ⟨g,0,be⟩)] W λe w'=>e=.returned (.bool false)/\Below W.heap.size W w') :
 Calls AS 33 #[.pointer (AI ⟨g,0,be⟩)] w λe w'=>e=.returned (.int .i64 5)/\Below w.heap.size w w':=by
 have dn:=Ix w _ hg;have HH:Hid (Calls AS 51 #[.pointer (AI ⟨g,0,be⟩)] w.drew λe w1=>∃mb,e=.returned (.map (AI mb))/\(OY 104 (.map (AI mb)) (.int .i64 k) true).run AS w1=.ok (.tuple #[.func (.func kf) fs cs,.bool true]) w1/\w1.cell? ⟨g,2,be⟩=AI (.int .i64 k)/\Hid (Below w.heap.size w w1)):=by
  refine(jW g w.drew).mono ?_;rintro e w1 ⟨rfl,hm,hp,hb⟩;have aB:=(Ib _ _).drew.trans hb;have hl:=hm.look hw;rw[show uq (tP g w.drew.heap.size) k=AI (.func (.func kf) fs cs) from hf] at hl;exact⟨_,rfl,hl,(aB.cell (p:=⟨g,2,be⟩) dn).trans hg,aB⟩
 have rN:Hid (w.heap.size<w.heap.size+1):=Nat.lt_succ_self _;have HT:Hid _:=hT;clear hT dn hf hw;go_enter Tryz.func33,Tryz.ntmps33;go_wp2_with fail;go_region_held3 (λw'=>w'.cell? ⟨g,2,be⟩=AI (.int .i64 k)) (go_keep) (first|(go_at_call 51;refine HH.out.mono ?_;rintro e w1 ⟨mb,rfl,Bd,hS,aV⟩)|fail)
 go_wp2_with fail;refine(HT.out _ aV.out).mono ?_;rintro e w2 ⟨rfl,aJ⟩;have bp:Hid _:=aV.out.trans (aJ.mono aV.out.size);clear aJ Bd hS aV HT HH;go_wp2_with fail;go_ret;exact⟨rfl,bp.out⟩
theorem xK(c:Int)(hc:c=3\/c=4\/c=5)(g m:Nat)(a:Option Addr)(cap:Nat)(x:Int)(w:World)(h1:w.cell? ⟨g,1,be⟩=AI (.slice a m cap))(h2:w.cell? ⟨g,2,be⟩=AI (.int .i64 c))(h3:w.cell? ⟨g,3,be⟩=AI (.int .i64 x))(hm:m<=20) :
 Calls AS 52 #[.pointer (AI ⟨g,0,be⟩)] w λe w'=>e=.returned (.bool (within x 0 ((m:Int)-1)))/\Below w.heap.size w w':=by
 have hz:IntKind.i64.wrap ((m:Int)-1)=(m:Int)-1:=by rw[IntKind.wrap_i64];omega
 have HWI:Hid (∀W:World,Calls _ _ _ _ _):=λW=>cy x 0 ((m:Int)-1) W;generalize within x 0 ((m:Int)-1)=b at *;rcases hc with rfl|rfl|rfl;all_goals
  go_enter Tryz.func52,Tryz.ntmps52;go_wp2_with fail;have F1:=Is h1;have F3:=Is h3;have C0:∀d os,Calls AS 54 #[.int .i64 x,.int .i64 0,.int .i64 ((m:Int)-1)] (Go.Sort.grow (redrawn w d) os) λe gD=>e=.returned (.bool b)/\∃p:Regrown,gD=Go.Sort.grow (redrawn w p.d) p.os:=λd os=>Calls.regrown_of ((HWI.out _).mono (λe w' h=>⟨h.1,by rw[h.2];exact Ib _ _⟩));refine wp_region_quiet_below (by kernel_rfl) (by kernel_rfl) ?_;repeat(quiet_step (exact C0 _ _))
  refine bN λdq kj ed=>?_;clear C0 F1 F3;go_wp2_with fail;go_ret;exact⟨rfl,ed.out⟩
theorem SO(c:Int)(hc:c=6\/c=7\/c=8\/c=10\/c=11\/c=12)(g n:Nat)(a:Option Addr)(cap:Nat)(x:Int)(w:World)(h0:w.cell? ⟨g,0,be⟩=AI (.slice a n cap))(h2:w.cell? ⟨g,2,be⟩=AI (.int .i64 c))(h3:w.cell? ⟨g,3,be⟩=AI (.int .i64 x))(hn:n<=6) :
 Calls AS 52 #[.pointer (AI ⟨g,0,be⟩)] w λe w'=>e=.returned (.bool (within x 0 ((n:Int)-1)))/\Below w.heap.size w w':=by
 have H1:=λ(_:Unit)=>lV g n a cap x w h0 hn;generalize within x 0 ((n:Int)-1)=b at *;have H1:Hid _:=H1;clear hn;rcases hc with rfl|rfl|rfl|rfl|rfl|rfl;all_goals
  go_enter Tryz.func52,Tryz.ntmps52;go_wp2_with fail;refine(H1.out ()).mono ?_;rintro e w1 ⟨rfl,aB⟩;have aV:Hid _:=aB;clear aB;go_wp2_with fail;go_ret;exact⟨rfl,aV.out⟩
theorem xL(c:Int)(hc:c=1\/c=2\/c=9)(g n:Nat)(a:Option Addr)(cap:Nat)(x y:Int)(w:World)(h0:w.cell? ⟨g,0,be⟩=AI (.slice a n cap))(h2:w.cell? ⟨g,2,be⟩=AI (.int .i64 c))(h3:w.cell? ⟨g,3,be⟩=AI (.int .i64 x))(h4:w.cell? ⟨g,4,be⟩=AI (.int .i64 y))(hn:n<=6) :
 Calls AS 52 #[.pointer (AI ⟨g,0,be⟩)] w λe w'=>e=.returned (.bool (within x 0 ((n:Int)-1)&&within y 0 ((n:Int)-1)))/\Below w.heap.size w w':=by
 have dn:=Ix w _ h0;have H1:=λ(_:Unit)=>lV g n a cap x w h0 hn;have H2:=λ(W:World) (hW:Below w.heap.size w W)=>lV g n a cap y W ((hW.cell (p:=⟨g,0,be⟩) dn).trans h0) hn;have HG:Hid (∀W,Below w.heap.size w W->W.cell? ⟨g,4,be⟩=AI (.int .i64 y)):=λW hW=>(hW.cell (p:=⟨g,4,be⟩) dn).trans h4;generalize within x 0 ((n:Int)-1)=b1 at *;generalize within y 0 ((n:Int)-1)=b2 at *;have H1:Hid _:=H1;have H2:Hid _:=H2;clear hn dn;cases b1
 .rcases hc with rfl|rfl|rfl
  all_goals
   go_enter Tryz.func52,Tryz.ntmps52;go_wp2_with fail;refine(H1.out ()).mono ?_;rintro e w1 ⟨rfl,aB⟩;have aV:Hid _:=aB;clear aB;go_wp2_with fail;go_ret;exact⟨rfl,aV.out⟩
 .rcases hc with rfl|rfl|rfl
  all_goals
   go_enter Tryz.func52,Tryz.ntmps52;go_wp2_with fail;refine(H1.out ()).mono ?_;rintro e w1 ⟨rfl,aB⟩;have aV:Hid _:=aB;have g4:=HG.out w1 aB;clear aB;go_wp2_with fail;refine(H2.out w1 aV.out).mono ?_;rintro e w2 ⟨rfl,aJ⟩;have bp:Hid _:=aV.out.trans (aJ.mono aV.out.size);clear aJ;go_wp2_with fail;go_ret;exact⟨rfl,bp.out⟩
theorem tQ(kf:Nat)(fs cs:Array Value)(eg:∀args w,(callFunc kf args).run AS w=.ok (.enter kf args) w)(g:Nat)(k:Int)(R:Int->World->Prop)(w:World)(hw:(Lit.int .i64 k).wf=true)(hf:uq (tP g w.heap.size) k=AI (.func (.func kf) fs cs))(hg:w.cell? ⟨g,2,be⟩=AI (.int .i64 k))(hT:∀W,Below w.heap.size w W->Calls AS 52 #[.pointer (AI ⟨g,0,be⟩)] W λe w'=>e=.returned (.bool true)/\Below W.heap.size W w')(hF:∀W,Below w.heap.size w W->W.heap[w.heap.size]?=AI (.cells #[.pointer (AI ⟨g,0,be⟩)] 70 (0,0))->Calls AS kf (fs++cs) W λe w'=>∃er,e=.returned (.int .i64 er)/\R er w') :
 Calls AS 33 #[.pointer (AI ⟨g,0,be⟩)] w λe w'=>∃er,e=.returned (.int .i64 er)/\R er w':=by
 have dn:=Ix w _ hg;have HH:Hid (Calls AS 51 #[.pointer (AI ⟨g,0,be⟩)] w.drew λe w1=>∃mb,e=.returned (.map (AI mb))/\(OY 104 (.map (AI mb)) (.int .i64 k) true).run AS w1=.ok (.tuple #[.func (.func kf) fs cs,.bool true]) w1/\w1.cell? ⟨g,2,be⟩=AI (.int .i64 k)/\Hid (Below w.heap.size w w1/\w1.heap[w.heap.size]?=AI (.cells #[.pointer (AI ⟨g,0,be⟩)] 70 (0,0)))):=by
  refine(jW g w.drew).mono ?_;rintro e w1 ⟨rfl,hm,hp,hb⟩;have aB:=(Ib _ _).drew.trans hb;have hl:=hm.look hw;rw[show uq (tP g w.drew.heap.size) k=AI (.func (.func kf) fs cs) from hf] at hl;exact⟨_,rfl,hl,(aB.cell (p:=⟨g,2,be⟩) dn).trans hg,aB,hp⟩
 have HT:Hid _:=hT;have HF:Hid _:=hF;have rN:Hid (w.heap.size<w.heap.size+1):=Nat.lt_succ_self _;clear hT hF dn hf hw;go_enter Tryz.func33,Tryz.ntmps33;go_wp2_with fail;go_region_held3 (λw'=>w'.cell? ⟨g,2,be⟩=AI (.int .i64 k)) (go_keep) (first|(go_at_call 51;refine HH.out.mono ?_;rintro e w1 ⟨mb,rfl,Bd,hS,aV⟩)|fail)
 go_wp2_with fail;refine(HT.out _ aV.out.1).mono ?_;rintro e w2 ⟨rfl,aJ⟩;have ru:=(aJ.block _ (Array.getElem?_eq_some_iff.1 aV.out.2).1).trans aV.out.2;have HC:=HF.out w2 (aV.out.1.trans (aJ.mono aV.out.1.size)) ru;clear aJ ru Bd hS aV HF HT HH;go_wp2_with fail;refine HC.mono ?_;rintro e w3 ⟨er,rfl,hr⟩;go_wp2_with fail;go_ret;exact⟨er,rfl,hr⟩
end Go.Proofs.YtfidhgjmifendaaGreatDoor
