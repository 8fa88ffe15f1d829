import Derived.Test.YtfidhgjmifendaaGreatDoorng31
import Derived.Test.YtfidhgjmifendaaGreatDoorng45
set_option maxHeartbeats 51200000
set_option maxRecDepth 100000
open Go.Ending renaming returned→AT
open Go.Value renaming tuple→Im,agg→Ik,slice→J,int→U,string→Y,bool→Ia
open Go.IntKind renaming i64→O
open Option renaming none→be,some→AI
open Go.Proofs.Tryz renaming prog→AS
open Go.Obj renaming cells→By
open Go.RowKit.Below renaming refl→Ib
open Nat renaming le_refl→Ic,zero_add→ID,zero_le→IH,lt_of_lt_of_le→IJ
open Go renaming heap_alloc_new→Ii,bodyPost_ret→IL,redrawn→Iv,Regrown→JI,below_regrown→J1,cell_regrown→Ig,wp_region_quiet_below→IA
open Go.World renaming frozen?→Is
open List renaming getD→Iq,getElem?_eq_getElem→Ie,getElem_mem→IG,pairwise_iff_getElem→I5
open Go.Value.slice renaming injEq→IZ
open Go.Sort renaming grow→Ij
open Go.Calls renaming regrown_of→IU
namespace Go.Proofs.YtfidhgjmifendaaGreatDoor
open Go.RowKit
theorem Nd.ND{n:Nd}(h:n.e=0):n.mL:=by
 unfold Nd.e at h;split at h
 .rename_i h0;exact Nd.parts h0
 .rename_i h0;exact absurd h h0
theorem Nd.P4{n:Nd}(h:n.e=0):n.ms.length<=1000/\n.rs.length<=1000/\n.sv.length<=1000/\n.gw.length<=1000/\n.wh.length<=1000:=by
 have p:=Nd.ND h;have h1:=(af p.ms).1;have h3:=(Sv.af p.sv).1;have h4:=(Gw.af p.gw).1;have h5:=(Wh.af p.wh).1;have h2:n.rs.length<=20:=by
  apply Classical.byContradiction;intro hh;have:=wi (rs:=n.rs) (by omega);rw[p.rs] at this;cases this
 omega
theorem Nt.bc{t:Nt}(h:t.e=0):t.ns.length<=6/\t.ls.length<=20/\(∀n∈t.ns,n.e=0)/\iE t.ns/\∀l∈t.ls,uW t.ns.length l=0:=by
 unfold Nt.e at h;split at h
 .cases h
 .rename_i h0
  split at h
  .rename_i h1
   unfold j8 at h1;split at h1
   .rename_i h2
    split at h1
    .rename_i h3
     exact⟨by omega,by omega,tI _ h2,(xy _).1 h3,tI _ h⟩
    .cases h1
   .rename_i h2;exact absurd h1 h2
  .rename_i h1;exact absurd h h1
def xI(w:World)(te:Int)(t:Nt)(e:Ending)(w':World):Prop:=
 Below w.heap.size w w'/\((te=0/\∃a l c d m k nb L,e=AT (Im #[Ik #[J a l c,J d m k],U O 0])/\ri w.heap.size w' t (J a l c) (J d m k) nb L)\/(te≠0/\e=AT (Im #[Ik #[J be 0 0,J be 0 0],U O te])))
theorem tU(ns:List Nd)(vn:Value)(w:World)(hV:Rv w.heap.size w)(h:zy w vn ns) :
 Calls AS 22 #[vn] w (xI w (Nt.mk ns []).e ⟨ns,[]⟩):=by
 have gM:∀W:World,Lt.Sl W (J be 0 0) []:=λW=>Lt.bF (Lt.bX W.heap.size W) (λm hm=>by cases hm);have mr:Hid (∀W,Below w.heap.size w W->Calls _ _ _ _ _):=λW hW=>lQ ⟨ns,[]⟩ vn _ W (hV.after hW) ⟨h.below hW,gM W⟩ (λ_ l hl=>by cases hl) rfl;have EI:Hid ((Nt.mk ns []).e=0->∀W,Below w.heap.size w W->Calls AS 32 #[Ik #[vn,J be 0 0]] W λe w'=>∃un a l c L,e=AT (Ik #[un,J a l c])/\ri W.heap.size w' ⟨ns,[]⟩ un (J a l c) (W.heap.size+2) L/\Below W.heap.size W w'):=λhe W hW=>by
  have hz:=Nt.bc he;exact tL ⟨ns,[]⟩ vn _ W ⟨h.below hW,gM W⟩ hz.1 hz.2.1 (λn hn=>Nd.P4 (hz.2.2.1 n hn))
 obtain⟨pn,cn,EJ,_⟩:=h;subst EJ;generalize hte:(Nt.mk ns []).e=te at *;clear hte;generalize ns.length=n at *;clear hV gM;obtain⟨W0,bA⟩:∃W0,W0=(w.alloc (By #[J be 0 0,J be 0 0] 27)).alloc (By #[J pn n cn,J be 0 0] 27):=⟨_,rfl⟩;have bM:Below w.heap.size w W0:=by rw[bA];exact((Ib _ _).alloc (Ic _) _).alloc (by simp) _
 have k0:W0.heap[w.heap.size]?=AI (By #[J be 0 0,J be 0 0] 27 (0,0)):=by
  rw[bA];exact(Lib.alloc_old _ _ _ (by simp)).trans (Ii w _)
 have k1:W0.heap[w.heap.size+1]?=AI (By #[J pn n cn,J be 0 0] 27 (0,0)):=by
  rw[bA];have:=Ii (w.alloc (By #[J be 0 0,J be 0 0] 27)) (By #[J pn n cn,J be 0 0] 27);simpa using this
 have rG:Hid (w.heap.size+2<=W0.heap.size):=by show _<=_;rw[bA];simp
 have cY:Hid _:=bM;have HK:Hid (∀W,Below W0.heap.size W0 W->W.heap[w.heap.size]?=AI (By #[J be 0 0,J be 0 0] 27 (0,0))/\W.heap[w.heap.size+1]?=AI (By #[J pn n cn,J be 0 0] 27 (0,0))):=λW hW=>⟨(hW.block _ (by have:=rG.out;omega)).trans k0,(hW.block _ (by have:=rG.out;omega)).trans k1⟩;have x0:=ae k1 0;have x1:=ae k1 1;clear bM k0 k1;go_enter Tryz.func22,Tryz.ntmps22;go_upto_region 2 with fail
 rw[<- bA];clear bA;go_wp2_with fail;refine(mr.out W0 cY.out).mono ?_;rintro e w1 ⟨rfl,aB⟩;have aY:Hid _:=aB;have iM:Hid _:=cY.out.trans (aB.mono cY.out.size);clear aB x0 x1 mr;by_cases h0:te=0
 .subst h0
  have BO:=EI.out rfl;clear EI;have EI:Hid _:=BO;clear BO;have x0:=ae (HK.out w1 aY.out).2 0;have x1:=ae (HK.out w1 aY.out).2 1;go_wp2_with fail;refine Calls.mono (EI.out w1 iM.out) ?_;rintro e w2 ⟨un,a,l,c,L,rfl,hown,aI⟩;have Te:=hown.un;subst Te;have jd:=(HK.out w2 (aY.out.trans (aI.mono aY.out.size))).1;obtain⟨W3,ep⟩:∃W3,W3=aD w.heap.size [J (AI ⟨w1.heap.size+2,0,be⟩) ns.length ns.length,J a l c] 0 w2:=⟨_,rfl⟩;have jw:W3.heap[w.heap.size]?=AI (By #[J (AI ⟨w1.heap.size+2,0,be⟩) ns.length ns.length,J a l c] 27 (0,0)):=by rw[ep];exact bD [J (AI ⟨w1.heap.size+2,0,be⟩) ns.length ns.length,J a l c] [] [J be 0 0,J be 0 0] jd rfl
  have et:∀q,q≠w.heap.size->W3.heap[q]?=w2.heap[q]?:=λq hq=>by rw[ep];exact aV hq _ _ _
  have aeC:=iM.out.size;have gO:Hid (xI w 0 ⟨ns,[]⟩ (AT (Im #[Ik #[J (AI ⟨w1.heap.size+2,0,be⟩) ns.length ns.length,J a l c],U O 0])) W3):=by
   refine⟨by rw[ep];exact aP (Ic _) _ _ (iM.out.trans (aI.mono iM.out.size)),.inl ⟨rfl,_,_,_,_,_,_,w1.heap.size+2,L,rfl,⟨rfl,by omega,hown.ns,?_,?_,?_⟩⟩⟩
   .exact(et _ (by omega)).trans hown.row
   .exact λx hx=>(hown.own x hx).fa (λq hq _=>et q (by omega))
   .exact ee (λq hq _=>et q (by omega)) hown.ls
  have g0:=ae jd 0;have g1:=ae jd 1;have f0:w2.frozen? ⟨w.heap.size,0,be⟩=false:=by simp[Is,jd]
  have f1:w2.frozen? ⟨w.heap.size,1,be⟩=false:=by simp[Is,jd]
  have q0:=ae jw 0;have q1:=ae jw 1;clear jd jw et aeC hown aI HK aY iM cY rG x0 x1 EI;simp only at gO ep q0 ⊢;go_wp2_with fail;simp only[aD,ID] at ep;rw[<- ep];clear ep g0 g1 f0 f1;exact IL (v:=Im #[Ik #[J (AI ⟨w1.heap.size+2,0,be⟩) ns.length ns.length,J a l c],U O 0]) (by simp[results,Tryz.results22,go_sem,q0,q1]) rfl gO.out
 .have he:(te !=0)=true:=by simpa using h0
  have jj:=(HK.out w1 aY.out).1;obtain⟨W3,ep⟩:∃W3,W3=aD w.heap.size [J be 0 0,J be 0 0] 0 w1:=⟨_,rfl⟩;have jw:W3.heap[w.heap.size]?=AI (By #[J be 0 0,J be 0 0] 27 (0,0)):=by rw[ep];exact bD [J be 0 0,J be 0 0] [] [J be 0 0,J be 0 0] jj rfl
  have gO:Hid (xI w te ⟨ns,[]⟩ (AT (Im #[Ik #[J be 0 0,J be 0 0],U O te])) W3):=⟨by rw[ep];exact aP (Ic _) _ _ iM.out,.inr ⟨h0,rfl⟩⟩;have g0:=ae jj 0;have g1:=ae jj 1;have f0:w1.frozen? ⟨w.heap.size,0,be⟩=false:=by simp[Is,jj]
  have f1:w1.frozen? ⟨w.heap.size,1,be⟩=false:=by simp[Is,jj]
  have q0:=ae jw 0;have q1:=ae jw 1;clear jj jw HK aY iM cY rG EI h0;go_wp2_with fail;simp only[aD,ID] at ep;rw[<- ep];clear ep g0 g1 f0 f1;exact IL (v:=Im #[Ik #[J be 0 0,J be 0 0],U O te]) (by simp[results,Tryz.results22,go_sem,q0,q1]) rfl gO.out
def P5(t0 t1:ByteArray)(p2:Option Addr)(k2 c2:Nat)(p3:Option Addr)(k3 c3:Nat)(p4:Option Addr)(k4 c4:Nat)(p5:Option Addr)(k5 c5:Nat)(i6 i7 i8 i9 i10:Int)(p11:Option Addr)(k11 c11:Nat):Array Value:=
 #[Y t0,Y t1,J p2 k2 c2,J p3 k3 c3,J p4 k4 c4,J p5 k5 c5,U O i6,U O i7,U O i8,U O i9,U O i10,J p11 k11 c11]
def fO(w:World)(n:Nd)(A:Array Value):Prop:=∃vm vr vs vg vw,A=dw n vm vr vs vg vw/\eT w n vm vr vs vg vw
theorem fO.below{w w':World}{n:Nd}{A:Array Value}(h:fO w n A)(hb:Below w.heap.size w w'):fO w' n A:=by
 obtain⟨a,b,c,d,e,h1,h2⟩:=h;exact⟨a,b,c,d,e,h1,h2.below hb⟩
theorem fO.letters{w:World}{n:Nd}{A:Array Value}(h:fO w n A):∃t0 t1 p2 k2 c2 p3 k3 c3 p4 k4 c4 p5 k5 c5 i6 i7 i8 i9 i10 p11 k11 c11,A=P5 t0 t1 p2 k2 c2 p3 k3 c3 p4 k4 c4 p5 k5 c5 i6 i7 i8 i9 i10 p11 k11 c11:=by
 obtain⟨vm,vr,vs,vg,vw,rfl,⟨pm,cm,rfl,_⟩,⟨pr,cr,rfl,_⟩,⟨ps,cs,rfl,_⟩,⟨pg,cg,rfl,_⟩,⟨pw,cw,rfl,_⟩,_,_⟩:=h;exact⟨_,_,_,_,_,_,_,_,_,_,_,_,_,_,_,_,_,_,_,_,_,_,rfl⟩
structure Nd.Small(n:Nd):Prop where
 ms:n.ms.length<=1000
 rs:n.rs.length<=1000
 sv:n.sv.length<=1000
 gw:n.gw.length<=1000
 wh:n.wh.length<=1000
theorem zy.ok{w:World}{v:Value}{ns:List Nd}(h:zy w v ns):∀n∈ns,iq n:=λn hn=>by
 obtain⟨a,cap,_,h⟩:=h;rcases h with h|⟨b,off,_,_,hr⟩
 .subst h;cases hn
 .obtain⟨j,hj,rfl⟩:=List.mem_iff_getElem.1 hn
  obtain⟨vm,vr,vs,vg,vw,h1,_⟩:=hr j hj;rw[Iq,Ie hj] at h1;exact h1.ok
theorem ri.Tf{B nb:Nat}{w:World}{t:Nt}{un ul:Value}{L:List Nx}(h:ri B w t un ul nb L)(hk:∀n∈t.ns,iq n):uX w nb 0 t.ns:=λj hj=>by
 have hl:L.length=t.ns.length:=by rw[<- h.ns,List.length_map]
 have Fm:j<L.length:=by omega
 have hx:L.getD j bW∈L:=by rw[Iq,Ie Fm];exact IG Fm
 have hn:(L.getD j bW).n=t.ns.getD j ek:=by
  rw[<- h.ns,Iq,Iq,List.getElem?_map,Ie Fm];rfl
 have hm:t.ns.getD j ek∈t.ns:=by rw[Iq,Ie hj];exact IG hj
 have ho:=h.own _ hx;have hg:=λi hi=>lR L j Fm i hi;have hr:=h.row;generalize L.getD j bW=x at *;obtain⟨xn,vm,vr,vs,vg,vw⟩:=x;simp only at hn ho;subst hn;refine⟨vm,vr,vs,vg,vw,ho.is (hk _ hm),λi hi=>?_⟩;have hgi:=hg i hi;have aR:=hi;have hc:=ae hr (0+j*12+i);rw[hc];simpa[Nx.cs] using hgi
theorem ri.sl{B nb:Nat}{w:World}{t:Nt}{un ul:Value}{L:List Nx}(h:ri B w t un ul nb L)(hk:∀n∈t.ns,iq n):zy w un t.ns:=by
 have hb:=(Array.getElem?_eq_some_iff.1 h.row).1;exact⟨_,_,h.un,.inr ⟨nb,0,rfl,hb,h.Tf hk⟩⟩
def AtF(ms:List Mem)(t:ByteArray)(r:Int):Prop:=(∃k:Nat,k<ms.length/\r=k/\cK ms t=AI (ms.getD k dm))\/(r = -1/\cK ms t=be)
theorem Fo(ms:List Mem)(v:Value)(t:ByteArray)(w:World)(hv:Sl w v ms)(hn:ms.length<=1000) :
 aF 15 #[v,Y t] w λe w'=>∃r:Int,e=AT (U O r)/\Hid (AtF ms t r)/\w'=w:=by
 obtain⟨pa,ca,rfl,_,ha⟩:=hv;have HA:Hid _:=ha;clear ha;generalize Dk:ms.length=n at *;have HN:Hid _:=Dk;clear Dk;go_enter Tryz.func15,Tryz.ntmps15;go_wp2_with fail;go_loop [5] (λi=>∃k:Nat,k<=n/\i=U O k/\Hid (∀j,j<k->(ms.getD j dm).name≠t)) (λi=>n-(intOf i).toNat)
 case atStart=>exact⟨0,IH _,rfl,λj h=>absurd h (Nat.not_lt_zero _)⟩
 case round=>
  obtain⟨k,hk,rfl,hz⟩:=hrel;by_cases aR:k<n
  .obtain⟨b1,o1,sX,Av,lg⟩:∃b off,pa=AI ⟨b,off,be⟩/\b<w.heap.size/\Row w b off ms:=by
    rcases HA.out with h|h
    .have:=HN.out;rw[h] at this;simp at this;omega
    .exact h
   subst sX;obtain⟨c0,_,_,_,_⟩:=lg k (by rw[HN.out];exact aR);clear lg;have HF:Hid ((ms.getD k dm).name=t->AtF ms t (k:Int)):=λh=>.inl ⟨k,by rw[HN.out];exact aR,rfl,nr (by rw[HN.out];exact aR) hz.out h⟩;have HZ:Hid ((ms.getD k dm).name≠t->∀j,j<k+1->(ms.getD j dm).name≠t):=λh j hj=>by
    rcases Nat.lt_succ_iff_lt_or_eq.1 hj with h2|rfl
    .exact hz.out j h2
    .exact h
   generalize(ms.getD k dm).name=nm at *;by_cases he:nm=t
   .subst he
    have rY:Hid (AtF _ _ _):=HF.out rfl;clear HF HZ;go_wp2_with fail;go_ret;exact⟨k,rfl,rY,rfl⟩
   .obtain⟨h1,h2⟩:=fP he
    have HE:Hid _:=he;clear he;go_wp2_with fail;go_round
    case rel=>exact⟨k+1,by omega,by go_num,HZ.out HE.out⟩
    case measure=>simp[intOf];omega
  .go_wp2_with fail
   go_ret;exact⟨-1,rfl,.inr ⟨rfl,qu λj hj=>hz.out j (by have:=HN.out;omega)⟩,rfl⟩
theorem Fp{ms:List Mem}(hr:bl ms){i j:Nat}(hi:i<ms.length)(hj:j<ms.length)(h:(ms.getD i dm).name=(ms.getD j dm).name):i=j:=by
 have e:∀k (hk:k<ms.length),ms.getD k dm=ms[k]:=λk hk=>by simp[Iq,Ie hk]
 rw[e i hi,e j hj] at h;rcases Nat.lt_trichotomy i j with h1|h1|h1
 .have h2:=I5.1 hr i j hi hj h1
  rw[h,gu] at h2;cases h2
 .exact h1
 .have h2:=I5.1 hr j i hj hi h1
  rw[h,gu] at h2;cases h2
theorem fO.three{W:World}{N:Nd}{t0 t1:ByteArray}{p2 p3 p4 p5 p11:Option Addr}{k2 c2 k3 c3 k4 c4 k5 c5 k11 c11:Nat}{i6 i7 i8 i9 i10:Int}(h:fO W N #[Y t0,Y t1,J p2 k2 c2,J p3 k3 c3,J p4 k4 c4,J p5 k5 c5,U O i6,U O i7,U O i8,U O i9,U O i10,J p11 k11 c11]):Sl W (J p2 k2 c2) N.ms/\Sv.Sl W (J p4 k4 c4) N.sv/\Gw.Sl W (J p5 k5 c5) N.gw:=by
 obtain⟨vm,vr,vs,vg,vw,hA,hi⟩:=h;simp only[dw,Array.mk.injEq,List.cons.injEq,and_true] at hA;obtain⟨e0,e1,e2,e3,e4,e5,e6,e7,e8,e9,e10,e11⟩:=hA;exact⟨by rw[e2];exact hi.ms,by rw[e4];exact hi.sv,by rw[e5];exact hi.gw⟩
theorem rowAt{w:World}{p:Option Addr}{k c:Nat}{ms:List Mem}(h:Sl w (J p k c) ms):k=ms.length/\(0<k->∃g o,p=AI ⟨g,o,be⟩/\g<w.heap.size/\(∀j,j<k->j<ms.length)/\Row w g o ms):=by
 obtain⟨a,c',e,_,hr⟩:=h;simp only[IZ] at e;obtain⟨rfl,rfl,rfl⟩:=e;refine⟨rfl,λh0=>?_⟩;rcases hr with rfl|⟨g,o,h1,h2,h3⟩
 .simp at h0
 .exact⟨g,o,h1,h2,λ_ h=>h,h3⟩
theorem Sv.rowAt{w:World}{p:Option Addr}{k c:Nat}{ms:List Sv.aW}(h:Sv.Sl w (J p k c) ms):k=ms.length/\(0<k->∃g o,p=AI ⟨g,o,be⟩/\g<w.heap.size/\(∀j,j<k->j<ms.length)/\Sv.Row w g o ms):=by
 obtain⟨a,c',e,_,hr⟩:=h;simp only[IZ] at e;obtain⟨rfl,rfl,rfl⟩:=e;refine⟨rfl,λh0=>?_⟩;rcases hr with rfl|⟨g,o,h1,h2,h3⟩
 .simp at h0
 .exact⟨g,o,h1,h2,λ_ h=>h,h3⟩
theorem Gw.rowAt{w:World}{p:Option Addr}{k c:Nat}{ms:List Gw.bC}(h:Gw.Sl w (J p k c) ms):k=ms.length/\(0<k->∃g o,p=AI ⟨g,o,be⟩/\g<w.heap.size/\(∀j,j<k->j<ms.length)/\Gw.Row w g o ms):=by
 obtain⟨a,c',e,_,hr⟩:=h;simp only[IZ] at e;obtain⟨rfl,rfl,rfl⟩:=e;refine⟨rfl,λh0=>?_⟩;rcases hr with rfl|⟨g,o,h1,h2,h3⟩
 .simp at h0
 .exact⟨g,o,h1,h2,λ_ h=>h,h3⟩
theorem Fq(a b:Nd)(A B:Array Value)(w:World)(ha:fO w a A)(hb:fO w b B)(LV:fA a b)(hsa:a.Small)(Tg:b.Small)(hpb:b.mL) :
 Calls AS 12 #[Ik A,Ik B] w λe w'=>e=AT (Ia false)/\Below w.heap.size w w':=by
 obtain⟨Gz,NF,NG,AB,NH,NI,NJ,NK,NL,AD,NM,P6,Cg,P7,P8,P9,Ra,Rb,zI,xJ,xK,xL,rfl⟩:=ha.letters;obtain⟨Rc,NO,Ma,Du,KZ,NP,NQ,NR,Mb,Dv,K0,NT,Fs,Mc,Re,Rf,Rg,Rh,zJ,zK,zL,zM,rfl⟩:=hb.letters;simp only[P5] at ha hb ⊢;obtain⟨WR,WS,WT⟩:=ha.three;obtain⟨Th,Ti,Tj⟩:=hb.three;have Dw:=(af hpb.ms).2.1;have nx:=(Sv.af hpb.sv).2.1;have WU:=(Gw.af hpb.gw).2.1;obtain⟨aeE,WV⟩:=rowAt WR;obtain⟨aeF,WW⟩:=rowAt Th;have WX:∀k,k<AB->∃q,q<Du/\Hid (∀W,Below w.heap.size w W->Calls AS 15 #[J Ma Du KZ,Y (a.ms.getD k dm).name] W λe w'=>e=AT (U O (q:Int))/\Below W.heap.size W w')/\Hid (∀W,Calls AS 20 #[Ik #[Y (a.ms.getD k dm).name,U O (a.ms.getD k dm).state,U O (a.ms.getD k dm).aM,U O (a.ms.getD k dm).addr,Ia (a.ms.getD k dm).server],Ik #[Y (b.ms.getD q dm).name,U O (b.ms.getD q dm).state,U O (b.ms.getD q dm).aM,U O (b.ms.getD q dm).addr,Ia (b.ms.getD q dm).server]] W λe w'=>e=AT (Ia false)/\Below W.heap.size W w'):=λk hk=>by
  have K1:a.ms.getD k dm∈a.ms:=by rw[show a.ms.getD k dm=a.ms[k]'(by omega) by simp[Iq,Ie (show k<a.ms.length by omega)]];exact IG _
  obtain⟨y,hy,hn⟩:=LV.ms _ K1;obtain⟨q,hq,hqe⟩:=List.getElem_of_mem (pc hy).1;have hqg:b.ms.getD q dm=y:=by rw[<- hqe];simp[Iq,Ie hq]
  refine⟨q,by omega,λW hW=>?_,λW=>?_⟩
  .refine(Fo b.ms _ _ W (Th.below hW) (by have:=Tg.ms;omega)).mono ?_
   rintro e w' ⟨r,rfl,cH,rfl⟩;rcases cH.out with⟨k0,vq,rfl,hf⟩|⟨_,hf⟩
   .rw[hy] at hf
    injection hf with hf;have h2:=Fp Dw vq hq (by rw[<- hf,hqg]);exact⟨by rw[h2],Ib _ _⟩
   .rw[hy] at hf;cases hf
  .rw[hqg]
   refine(rM _ _ _ _ _ _ _ _ _ _ W).mono ?_;rintro e w' ⟨rfl,rfl⟩;exact⟨by rw[<- hn];rfl,((Ib _ _).alloc (Ic _) _).alloc (by simp) _⟩
 obtain⟨aeG,WY⟩:=Sv.rowAt WS;obtain⟨aeH,WZ⟩:=Sv.rowAt Ti;have Xa:∀k,k<AD->∃q,q<Dv/\Hid (∀W,Below w.heap.size w W->Calls AS 14 #[J Mb Dv K0,Y (a.sv.getD k Sv.dm).node,Y (a.sv.getD k Sv.dm).bq] W λe w'=>e=AT (U O (q:Int))/\Below W.heap.size W w')/\Hid (∀W,Calls AS 27 #[Ik #[Y (a.sv.getD k Sv.dm).node,Y (a.sv.getD k Sv.dm).bq,Y (a.sv.getD k Sv.dm).name,Y (a.sv.getD k Sv.dm).tag,U O (a.sv.getD k Sv.dm).addr,U O (a.sv.getD k Sv.dm).port,Ia (a.sv.getD k Sv.dm).aj,U O (a.sv.getD k Sv.dm).version,Ia (a.sv.getD k Sv.dm).gone],Ik #[Y (b.sv.getD q Sv.dm).node,Y (b.sv.getD q Sv.dm).bq,Y (b.sv.getD q Sv.dm).name,Y (b.sv.getD q Sv.dm).tag,U O (b.sv.getD q Sv.dm).addr,U O (b.sv.getD q Sv.dm).port,Ia (b.sv.getD q Sv.dm).aj,U O (b.sv.getD q Sv.dm).version,Ia (b.sv.getD q Sv.dm).gone]] W λe w'=>e=AT (Ia false)/\Below W.heap.size W w'):=λk hk=>by
  have K1:a.sv.getD k Sv.dm∈a.sv:=by rw[show a.sv.getD k Sv.dm=a.sv[k]'(by omega) by simp[Iq,Ie (show k<a.sv.length by omega)]];exact IG _
  obtain⟨q,cH,hn⟩:=LV.sv _ K1;have hq:=(cH.is.1 rfl).1;refine⟨q,by omega,λW hW=>?_,λW=>?_⟩
  .exact Sv.S9 b.sv _ _ W (Ti.below hW) (by have:=Tg.sv;omega) nx q true cH
  .refine(Sv.B1 _ _ W).mono ?_
   rintro e w' ⟨rfl,hb⟩;exact⟨by rw[<- hn],hb⟩
 obtain⟨aeI,Xb⟩:=Gw.rowAt WT;obtain⟨aeJ,Xc⟩:=Gw.rowAt Tj;have Xd:∀k,k<Cg->∃q,q<Fs/\Hid (∀W,Below w.heap.size w W->Calls AS 28 #[J NT Fs Mc,Y (a.gw.getD k Gw.dm).aC] W λe w'=>e=AT (U O (q:Int))/\Below W.heap.size W w')/\Hid ((a.gw.getD k Gw.dm).version<=(b.gw.getD q Gw.dm).version):=λk hk=>by
  have K1:a.gw.getD k Gw.dm∈a.gw:=by rw[show a.gw.getD k Gw.dm=a.gw[k]'(by omega) by simp[Iq,Ie (show k<a.gw.length by omega)]];exact IG _
  obtain⟨q,cH,hn⟩:=LV.gw _ K1;have hq:=(cH.is.1 rfl).1;refine⟨q,by omega,λW hW=>?_,WI hn⟩;refine(Gw.qM b.gw _ _ W (Tj.below hW) (by have:=Tg.gw;omega)).mono ?_;rintro e w' ⟨r,rfl,hI,rfl⟩;exact⟨by rw[(Gw.B3 hI.out cH WU).1 rfl],Ib _ _⟩
 have aeK:Hid _:=WV;have aeL:Hid _:=WW;have HQM:Hid _:=WX;have aeM:Hid _:=WY;have aeN:Hid _:=WZ;have HQS:Hid _:=Xa;have aeO:Hid _:=Xb;have aeP:Hid _:=Xc;have HQG:Hid _:=Xd;have jd:AB<=1000:=by have:=hsa.ms;omega
 have TZ:AD<=1000:=by have:=hsa.sv;omega
 have Ft:Cg<=1000:=by have:=hsa.gw;omega
 have hj2:Du<=1000:=by have:=Tg.ms;omega
 have hj4:Dv<=1000:=by have:=Tg.sv;omega
 have hj5:Fs<=1000:=by have:=Tg.gw;omega
 clear WV WW WY WZ Xb Xc WX Xa Xd WR WS WT Th Ti Tj aeE aeF aeG aeH aeI aeJ Dw nx WU LV hsa Tg hpb ha hb;obtain⟨W0,bA⟩:∃W0,W0=(w.alloc (By #[Y Gz,Y NF,J NG AB NH,J NI NJ NK,J NL AD NM,J P6 Cg P7,U O P8,U O P9,U O Ra,U O Rb,U O zI,J xJ xK xL] 42)).alloc (By #[Y Rc,Y NO,J Ma Du KZ,J NP NQ NR,J Mb Dv K0,J NT Fs Mc,U O Re,U O Rf,U O Rg,U O Rh,U O zJ,J zK zL zM] 42):=⟨_,rfl⟩;have mm:Hid (∀W,Below W0.heap.size W0 W->W.heap[w.heap.size]?=AI (By #[Y Gz,Y NF,J NG AB NH,J NI NJ NK,J NL AD NM,J P6 Cg P7,U O P8,U O P9,U O Ra,U O Rb,U O zI,J xJ xK xL] 42 (0,0))/\W.heap[w.heap.size+1]?=AI (By #[Y Rc,Y NO,J Ma Du KZ,J NP NQ NR,J Mb Dv K0,J NT Fs Mc,U O Re,U O Rf,U O Rg,U O Rh,U O zJ,J zK zL zM] 42 (0,0))):=λW hW=>by
  have hs:W0.heap.size=w.heap.size+2:=by rw[bA];simp
  refine⟨(hW.block _ (by omega)).trans ?_,(hW.block _ (by omega)).trans ?_⟩
  .rw[bA,Below.heap_alloc _ _ _ (by simp)];exact Ii w _
  .have h:=Ii (w.alloc (By #[Y Gz,Y NF,J NG AB NH,J NI NJ NK,J NL AD NM,J P6 Cg P7,U O P8,U O P9,U O Ra,U O Rb,U O zI,J xJ xK xL] 42)) (By #[Y Rc,Y NO,J Ma Du KZ,J NP NQ NR,J Mb Dv K0,J NT Fs Mc,U O Re,U O Rf,U O Rg,U O Rh,U O zJ,J zK zL zM] 42)
   rw[bA];simpa using h
 have jA:Hid (∀W,Below W0.heap.size W0 W->Below w.heap.size w W):=λW hW=>by
  have bM:Below w.heap.size w W0:=by rw[bA];exact((Ib _ _).alloc (Ic _) _).alloc (by simp) _
  exact bM.trans (hW.mono bM.size)
 go_enter Tryz.func12,Tryz.ntmps12;go_upto_region 1 with fail
 rw[<- bA];clear bA;go_wp2_with fail;go_loopw [5] (λi w'=>∃k:Nat,k<=AB/\i=U O k/\Hid (Below W0.heap.size W0 w')) (λi _=>AB-(intOf i).toNat)
 case atStart=>exact⟨0,IH _,rfl,Ib _ _⟩
 case round=>
  obtain⟨k,hk,rfl,mF⟩:=hrel;obtain⟨sF,nz⟩:=mm.out wr mF.out;have a2:=ae sF 2;have b2:=ae nz 2;clear sF nz;by_cases aR:k<AB
  .obtain⟨ga,oa,Hp,gH,Ri,Rj⟩:=aeK.out (by omega)
   obtain⟨q,hq,fb,Dx⟩:=HQM.out k aR;obtain⟨gb,ob,hpb,gE,GH,Dw⟩:=aeL.out (by omega);subst Hp hpb;obtain⟨c0,c1,c2,c3,c4⟩:=Rj k (Ri k aR);obtain⟨e0,e1,e2,e3,e4⟩:=Dw q (GH q hq);clear Rj Dw Ri GH;generalize a.ms.getD k dm=x at *;generalize b.ms.getD q dm=y at *;obtain⟨x0,x1,x2,x3,x4⟩:=x;obtain⟨y0,y1,y2,y3,y4⟩:=y;simp only at fb Dx c0 e0 c1 e1 c2 e2 c3 e3 c4 e4;have rS:∀o,wr.cell? ⟨ga,o,be⟩=w.cell? ⟨ga,o,be⟩:=λo=>(jA.out wr mF.out).cell (p:=⟨ga,o,be⟩) gH;have rB:∀o,wr.cell? ⟨gb,o,be⟩=w.cell? ⟨gb,o,be⟩:=λo=>(jA.out wr mF.out).cell (p:=⟨gb,o,be⟩) gE;have K2:=(rS _).trans c0;have Rk:=(rB _).trans e0;have K3:=(rS _).trans c1;have Rl:=(rB _).trans e1;have K5:=(rS _).trans c2;have Rm:=(rB _).trans e2;have Tk:=(rS _).trans c3;have Xe:=(rB _).trans e3;have LO:=(rS _).trans c4;have Xf:=(rB _).trans e4;clear rS rB c0 e0 c1 e1 c2 e2 c3 e3 c4 e4;have yI:(k:Int)<(AB:Int):=by omega
   have hqi:(q:Int)<(Du:Int):=by omega
   have Rn:∀d os,Calls AS 15 #[J (AI ⟨gb,ob,be⟩) Du KZ,Y x0] (Ij (Iv wr d) os) λe fD=>e=AT (U O (q:Int))/\∃p:JI,fD=Ij (Iv wr p.d) p.os:=λd os=>IU (fb.out _ ((jA.out wr mF.out).trans ((J1 wr d os).mono (jA.out wr mF.out).size)));have A2:=Ig a2;have B2:=Ig b2;have F0:=Ig K2;have F1:=Ig K3;have F2:=Ig K5;have F3:=Ig Tk;have F4:=Ig LO;go_upto_region 4 with fail
   refine IA (by kernel_rfl) (by kernel_rfl) ?_;repeat(quiet_step (exact Rn _ _))
   refine bE λdq gT dR=>?_;have pS:Hid _:=mF.out.trans (dR.out.mono mF.out.size);clear Rn A2 B2 F0 F1 F2 F3 F4;generalize Ij (Iv wr dq) gT=W2 at *;have jX:∀g o v,g<w.heap.size->wr.cell? ⟨g,o,be⟩=AI v->W2.cell? ⟨g,o,be⟩=AI v:=λg o v hg h=>(dR.out.cell (p:=⟨g,o,be⟩) (IJ hg (jA.out wr mF.out).size)).trans h;obtain⟨sF,nz⟩:=mm.out W2 pS.out;have a22:=ae sF 2;have b22:=ae nz 2;clear sF nz a2 b2;have A2:=Ig a22;have B2:=Ig b22;have F0:=Ig (jX _ _ _ gH K2);have F1:=Ig (jX _ _ _ gH K3);have F2:=Ig (jX _ _ _ gH K5);have F3:=Ig (jX _ _ _ gH Tk);have F4:=Ig (jX _ _ _ gH LO);have G0:=Ig (jX _ _ _ gE Rk);have G1:=Ig (jX _ _ _ gE Rl);have G2:=Ig (jX _ _ _ gE Rm);have G3:=Ig (jX _ _ _ gE Xe);have G4:=Ig (jX _ _ _ gE Xf);clear jX a22 b22 K2 Rk K3 Rl K5 Rm Tk Xe LO Xf;have hd:decide ((q:Int)<0)=false:=decide_eq_false (by omega);have Xg:∀d os,Calls AS 20 #[Ik #[Y x0,U O x1,U O x2,U O x3,Ia x4],Ik #[Y y0,U O y1,U O y2,U O y3,Ia y4]] (Ij (Iv W2 d) os) λe fD=>e=AT (Ia false)/\∃p:JI,fD=Ij (Iv W2 p.d) p.os:=λd os=>IU (Dx.out _);go_upto_region 5 with fail
   refine IA (by kernel_rfl) (by kernel_rfl) ?_;repeat(quiet_step (exact Xg _ _))
   refine wpQuiet_nil ?_;intro _ zk;obtain⟨⟨dq,gT⟩,xj⟩:=zk;subst xj;have K6:Hid _:=pS.out.trans ((J1 W2 dq gT).mono pS.out.size);clear Xg A2 B2 F0 G0 F1 G1 F2 G2 F3 G3 F4 G4 dR pS;generalize Ij (Iv W2 dq) gT=W3 at *;go_wp2_with fail;go_roundw
   case rel=>exact⟨k+1,by omega,by go_num,K6⟩
   case measure=>simp[intOf];omega
  .have yI:¬ (k:Int)<(AB:Int):=by omega
   clear aR hk;go_wp2_with fail;clear a2 b2 yI;go_loopw [7] (λi w'=>∃k:Nat,k<=AD/\i=U O k/\Hid (Below W0.heap.size W0 w')) (λi _=>AD-(intOf i).toNat)
   case atStart=>exact⟨0,IH _,rfl,mF.out⟩
   case round=>
    clear mF;obtain⟨k,hk,rfl,mF⟩:=hrel;obtain⟨sF,nz⟩:=mm.out wr mF.out;have a4:=ae sF 4;have b4:=ae nz 4;clear sF nz;by_cases aR:k<AD
    .obtain⟨ga,oa,Hp,gH,Ri,Rj⟩:=aeM.out (by omega)
     obtain⟨q,hq,fb,Dx⟩:=HQS.out k aR;obtain⟨gb,ob,hpb,gE,GH,Dw⟩:=aeN.out (by omega);subst Hp hpb;obtain⟨c0,c1,c2,c3,c4,c5,c6,c7,c8⟩:=Rj k (Ri k aR);obtain⟨e0,e1,e2,e3,e4,e5,e6,e7,e8⟩:=Dw q (GH q hq);clear Rj Dw Ri GH;generalize a.sv.getD k Sv.dm=x at *;generalize b.sv.getD q Sv.dm=y at *;obtain⟨x0,x1,x2,x3,x4,x5,x6,x7,x8⟩:=x;obtain⟨y0,y1,y2,y3,y4,y5,y6,y7,y8⟩:=y;simp only at fb Dx c0 e0 c1 e1 c2 e2 c3 e3 c4 e4 c5 e5 c6 e6 c7 e7 c8 e8;have rS:∀o,wr.cell? ⟨ga,o,be⟩=w.cell? ⟨ga,o,be⟩:=λo=>(jA.out wr mF.out).cell (p:=⟨ga,o,be⟩) gH;have rB:∀o,wr.cell? ⟨gb,o,be⟩=w.cell? ⟨gb,o,be⟩:=λo=>(jA.out wr mF.out).cell (p:=⟨gb,o,be⟩) gE;have K2:=(rS _).trans c0;have Rk:=(rB _).trans e0;have K3:=(rS _).trans c1;have Rl:=(rB _).trans e1;have K5:=(rS _).trans c2;have Rm:=(rB _).trans e2;have Tk:=(rS _).trans c3;have Xe:=(rB _).trans e3;have LO:=(rS _).trans c4;have Xf:=(rB _).trans e4;have c5':=(rS _).trans c5;have e5':=(rB _).trans e5;have c6':=(rS _).trans c6;have e6':=(rB _).trans e6;have c7':=(rS _).trans c7;have e7':=(rB _).trans e7;have c8':=(rS _).trans c8;have e8':=(rB _).trans e8;clear rS rB c0 e0 c1 e1 c2 e2 c3 e3 c4 e4 c5 e5 c6 e6 c7 e7 c8 e8;have yI:(k:Int)<(AD:Int):=by omega
     have hqi:(q:Int)<(Dv:Int):=by omega
     have Rn:∀d os,Calls AS 14 #[J (AI ⟨gb,ob,be⟩) Dv K0,Y x0,Y x1] (Ij (Iv wr d) os) λe fD=>e=AT (U O (q:Int))/\∃p:JI,fD=Ij (Iv wr p.d) p.os:=λd os=>IU (fb.out _ ((jA.out wr mF.out).trans ((J1 wr d os).mono (jA.out wr mF.out).size)));have A4:=Ig a4;have B4:=Ig b4;have F0:=Ig K2;have F1:=Ig K3;have F2:=Ig K5;have F3:=Ig Tk;have F4:=Ig LO;have F5:=Ig c5';have F6:=Ig c6';have F7:=Ig c7';have F8:=Ig c8';go_upto_region 10 with fail
     refine IA (by kernel_rfl) (by kernel_rfl) ?_;repeat(quiet_step (exact Rn _ _))
     refine bE λdq gT dR=>?_;have pS:Hid _:=mF.out.trans (dR.out.mono mF.out.size);clear Rn A4 B4 F0 F1 F2 F3 F4 F5 F6 F7 F8;generalize Ij (Iv wr dq) gT=W2 at *;have jX:∀g o v,g<w.heap.size->wr.cell? ⟨g,o,be⟩=AI v->W2.cell? ⟨g,o,be⟩=AI v:=λg o v hg h=>(dR.out.cell (p:=⟨g,o,be⟩) (IJ hg (jA.out wr mF.out).size)).trans h;obtain⟨sF,nz⟩:=mm.out W2 pS.out;have a42:=ae sF 4;have b42:=ae nz 4;clear sF nz a4 b4;have A4:=Ig a42;have B4:=Ig b42;have F0:=Ig (jX _ _ _ gH K2);have F1:=Ig (jX _ _ _ gH K3);have F2:=Ig (jX _ _ _ gH K5);have F3:=Ig (jX _ _ _ gH Tk);have F4:=Ig (jX _ _ _ gH LO);have F5:=Ig (jX _ _ _ gH c5');have F6:=Ig (jX _ _ _ gH c6');have F7:=Ig (jX _ _ _ gH c7');have F8:=Ig (jX _ _ _ gH c8');have G0:=Ig (jX _ _ _ gE Rk);have G1:=Ig (jX _ _ _ gE Rl);have G2:=Ig (jX _ _ _ gE Rm);have G3:=Ig (jX _ _ _ gE Xe);have G4:=Ig (jX _ _ _ gE Xf);have G5:=Ig (jX _ _ _ gE e5');have G6:=Ig (jX _ _ _ gE e6');have G7:=Ig (jX _ _ _ gE e7');have G8:=Ig (jX _ _ _ gE e8');clear jX a42 b42 K2 Rk K3 Rl K5 Rm Tk Xe LO Xf c5' e5' c6' e6' c7' e7' c8' e8';have hd:decide ((q:Int)<0)=false:=decide_eq_false (by omega);have Xg:∀d os,Calls AS 27 #[Ik #[Y x0,Y x1,Y x2,Y x3,U O x4,U O x5,Ia x6,U O x7,Ia x8],Ik #[Y y0,Y y1,Y y2,Y y3,U O y4,U O y5,Ia y6,U O y7,Ia y8]] (Ij (Iv W2 d) os) λe fD=>e=AT (Ia false)/\∃p:JI,fD=Ij (Iv W2 p.d) p.os:=λd os=>IU (Dx.out _);go_upto_region 11 with fail
     refine IA (by kernel_rfl) (by kernel_rfl) ?_;repeat(quiet_step (exact Xg _ _))
     refine wpQuiet_nil ?_;intro _ zk;obtain⟨⟨dq,gT⟩,xj⟩:=zk;subst xj;have K6:Hid _:=pS.out.trans ((J1 W2 dq gT).mono pS.out.size);clear Xg A4 B4 F0 G0 F1 G1 F2 G2 F3 G3 F4 G4 F5 G5 F6 G6 F7 G7 F8 G8 dR pS;generalize Ij (Iv W2 dq) gT=W3 at *;go_wp2_with fail;go_roundw
     case rel=>exact⟨k+1,by omega,by go_num,K6⟩
     case measure=>simp[intOf];omega
    .have yI:¬ (k:Int)<(AD:Int):=by omega
     clear aR hk;go_wp2_with fail;clear a4 b4 yI;go_loopw [9] (λi w'=>∃k:Nat,k<=Cg/\i=U O k/\Hid (Below W0.heap.size W0 w')) (λi _=>Cg-(intOf i).toNat)
     case atStart=>exact⟨0,IH _,rfl,mF.out⟩
     case round=>
      clear mF;obtain⟨k,hk,rfl,mF⟩:=hrel;obtain⟨sF,nz⟩:=mm.out wr mF.out;have a5:=ae sF 5;have b5:=ae nz 5;clear sF nz;by_cases aR:k<Cg
      .obtain⟨ga,oa,Hp,gH,Ri,Rj⟩:=aeO.out (by omega)
       obtain⟨q,hq,fb,Dx⟩:=HQG.out k aR;obtain⟨gb,ob,hpb,gE,GH,Dw⟩:=aeP.out (by omega);subst Hp hpb;obtain⟨c0,c1,c2⟩:=Rj k (Ri k aR);obtain⟨e0,e1,e2⟩:=Dw q (GH q hq);clear Rj Dw Ri GH;generalize a.gw.getD k Gw.dm=x at *;generalize b.gw.getD q Gw.dm=y at *;obtain⟨x0,x1,x2⟩:=x;obtain⟨y0,y1,y2⟩:=y;simp only at fb Dx c0 e0 c1 e1 c2 e2;have rS:∀o,wr.cell? ⟨ga,o,be⟩=w.cell? ⟨ga,o,be⟩:=λo=>(jA.out wr mF.out).cell (p:=⟨ga,o,be⟩) gH;have rB:∀o,wr.cell? ⟨gb,o,be⟩=w.cell? ⟨gb,o,be⟩:=λo=>(jA.out wr mF.out).cell (p:=⟨gb,o,be⟩) gE;have K2:=(rS _).trans c0;have Rk:=(rB _).trans e0;have K3:=(rS _).trans c1;have Rl:=(rB _).trans e1;have K5:=(rS _).trans c2;have Rm:=(rB _).trans e2;clear rS rB c0 e0 c1 e1 c2 e2;have yI:(k:Int)<(Cg:Int):=by omega
       have hqi:(q:Int)<(Fs:Int):=by omega
       have Rn:∀d os,Calls AS 28 #[J (AI ⟨gb,ob,be⟩) Fs Mc,Y x0] (Ij (Iv wr d) os) λe fD=>e=AT (U O (q:Int))/\∃p:JI,fD=Ij (Iv wr p.d) p.os:=λd os=>IU (fb.out _ ((jA.out wr mF.out).trans ((J1 wr d os).mono (jA.out wr mF.out).size)));have A5:=Ig a5;have B5:=Ig b5;have F0:=Ig K2;have F1:=Ig K3;have F2:=Ig K5;go_upto_region 16 with fail
       refine IA (by kernel_rfl) (by kernel_rfl) ?_;repeat(quiet_step (exact Rn _ _))
       refine bE λdq gT dR=>?_;have pS:Hid _:=mF.out.trans (dR.out.mono mF.out.size);clear Rn A5 B5 F0 F1 F2;generalize Ij (Iv wr dq) gT=W2 at *;have jX:∀g o v,g<w.heap.size->wr.cell? ⟨g,o,be⟩=AI v->W2.cell? ⟨g,o,be⟩=AI v:=λg o v hg h=>(dR.out.cell (p:=⟨g,o,be⟩) (IJ hg (jA.out wr mF.out).size)).trans h;obtain⟨sF,nz⟩:=mm.out W2 pS.out;have a52:=ae sF 5;have b52:=ae nz 5;clear sF nz a5 b5;have A5:=Ig a52;have B5:=Ig b52;have F0:=Ig (jX _ _ _ gH K2);have F1:=Ig (jX _ _ _ gH K3);have F2:=Ig (jX _ _ _ gH K5);have G0:=Ig (jX _ _ _ gE Rk);have G1:=Ig (jX _ _ _ gE Rl);have G2:=Ig (jX _ _ _ gE Rm);clear jX a52 b52 K2 Rk K3 Rl K5 Rm;have hd:decide ((q:Int)<0)=false:=decide_eq_false (by omega);have hv:decide (y2<x2)=false:=decide_eq_false (by have:=Dx.out;omega);go_upto_region 17 with fail
       refine IA (by kernel_rfl) (by kernel_rfl) ?_;repeat(quiet_step (fail))
       refine wpQuiet_nil ?_;intro _ zk;obtain⟨⟨dq,gT⟩,xj⟩:=zk;subst xj;have K6:Hid _:=pS.out.trans ((J1 W2 dq gT).mono pS.out.size);clear hv A5 B5 F0 G0 F1 G1 F2 G2 dR pS;generalize Ij (Iv W2 dq) gT=W3 at *;go_wp2_with fail;go_roundw
       case rel=>exact⟨k+1,by omega,by go_num,K6⟩
       case measure=>simp[intOf];omega
      .have yI:¬ (k:Int)<(Cg:Int):=by omega
       clear aR hk;go_wp2_with fail;go_ret;exact⟨rfl,jA.out wr mF.out⟩
end Go.Proofs.YtfidhgjmifendaaGreatDoor
