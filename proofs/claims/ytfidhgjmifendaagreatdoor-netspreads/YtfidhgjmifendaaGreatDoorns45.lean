import Derived.Test.YtfidhgjmifendaaGreatDoorns29
import Derived.Test.YtfidhgjmifendaaGreatDoorns44
set_option maxHeartbeats 6400000
set_option maxRecDepth 100000
open Go.Ending renaming returned→AT
open Go.Value renaming tuple→Ik,agg→Ij,slice→J,int→U,string→Y
open Go.IntKind renaming i64→O
open Option renaming none→be,some→AI
open Go.Obj renaming cells→By
open Nat renaming le_refl→Ic,zero_add→IC
open Go.World renaming frozen?→Is
open List renaming getD→Ip,getElem?_eq_getElem→If,getElem_mem→IJ,pairwise_iff_getElem→I3
namespace Go.Proofs.YtfidhgjmifendaaGreatDoor
open Go.RowKit
theorem Nd.NY{n:Nd}(h:n.e=0):n.ot:=by
 unfold Nd.e at h;split at h
 .rename_i h0;exact Nd.parts h0
 .rename_i h0;exact absurd h h0
theorem Nd.Rl{n:Nd}(h:n.e=0):n.ms.length<=1000/\n.rs.length<=1000/\n.sv.length<=1000/\n.gw.length<=1000/\n.wh.length<=1000:=by
 have p:=Nd.NY h;have h1:=(af p.ms).1;have h3:=(Sv.af p.sv).1;have h4:=(Gw.af p.gw).1;have h5:=(Wh.af p.wh).1;have h2:n.rs.length<=20:=by
  apply Classical.byContradiction;intro hh;have:=wR (rs:=n.rs) (by omega);rw[p.rs] at this;cases this
 omega
theorem Nt.aN{t:Nt}(h:t.e=0):t.ns.length<=6/\t.ls.length<=20/\(∀n∈t.ns,n.e=0)/\ie t.ns/\∀l∈t.ls,vE t.ns.length l=0:=by
 unfold Nt.e at h;split at h
 .cases h
 .rename_i h0
  split at h
  .rename_i h1
   unfold kD at h1;split at h1
   .rename_i h2
    split at h1
    .rename_i h3
     exact⟨by omega,by omega,uf _ h2,(xW _).1 h3,uf _ h⟩
    .cases h1
   .rename_i h2;exact absurd h1 h2
  .rename_i h1;exact absurd h h1
def yp(w:World)(te:Int)(t:Nt)(e:Ending)(w':World):Prop:=
 Below w.heap.size w w'/\((te=0/\∃a l c d m k nb L,e=AT (Ik #[Ij #[J a l c,J d m k],U O 0])/\rR w.heap.size w' t (J a l c) (J d m k) nb L)\/(te≠0/\e=AT (Ik #[Ij #[J be 0 0,J be 0 0],U O te])))
theorem uz(ns:List Nd)(vn:Value)(w:World)(hV:Rv w.heap.size w)(h:xY w vn ns) :
 Calls Tryz.prog 22 #[vn] w (yp w (Nt.mk ns []).e ⟨ns,[]⟩):=by
 have gX:∀W:World,Lt.Sl W (J be 0 0) []:=λW=>Lt.bF (Lt.b9 W.heap.size W) (λm hm=>by cases hm);have oq:Hid (∀W,Below w.heap.size w W->Calls _ _ _ _ _):=λW hW=>qt ⟨ns,[]⟩ vn _ W (hV.after hW) ⟨h.below hW,gX W⟩ (λ_ l hl=>by cases hl) rfl;have Ff:Hid ((Nt.mk ns []).e=0->∀W,Below w.heap.size w W->Calls Tryz.prog 32 #[Ij #[vn,J be 0 0]] W λe w'=>∃un a l c L,e=AT (Ij #[un,J a l c])/\rR W.heap.size w' ⟨ns,[]⟩ un (J a l c) (W.heap.size+2) L/\Below W.heap.size W w'):=λhe W hW=>by
  have hz:=Nt.aN he;exact uj ⟨ns,[]⟩ vn _ W ⟨h.below hW,gX W⟩ hz.1 hz.2.1 (λn hn=>Nd.Rl (hz.2.2.1 n hn))
 obtain⟨pn,cn,Fg,_⟩:=h;subst Fg;generalize hte:(Nt.mk ns []).e=te at *;clear hte;generalize ns.length=n at *;clear hV gX;obtain⟨W0,bN⟩:∃W0,W0=(w.alloc (By #[J be 0 0,J be 0 0] 27)).alloc (By #[J pn n cn,J be 0 0] 27):=⟨_,rfl⟩;have bO:Below w.heap.size w W0:=by rw[bN];exact((Below.refl _ _).alloc (Ic _) _).alloc (by simp) _
 have k0:W0.heap[w.heap.size]?=AI (By #[J be 0 0,J be 0 0] 27 (0,0)):=by
  rw[bN];exact(Lib.alloc_old _ _ _ (by simp)).trans (heap_alloc_new w _)
 have k1:W0.heap[w.heap.size+1]?=AI (By #[J pn n cn,J be 0 0] 27 (0,0)):=by
  rw[bN];have:=heap_alloc_new (w.alloc (By #[J be 0 0,J be 0 0] 27)) (By #[J pn n cn,J be 0 0] 27);simpa using this
 have sr:Hid (w.heap.size+2<=W0.heap.size):=by show _<=_;rw[bN];simp
 have db:Hid _:=bO;have HK:Hid (∀W,Below W0.heap.size W0 W->W.heap[w.heap.size]?=AI (By #[J be 0 0,J be 0 0] 27 (0,0))/\W.heap[w.heap.size+1]?=AI (By #[J pn n cn,J be 0 0] 27 (0,0))):=λW hW=>⟨(hW.block _ (by have:=sr.out;omega)).trans k0,(hW.block _ (by have:=sr.out;omega)).trans k1⟩;have x0:=ae k1 0;have x1:=ae k1 1;clear bO k0 k1;go_enter Tryz.func22,Tryz.ntmps22;go_upto_region 2 with fail
 rw[<- bN];clear bN;go_wp2_with fail;refine(oq.out W0 db.out).mono ?_;rintro e w1 ⟨rfl,aB⟩;have ba:Hid _:=aB;have iZ:Hid _:=db.out.trans (aB.mono db.out.size);clear aB x0 x1 oq;by_cases h0:te=0
 .subst h0
  have Cf:=Ff.out rfl;clear Ff;have Ff:Hid _:=Cf;clear Cf;have x0:=ae (HK.out w1 ba.out).2 0;have x1:=ae (HK.out w1 ba.out).2 1;go_wp2_with fail;refine Calls.mono (Ff.out w1 iZ.out) ?_;rintro e w2 ⟨un,a,l,c,L,rfl,hown,aK⟩;have Tl:=hown.un;subst Tl;have jJ:=(HK.out w2 (ba.out.trans (aK.mono ba.out.size))).1;obtain⟨W3,eu⟩:∃W3,W3=aC w.heap.size [J (AI ⟨w1.heap.size+2,0,be⟩) ns.length ns.length,J a l c] 0 w2:=⟨_,rfl⟩;have jY:W3.heap[w.heap.size]?=AI (By #[J (AI ⟨w1.heap.size+2,0,be⟩) ns.length ns.length,J a l c] 27 (0,0)):=by rw[eu];exact bA [J (AI ⟨w1.heap.size+2,0,be⟩) ns.length ns.length,J a l c] [] [J be 0 0,J be 0 0] jJ rfl
  have eA:∀q,q≠w.heap.size->W3.heap[q]?=w2.heap[q]?:=λq hq=>by rw[eu];exact aV hq _ _ _
  have afi:=iZ.out.size;have gZ:Hid (yp w 0 ⟨ns,[]⟩ (AT (Ik #[Ij #[J (AI ⟨w1.heap.size+2,0,be⟩) ns.length ns.length,J a l c],U O 0])) W3):=by
   refine⟨by rw[eu];exact aT (Ic _) _ _ (iZ.out.trans (aK.mono iZ.out.size)),.inl ⟨rfl,_,_,_,_,_,_,w1.heap.size+2,L,rfl,⟨rfl,by omega,hown.ns,?_,?_,?_⟩⟩⟩
   .exact(eA _ (by omega)).trans hown.row
   .exact λx hx=>(hown.own x hx).fi (λq hq _=>eA q (by omega))
   .exact ej (λq hq _=>eA q (by omega)) hown.ls
  have g0:=ae jJ 0;have g1:=ae jJ 1;have f0:w2.frozen? ⟨w.heap.size,0,be⟩=false:=by simp[Is,jJ]
  have f1:w2.frozen? ⟨w.heap.size,1,be⟩=false:=by simp[Is,jJ]
  have q0:=ae jY 0;have q1:=ae jY 1;clear jJ jY eA afi hown aK HK ba iZ db sr x0 x1 Ff;simp only at gZ eu q0 ⊢;go_wp2_with fail;simp only[aC,IC] at eu;rw[<- eu];clear eu g0 g1 f0 f1;exact bodyPost_ret (v:=Ik #[Ij #[J (AI ⟨w1.heap.size+2,0,be⟩) ns.length ns.length,J a l c],U O 0]) (by simp[results,Tryz.results22,go_sem,q0,q1]) rfl gZ.out
 .have he:(te !=0)=true:=by simpa using h0
  have jn:=(HK.out w1 ba.out).1;obtain⟨W3,eu⟩:∃W3,W3=aC w.heap.size [J be 0 0,J be 0 0] 0 w1:=⟨_,rfl⟩;have jY:W3.heap[w.heap.size]?=AI (By #[J be 0 0,J be 0 0] 27 (0,0)):=by rw[eu];exact bA [J be 0 0,J be 0 0] [] [J be 0 0,J be 0 0] jn rfl
  have gZ:Hid (yp w te ⟨ns,[]⟩ (AT (Ik #[Ij #[J be 0 0,J be 0 0],U O te])) W3):=⟨by rw[eu];exact aT (Ic _) _ _ iZ.out,.inr ⟨h0,rfl⟩⟩;have g0:=ae jn 0;have g1:=ae jn 1;have f0:w1.frozen? ⟨w.heap.size,0,be⟩=false:=by simp[Is,jn]
  have f1:w1.frozen? ⟨w.heap.size,1,be⟩=false:=by simp[Is,jn]
  have q0:=ae jY 0;have q1:=ae jY 1;clear jn jY HK ba iZ db sr Ff h0;go_wp2_with fail;simp only[aC,IC] at eu;rw[<- eu];clear eu g0 g1 f0 f1;exact bodyPost_ret (v:=Ik #[Ij #[J be 0 0,J be 0 0],U O te]) (by simp[results,Tryz.results22,go_sem,q0,q1]) rfl gZ.out
def Mu(t0 t1:ByteArray)(p2:Option Addr)(k2 c2:Nat)(p3:Option Addr)(k3 c3:Nat)(p4:Option Addr)(k4 c4:Nat)(p5:Option Addr)(k5 c5:Nat)(i6 i7 i8 i9 i10:Int)(p11:Option Addr)(k11 c11:Nat):Array Value:=
 #[Y t0,Y t1,J p2 k2 c2,J p3 k3 c3,J p4 k4 c4,J p5 k5 c5,U O i6,U O i7,U O i8,U O i9,U O i10,J p11 k11 c11]
def gD(w:World)(n:Nd)(A:Array Value):Prop:=∃vm vr vs vg vw,A=dv n vm vr vs vg vw/\eY w n vm vr vs vg vw
theorem gD.below{w w':World}{n:Nd}{A:Array Value}(h:gD w n A)(hb:Below w.heap.size w w'):gD w' n A:=by
 obtain⟨a,b,c,d,e,h1,h2⟩:=h;exact⟨a,b,c,d,e,h1,h2.below hb⟩
theorem gD.letters{w:World}{n:Nd}{A:Array Value}(h:gD w n A):∃t0 t1 p2 k2 c2 p3 k3 c3 p4 k4 c4 p5 k5 c5 i6 i7 i8 i9 i10 p11 k11 c11,A=Mu t0 t1 p2 k2 c2 p3 k3 c3 p4 k4 c4 p5 k5 c5 i6 i7 i8 i9 i10 p11 k11 c11:=by
 obtain⟨vm,vr,vs,vg,vw,rfl,⟨pm,cm,rfl,_⟩,⟨pr,cr,rfl,_⟩,⟨ps,cs,rfl,_⟩,⟨pg,cg,rfl,_⟩,⟨pw,cw,rfl,_⟩,_,_⟩:=h;exact⟨_,_,_,_,_,_,_,_,_,_,_,_,_,_,_,_,_,_,_,_,_,_,rfl⟩
theorem xY.ok{w:World}{v:Value}{ns:List Nd}(h:xY w v ns):∀n∈ns,iw n:=λn hn=>by
 obtain⟨a,cap,_,h⟩:=h;rcases h with h|⟨b,off,_,_,hr⟩
 .subst h;cases hn
 .obtain⟨j,hj,rfl⟩:=List.mem_iff_getElem.1 hn
  obtain⟨vm,vr,vs,vg,vw,h1,_⟩:=hr j hj;rw[Ip,If hj] at h1;exact h1.ok
theorem rR.Tm{B nb:Nat}{w:World}{t:Nt}{un ul:Value}{L:List Nx}(h:rR B w t un ul nb L)(hk:∀n∈t.ns,iw n):vF w nb 0 t.ns:=λj hj=>by
 have hl:L.length=t.ns.length:=by rw[<- h.ns,List.length_map]
 have FJ:j<L.length:=by omega
 have hx:L.getD j bZ∈L:=by rw[Ip,If FJ];exact IJ FJ
 have hn:(L.getD j bZ).n=t.ns.getD j bC:=by
  rw[<- h.ns,Ip,Ip,List.getElem?_map,If FJ];rfl
 have hm:t.ns.getD j bC∈t.ns:=by rw[Ip,If hj];exact IJ hj
 have ho:=h.own _ hx;have hg:=λi hi=>mm L j FJ i hi;have hr:=h.row;generalize L.getD j bZ=x at *;obtain⟨xn,vm,vr,vs,vg,vw⟩:=x;simp only at hn ho;subst hn;refine⟨vm,vr,vs,vg,vw,ho.is (hk _ hm),λi hi=>?_⟩;have hgi:=hg i hi;have aX:=hi;have hc:=ae hr (0+j*12+i);rw[hc];simpa[Nx.cs] using hgi
theorem rR.sl{B nb:Nat}{w:World}{t:Nt}{un ul:Value}{L:List Nx}(h:rR B w t un ul nb L)(hk:∀n∈t.ns,iw n):xY w un t.ns:=by
 have hb:=(Array.getElem?_eq_some_iff.1 h.row).1;exact⟨_,_,h.un,.inr ⟨nb,0,rfl,hb,h.Tm hk⟩⟩
def AtF(ms:List Mem)(t:ByteArray)(r:Int):Prop:=(∃k:Nat,k<ms.length/\r=k/\cv ms t=AI (ms.getD k dm))\/(r = -1/\cv ms t=be)
theorem FK(ms:List Mem)(v:Value)(t:ByteArray)(w:World)(hv:Sl w v ms)(hn:ms.length<=1000) :
 aI 15 #[v,Y t] w λe w'=>∃r:Int,e=AT (U O r)/\Hid (AtF ms t r)/\w'=w:=by
 obtain⟨pa,ca,rfl,_,ha⟩:=hv;have HA:Hid _:=ha;clear ha;generalize Rf:ms.length=n at *;have HN:Hid _:=Rf;clear Rf;go_enter Tryz.func15,Tryz.ntmps15;go_wp2_with fail;go_loop [5] (λi=>∃k:Nat,k<=n/\i=U O k/\Hid (∀j,j<k->(ms.getD j dm).name≠t)) (λi=>n-(intOf i).toNat)
 case atStart=>exact⟨0,Nat.zero_le _,rfl,λj h=>absurd h (Nat.not_lt_zero _)⟩
 case round=>
  obtain⟨k,hk,rfl,hz⟩:=hrel;by_cases aX:k<n
  .obtain⟨b1,o1,xt,Dd,nN⟩:∃b off,pa=AI ⟨b,off,be⟩/\b<w.heap.size/\Row w b off ms:=by
    rcases HA.out with h|h
    .have:=HN.out;rw[h] at this;simp at this;omega
    .exact h
   subst xt;obtain⟨c0,_,_,_,_⟩:=nN k (by rw[HN.out];exact aX);clear nN;have HF:Hid ((ms.getD k dm).name=t->AtF ms t (k:Int)):=λh=>.inl ⟨k,by rw[HN.out];exact aX,rfl,nL (by rw[HN.out];exact aX) hz.out h⟩;have HZ:Hid ((ms.getD k dm).name≠t->∀j,j<k+1->(ms.getD j dm).name≠t):=λh j hj=>by
    rcases Nat.lt_succ_iff_lt_or_eq.1 hj with h2|rfl
    .exact hz.out j h2
    .exact h
   generalize(ms.getD k dm).name=nm at *;by_cases he:nm=t
   .subst he
    have wo:Hid (AtF _ _ _):=HF.out rfl;clear HF HZ;go_wp2_with fail;go_ret;exact⟨k,rfl,wo,rfl⟩
   .obtain⟨h1,h2⟩:=mK he
    have HE:Hid _:=he;clear he;go_wp2_with fail;go_round
    case rel=>exact⟨k+1,by omega,by go_num,HZ.out HE.out⟩
    case measure=>simp[intOf];omega
  .go_wp2_with fail
   go_ret;exact⟨-1,rfl,.inr ⟨rfl,qW λj hj=>hz.out j (by have:=HN.out;omega)⟩,rfl⟩
theorem FL{ms:List Mem}(hr:bp ms){i j:Nat}(hi:i<ms.length)(hj:j<ms.length)(h:(ms.getD i dm).name=(ms.getD j dm).name):i=j:=by
 have e:∀k (hk:k<ms.length),ms.getD k dm=ms[k]:=λk hk=>by simp[Ip,If hk]
 rw[e i hi,e j hj] at h;rcases Nat.lt_trichotomy i j with h1|h1|h1
 .have h2:=I3.1 hr i j hi hj h1
  rw[h,fp] at h2;cases h2
 .exact h1
 .have h2:=I3.1 hr j i hj hi h1
  rw[h,fp] at h2;cases h2
theorem gD.three{W:World}{N:Nd}{t0 t1:ByteArray}{p2 p3 p4 p5 p11:Option Addr}{k2 c2 k3 c3 k4 c4 k5 c5 k11 c11:Nat}{i6 i7 i8 i9 i10:Int}(h:gD W N #[Y t0,Y t1,J p2 k2 c2,J p3 k3 c3,J p4 k4 c4,J p5 k5 c5,U O i6,U O i7,U O i8,U O i9,U O i10,J p11 k11 c11]):Sl W (J p2 k2 c2) N.ms/\Sv.Sl W (J p4 k4 c4) N.sv/\Gw.Sl W (J p5 k5 c5) N.gw:=by
 obtain⟨vm,vr,vs,vg,vw,hA,hi⟩:=h;simp only[dv,Array.mk.injEq,List.cons.injEq,and_true] at hA;obtain⟨e0,e1,e2,e3,e4,e5,e6,e7,e8,e9,e10,e11⟩:=hA;exact⟨by rw[e2];exact hi.ms,by rw[e4];exact hi.sv,by rw[e5];exact hi.gw⟩
theorem rowAt{w:World}{p:Option Addr}{k c:Nat}{ms:List Mem}(h:Sl w (J p k c) ms):k=ms.length/\(0<k->∃g o,p=AI ⟨g,o,be⟩/\g<w.heap.size/\(∀j,j<k->j<ms.length)/\Row w g o ms):=by
 obtain⟨a,c',e,_,hr⟩:=h;simp only[Value.slice.injEq] at e;obtain⟨rfl,rfl,rfl⟩:=e;refine⟨rfl,λh0=>?_⟩;rcases hr with rfl|⟨g,o,h1,h2,h3⟩
 .simp at h0
 .exact⟨g,o,h1,h2,λ_ h=>h,h3⟩
end Go.Proofs.YtfidhgjmifendaaGreatDoor
