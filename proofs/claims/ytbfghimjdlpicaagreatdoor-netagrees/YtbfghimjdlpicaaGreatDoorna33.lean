import Derived.Test.YtbfghimjdlpicaaGreatDoorna29
import Derived.Test.YtbfghimjdlpicaaGreatDoorna31
import Derived.Test.YtbfghimjdlpicaaGreatDoorna32
set_option maxHeartbeats 25600000
set_option maxRecDepth 100000
open Go.Ending renaming returned→AT
open Option renaming none→be,some→AI
open Go.Proofs.Tryz renaming prog→AS,underlying25→Ql
open Go.RowKit.Below renaming refl→Ib
open Go.Obj renaming cells→By
open Go.Value renaming slice→J,agg→Ik,string→Y,int→U,tuple→Ip,bool→Ia
open Nat renaming le_refl→Ie,reduceAdd→Jn,zero_add→ID
open Go renaming maxLen→Io,madeCells→Ol,heap_alloc_new→Ij,bodyPost_ret→IL,Ending→OR
open List renaming length_append→Ii,getElem?_append_left→Jx,getElem?_append_right→Jw,replicate→I7,getD→Ir,getElem?_eq_getElem→Ic,getElem_mem→IK,append_assoc→Iq,mem_singleton→IY
open Go.IntKind renaming i64→O
open Go.World renaming frozen?→It
namespace Go.Proofs.YtbfghimjdlpicaaGreatDoor
namespace Lt
open Go.RowKit
theorem fJ(ms:List fy)(v:Value)(w:World)(h:Sl w v ms)(hn:ms.length<=1000) :
 aK 40 #[v] w λe w'=>∃v',e=AT v'/\Own w.heap.size w' v' ms/\Below w.heap.size w w':=by
 obtain⟨a,cap,rfl,hs,h⟩:=h;obtain⟨i0,fH,dt,gJ,gB⟩:=info_parts Tryz.WL;cases a with
 |none=>
  have he:ms=[]:=by
   rcases h with h|⟨b,off,h,_⟩
   .exact h
   .cases h
  subst he;clear h hs;have gV:=λ(w:World)=>Lib.run_eql_slice_nil (P:=AS) w 25 92 be 0 cap 0 0 Ql;simp only[List.length_nil,Option.isNone_none] at gV ⊢;go_enter Tryz.func40,Tryz.ntmps40;go_wp2_with fail;go_ret;exact⟨_,rfl,cv _ _,Ib _ _⟩
 |some a=>
  have gV:=λ(w:World)=>Lib.run_eql_slice_nil (P:=AS) w 25 92 (AI a) ms.length cap 0 0 Ql;simp only[Option.isNone_some] at gV;have hnews:Hid (∀j u,(fl ms)[j]?=AI u->(w.alloc (By #[] 92)).cell? (a.add j)=AI u):=by
   intro j u hj;rcases h with h|⟨b,off,h,hb,hr⟩
   .subst h;simp[fl] at hj
   .cases h
    have VX:j<ms.length*2:=by rw[<- da];exact(List.getElem?_eq_some_iff.1 hj).1
    have h1:=eK ms (j/2) (by omega) (j%2) (by omega);rw[show j/2*2+j%2=j by omega,hj] at h1;rw[Addr.add_lit,World.cell?_alloc_past (w:=w) _ b _ hb];obtain⟨c0,c1⟩:=hr (j/2) (by omega);have cE:j%2=0\/j%2=1:=by omega
    rcases cE with e|e
    .rw[show off+j=off+j/2*2 by omega,c0];rw[e] at h1;simpa[fy.cs] using h1.symm
    .rw[show off+j=off+j/2*2+1 by omega,c1];rw[e] at h1;simpa[fy.cs] using h1.symm
  have HO:Hid ((w.alloc (By #[] 92)).ownsRow w.heap.size 92 2 (J (AI ⟨w.heap.size,0,be⟩) 0 0) 0 []):=World.ownsRow_made w #[] 0 (Ie _) (by unfold Io;omega) rfl;clear h hs;go_enter Tryz.func40,Tryz.ntmps40;go_wp2_with (at_builtin;refine wpList_append_own _ rfl _ _ 25 rfl w.heap.size 92 i0 _ 2 24 Ql fH dt gJ gB rfl (by omega) _ 0 [] rfl HO.out a ms.length cap (fl ms) rfl (da ms) hnews.out (iK ms) (by unfold Io;omega) (by omega) (by simp) ?_);intro v' w' r1 r2 r3;go_wp2_with fail;go_ret;refine⟨v',rfl,?_,?_⟩
  .simpa using r1
  .exact((Ib _ _).alloc (Ie _) _).grown r2 (by simp) (λk hk=>by simp[Value.ownBlock] at hk;omega)
end Lt
end Go.Proofs.YtbfghimjdlpicaaGreatDoor
namespace Go.Proofs.YtbfghimjdlpicaaGreatDoor
open Go.RowKit
structure Nx where
 n:Nd
 vm:Value
 vr:Value
 vs:Value
 vg:Value
 vw:Value
def Nx.cs(x:Nx):List Value:=(dE x.n x.vm x.vr x.vs x.vg x.vw).toList
def cz:Nx:=⟨aM,J be 0 0,J be 0 0,J be 0 0,J be 0 0,J be 0 0⟩
def jP(L:List Nx):List Value:=L.flatMap Nx.cs
theorem kz(x:Nx):x.cs.length=12:=rfl
theorem zO:∀L:List Nx,(jP L).length=L.length*12
 |[]=>rfl
 |x::L=>by
  have:=zO L;unfold jP at this ⊢;rw[List.flatMap_cons,Ii,this,kz,List.length_cons];omega
theorem lN(a b:List Nx):jP (a++b)=jP a++jP b:=by simp[jP]
theorem uv(x:Nx):jP [x]=x.cs:=by simp[jP]
theorem nF(L:List Nx)(j:Nat)(hj:j<L.length)(t:Nat)(ht:t<12):(jP L)[j*12+t]?=(L.getD j cz).cs[t]?:=by
 induction L generalizing j with
 |nil=>simp at hj
 |cons m r ih=>
  have e:jP (m::r)=m.cs++jP r:=by simp[jP]
  rw[e];cases j with
  |zero=>rw[Jx (by rw[kz];omega)];simp
  |succ j=>
   rw[Jw (by rw[kz];omega),kz,show(j+1)*12+t-12=j*12+t by omega,ih j (by simpa using hj)];simp
theorem qP{b:Nat}{T:TypeId}{f:Nat×Nat}:∀(L pre Su post:List Value) {w:World},w.heap[b]?=AI (By (pre++Su++post).toArray T f)->Su.length=L.length->(aF b L pre.length w).heap[b]?=AI (By (pre++L++post).toArray T f)
 |[],pre,Su,post,w,h,hl=>by
  have:Su=[]:=List.eq_nil_of_length_eq_zero (by simpa using hl)
  subst this;exact h
 |x::r,pre,[],post,w,h,hl=>absurd hl (by simp)
 |x::r,pre,y::s,post,w,h,hl=>by
  have h1:=Joins.block_setCell (i:=pre.length) h x;rw[List.setIfInBounds_toArray,show(pre++y::s++post).set pre.length x=(pre++[x])++s++post by simp] at h1;have h2:=qP r (pre++[x]) s post h1 (by simpa using hl);rw[show(pre++[x]).length=pre.length+1 by simp,show(pre++[x])++r++post=pre++x::r++post by simp] at h2;exact h2
structure tC(B:Nat)(w:World)(t:Nt)(un ul:Value)(nb:Nat)(L:List Nx):Prop where
 un:un=J (AI ⟨nb,0,be⟩) t.ns.length t.ns.length
 le:B<=nb
 ns:L.map (·.n)=t.ns
 row:w.heap[nb]?=AI (By (jP L).toArray 50 (0,0))
 own:∀x∈L,cZ (nb+1) w x.n x.vm x.vr x.vs x.vg x.vw
 ls:Lt.Own (nb+1) w ul t.ls
theorem cZ.fN{B:Nat}{w w':World}{n:Nd}{vm vr vs vg vw:Value}(h:cZ B w n vm vr vs vg vw)(hk:∀b,B<=b->b<w.heap.size->w'.heap[b]?=w.heap[b]?):cZ B w' n vm vr vs vg vw:=⟨eO hk h.ms,eO hk h.rs,eO hk h.sv,eO hk h.gw,eO hk h.wh⟩
theorem BK{base jG:Nat}{w:World}{T:TypeId}{k n:Nat}{v:Value}{cs:List Value}(h:w.ownsRow base T k v n cs)(hb:jG<=base):w.ownsRow jG T k v n cs:=by
 rcases h.2 with⟨rfl,h0⟩|⟨g,c,cur,rfl,eX,r⟩
 .exact⟨h.1,.inl ⟨rfl,h0⟩⟩
 .exact⟨h.1,.inr ⟨g,c,cur,rfl,Nat.le_trans hb eX,r⟩⟩
theorem cZ.mono{A B:Nat}{w:World}{n:Nd}{vm vr vs vg vw:Value}(h:cZ B w n vm vr vs vg vw)(hb:A<=B):cZ A w n vm vr vs vg vw:=⟨h.ms.mono hb,BK h.rs hb,h.sv.mono hb,h.gw.mono hb,h.wh.mono hb⟩
def SI:Value:=Ik #[Y ⟨#[]⟩,Y ⟨#[]⟩,J be 0 0,J be 0 0,J be 0 0,J be 0 0,U O 0,U O 0,U O 0,U O 0,U O 0,J be 0 0]
theorem SJ:Ol SI.cells (0*12)=(jP (I7 0 cz)).toArray:=by kernel_rfl
theorem SK:Ol SI.cells (1*12)=(jP (I7 1 cz)).toArray:=by kernel_rfl
theorem SL:Ol SI.cells (2*12)=(jP (I7 2 cz)).toArray:=by kernel_rfl
theorem SM:Ol SI.cells (3*12)=(jP (I7 3 cz)).toArray:=by kernel_rfl
theorem SN:Ol SI.cells (4*12)=(jP (I7 4 cz)).toArray:=by kernel_rfl
theorem SO:Ol SI.cells (5*12)=(jP (I7 5 cz)).toArray:=by kernel_rfl
theorem SP:Ol SI.cells (6*12)=(jP (I7 6 cz)).toArray:=by kernel_rfl
theorem D0(n:Nat)(h:n<=6):Ol SI.cells (n*12)=(jP (I7 n cz)).toArray:=by
 have h7:n=0\/n=1\/n=2\/n=3\/n=4\/n=5\/n=6:=by omega
 rcases h7 with rfl|rfl|rfl|rfl|rfl|rfl|rfl
 .exact SJ
 .exact SK
 .exact SL
 .exact SM
 .exact SN
 .exact SO
 .exact SP
theorem Tryz.Xx:(Tryz.prog.info? 50).map (λi=>(i.zero,i.size,i.bytes))=AI (AI (Ik #[Y ⟨#[]⟩,Y ⟨#[]⟩,J be 0 0,J be 0 0,J be 0 0,J be 0 0,U O 0,U O 0,U O 0,U O 0,U O 0,J be 0 0]),12,192):=by kernel_rfl
theorem vQ(t:Nt)(vn vl:Value)(w:World)(h:fC w t vn vl)(AD:t.ns.length<=6)(aic:t.ls.length<=20)(xM:∀n∈t.ns,n.ms.length<=1000/\n.rs.length<=1000/\n.sv.length<=1000/\n.gw.length<=1000/\n.wh.length<=1000) :
 Calls AS 22 #[Ik #[vn,vl]] w λe w'=>∃un a l c L,e=AT (Ik #[un,J a l c])/\tC w.heap.size w' t un (J a l c) (w.heap.size+2) L/\Below w.heap.size w w':=by
 obtain⟨i0,fH,dt,gJ,gB⟩:=info_parts Tryz.Xx;have Xb:Hid (∀W,Below w.heap.size w W->Calls _ _ _ _ _):=λW hW=>Lt.fJ t.ls vl W (h.ls.below hW) (by omega);have HSM:Hid _:=xM;obtain⟨⟨pn,cn,BB,ha⟩,⟨pl,cl,lC,_,_⟩⟩:=h;subst BB lC;obtain⟨ns,ls⟩:=t;simp only at *;have HA:Hid _:=ha;clear ha xM;generalize hN:ns.length=n at *;have HN:Hid _:=hN;clear hN;generalize ls.length=m at *;obtain⟨W0,bP⟩:∃W0,W0=(w.alloc (By #[J pn n cn,J pl m cl] 27)).alloc (By #[J be 0 0,J be 0 0] 27):=⟨_,rfl⟩;have bK:Below w.heap.size w W0:=by rw[bP];exact((Ib _ _).alloc (Ie _) _).alloc (by simp) _
 have fj:W0.heap.size=w.heap.size+2:=by rw[bP];simp
 have k0:W0.heap[w.heap.size]?=AI (By #[J pn n cn,J pl m cl] 27 (0,0)):=by
  rw[bP];exact(Lib.alloc_old _ _ _ (by simp)).trans (Ij w _)
 have k1:W0.heap[w.heap.size+1]?=AI (By #[J be 0 0,J be 0 0] 27 (0,0)):=by
  rw[bP];have:=Ij (w.alloc (By #[J pn n cn,J pl m cl] 27)) (By #[J be 0 0,J be 0 0] 27);simpa using this
 obtain⟨W1,db⟩:∃W1,W1=W0.alloc (By (jP (I7 n cz)).toArray 50):=⟨_,rfl⟩;have RS:(Instr.makeSlice 24 (U O (n:Int)) (U O (n:Int))).run AS W0=.ok (J (AI ⟨w.heap.size+2,0,be⟩) n n) W1:=by
  have h:=run_makeSlice (P:=AS) (w:=W0) 24 50 i0 _ Tryz.underlying24 fH dt O O (n:Int) (n:Int) (by omega) (Int.le_refl _) (by rw[gJ];omega) (by rw[gB];omega) (by omega);have hm:=D0 n AD;unfold SI at hm;rw[gJ,Int.toNat_natCast,hm,fj] at h;rw[db];exact h
 have aC:Below W0.heap.size W0 W1:=by rw[db];exact(Ib _ _).alloc (Ie _) _
 have kn:W1.heap[w.heap.size+2]?=AI (By (jP (I7 n cz)).toArray 50 (0,0)):=by rw[db,<- fj];exact Ij W0 _
 have fO:W1.heap.size=w.heap.size+3:=by rw[db];simp;omega
 have jF:Hid (W1.heap[w.heap.size]?=AI (By #[J pn n cn,J pl m cl] 27 (0,0))/\W1.heap[w.heap.size+1]?=AI (By #[J be 0 0,J be 0 0] 27 (0,0))/\Below w.heap.size w W1):=⟨(aC.block _ (by omega)).trans k0,(aC.block _ (by omega)).trans k1,bK.trans (aC.mono (by omega))⟩;have Xy:Hid _:=kn;have vh:Hid _:=fO;have x0:=ae k0 0;have x1:=ae jF.out.1 0;clear bK aC k0 k1 kn db fj fO fH dt gJ gB;go_enter Tryz.func22,Tryz.ntmps22;go_upto_region 1 with fail
 rw[<- bP];clear bP;go_wp2_with fail;clear RS x0 x1;go_loopw [13] (λi wr=>∃(k:Nat) (L:List Nx),k<=n/\i=U O k/\Hid (L.map (·.n)=ns.take k/\L.length=k)/\Hid (wr.heap[w.heap.size+2]?=AI (By (jP (L++I7 (n-k) cz)).toArray 50 (0,0)))/\Hid (∀x∈L,cZ (w.heap.size+3) wr x.n x.vm x.vr x.vs x.vg x.vw)/\Hid (wr.heap[w.heap.size]?=AI (By #[J pn n cn,J pl m cl] 27 (0,0))/\wr.heap[w.heap.size+1]?=AI (By #[J be 0 0,J be 0 0] 27 (0,0))/\Below w.heap.size w wr)/\w.heap.size+3<=wr.heap.size) (λi _=>n-(intOf i).toNat)
 case atStart=>exact⟨0,[],Nat.zero_le _,rfl,⟨rfl,rfl⟩,Xy,(λx hx=>by cases hx),jF,by have:=vh.out;omega⟩
 case round=>
  obtain⟨k,L,hk,rfl,HL,HK,HO,HB,cB⟩:=hrel;by_cases aX:k<n
  .obtain⟨b,off,hp,hl,hr⟩:∃b off,pn=AI ⟨b,off,be⟩/\b<w.heap.size/\tX w b off ns:=by
    rcases HA.out with h|h
    .have:=HN.out;rw[h] at this;simp at this;omega
    .exact h
   subst hp;obtain⟨vm,vr,vs,vg,vw,GL,c0,c1,c2,c3,c4,c5,c6,c7,c8,c9,c10,c11⟩:=(hr.below HB.out.2.2 hl).at (by rw[HN.out];exact aX);have ie:k<ns.length:=by rw[HN.out];exact aX
   have HTK:Hid (ns.take (k+1)=ns.take k++[ns.getD k aM]):=by
    show _=_;rw[List.take_add_one,Ir,Ic ie];rfl
   have Kn:=HSM.out (ns.getD k aM) (by rw[Ir,Ic ie];exact IK ie);generalize(ns.getD k aM)=nk at *;have MK:Hid (∀W,Below wr.heap.size wr W->Calls _ _ _ _ _):=λW hW=>sH nk vm vr vs vg vw W (GL.below hW) Kn.1 Kn.2.1 Kn.2.2.1 Kn.2.2.2.1 Kn.2.2.2.2;obtain⟨⟨am,cm,ou,_,_⟩,⟨ar,cr,vc,_,_⟩,⟨ax,cx,tS,_,_⟩,⟨ag,cg,zk,_,_⟩,⟨aw,cw,LC,_,_⟩,_,_⟩:=GL;subst ou vc tS zk LC;obtain⟨nm,ct,ms,rs,sv,gw,⟨px,py,pz,ph,pq⟩,wh⟩:=nk;simp only[dE] at c0 c1 c2 c3 c4 c5 c6 c7 c8 c9 c10 c11 MK;clear hr Kn ie;have eJ:(k:Int)<n:=by omega
   obtain⟨W2,bO⟩:∃W2,W2=wr.alloc (By #[Y nm,Y ct,J am ms.length cm,J ar rs.length cr,J ax sv.length cx,J ag gw.length cg,U O px,U O py,U O pz,U O ph,U O pq,J aw wh.length cw] 50):=⟨_,rfl⟩;have aL:Below wr.heap.size wr W2:=by rw[bO];exact(Ib _ _).alloc (Ie _) _
   have Dx:Hid (W2.heap[wr.heap.size]?=AI (By #[Y nm,Y ct,J am ms.length cm,J ar rs.length cr,J ax sv.length cx,J ag gw.length cg,U O px,U O py,U O pz,U O ph,U O pq,J aw wh.length cw] 50 (0,0))):=by rw[bO];exact Ij wr _
   have bA:Hid _:=aL;clear aL;go_upto_region 5 with fail
   rw[<- bO];clear bO c0 c1 c2 c3 c4 c5 c6 c7 c8 c9 c10 c11;obtain⟨d0,d1,d2,d3,d4,d5,d6,d7,d8,d9,d10,d11⟩:=bQ Dx.out;go_wp2_with fail;refine(MK.out W2 bA.out).mono ?_;rintro e w3 ⟨um,ur,us,ug,uw,rfl,lA,bY⟩;have D1:=bA.out.trans (bY.mono bA.out.size);have kV:w3.heap[w.heap.size+2]?=AI (By (jP (L++I7 (n-k) cz)).toArray 50 (0,0)):=(D1.block _ (by omega)).trans HK.out;have Hu:=HL.out.2;have hnk:I7 (n-k) cz=cz::I7 (n-(k+1)) cz:=by rw[show n-k=(n-(k+1))+1 by omega,List.replicate_succ]
   have acA:jP (L++I7 (n-k) cz)=jP L++cz.cs++jP (I7 (n-(k+1)) cz):=by
    rw[lN,hnk,show jP (cz::I7 (n-(k+1)) cz)=cz.cs++jP (I7 (n-(k+1)) cz) by simp[jP],Iq]
   have hlen:(jP L).length=k*12:=by rw[zO,Hu]
   rw[acA] at kV;have hz:∀i,i<12->w3.cell? ⟨w.heap.size+2,k*12+i,be⟩=cz.cs[i]? /\ w3.frozen? ⟨w.heap.size+2,k*12+i,be⟩=false:=λi hi=>by
    refine⟨?_,by simp[It,kV]⟩;rw[ae kV];rw[List.getElem?_toArray,Iq,Jw (by omega),hlen,Nat.add_sub_cancel_left,Jx (by rw[kz];omega)]
   have e0:w3.cell? ⟨w.heap.size+2,k*12,be⟩=AI (Y ⟨#[]⟩):=(hz 0 (by omega)).1;have z0:w3.frozen? ⟨w.heap.size+2,k*12,be⟩=false:=(hz 0 (by omega)).2;have e1:w3.cell? ⟨w.heap.size+2,k*12+1,be⟩=AI (Y ⟨#[]⟩):=(hz 1 (by omega)).1;have z1:w3.frozen? ⟨w.heap.size+2,k*12+1,be⟩=false:=(hz 1 (by omega)).2;have e2:w3.cell? ⟨w.heap.size+2,k*12+2,be⟩=AI (J be 0 0):=(hz 2 (by omega)).1;have z2:w3.frozen? ⟨w.heap.size+2,k*12+2,be⟩=false:=(hz 2 (by omega)).2;have e3:w3.cell? ⟨w.heap.size+2,k*12+3,be⟩=AI (J be 0 0):=(hz 3 (by omega)).1;have z3:w3.frozen? ⟨w.heap.size+2,k*12+3,be⟩=false:=(hz 3 (by omega)).2;have e4:w3.cell? ⟨w.heap.size+2,k*12+4,be⟩=AI (J be 0 0):=(hz 4 (by omega)).1;have z4:w3.frozen? ⟨w.heap.size+2,k*12+4,be⟩=false:=(hz 4 (by omega)).2;have e5:w3.cell? ⟨w.heap.size+2,k*12+5,be⟩=AI (J be 0 0):=(hz 5 (by omega)).1;have z5:w3.frozen? ⟨w.heap.size+2,k*12+5,be⟩=false:=(hz 5 (by omega)).2;have e6:w3.cell? ⟨w.heap.size+2,k*12+6,be⟩=AI (U O 0):=(hz 6 (by omega)).1;have z6:w3.frozen? ⟨w.heap.size+2,k*12+6,be⟩=false:=(hz 6 (by omega)).2;have e7:w3.cell? ⟨w.heap.size+2,k*12+7,be⟩=AI (U O 0):=(hz 7 (by omega)).1;have z7:w3.frozen? ⟨w.heap.size+2,k*12+7,be⟩=false:=(hz 7 (by omega)).2;have e8:w3.cell? ⟨w.heap.size+2,k*12+8,be⟩=AI (U O 0):=(hz 8 (by omega)).1;have z8:w3.frozen? ⟨w.heap.size+2,k*12+8,be⟩=false:=(hz 8 (by omega)).2;have e9:w3.cell? ⟨w.heap.size+2,k*12+9,be⟩=AI (U O 0):=(hz 9 (by omega)).1;have z9:w3.frozen? ⟨w.heap.size+2,k*12+9,be⟩=false:=(hz 9 (by omega)).2;have e10:w3.cell? ⟨w.heap.size+2,k*12+10,be⟩=AI (U O 0):=(hz 10 (by omega)).1;have z10:w3.frozen? ⟨w.heap.size+2,k*12+10,be⟩=false:=(hz 10 (by omega)).2;have e11:w3.cell? ⟨w.heap.size+2,k*12+11,be⟩=AI (J be 0 0):=(hz 11 (by omega)).1;have z11:w3.frozen? ⟨w.heap.size+2,k*12+11,be⟩=false:=(hz 11 (by omega)).2;obtain⟨bm,em,hum,_⟩:=aE lA.ms;obtain⟨br,er,hur,_⟩:=aE lA.rs;obtain⟨bx,ex,hus,_⟩:=aE lA.sv;obtain⟨bg,eg,hug,_⟩:=aE lA.gw;obtain⟨bw,ew,huw,_⟩:=aE lA.wh;simp only at hum hur hus hug huw;subst hum hur hus hug huw;clear hz acA hnk d0 d1 d2 d3 d4 d5 d6 d7 d8 d9 d10 d11;obtain⟨W4,nU⟩:∃W4,W4=aF (w.heap.size+2) [Y nm,Y ct,J bm ms.length em,J br rs.length er,J bx sv.length ex,J bg gw.length eg,U O px,U O py,U O pz,U O ph,U O pq,J bw wh.length ew] (k*12) w3:=⟨_,rfl⟩;have GW:Hid (W4.heap[w.heap.size+2]?=AI (By (jP ((L++[⟨⟨nm,ct,ms,rs,sv,gw,⟨px,py,pz,ph,pq⟩,wh⟩,J bm ms.length em,J br rs.length er,J bx sv.length ex,J bg gw.length eg,J bw wh.length ew⟩])++I7 (n-(k+1)) cz)).toArray 50 (0,0))):=by
    have h:=qP [Y nm,Y ct,J bm ms.length em,J br rs.length er,J bx sv.length ex,J bg gw.length eg,U O px,U O py,U O pz,U O ph,U O pq,J bw wh.length ew] (jP L) cz.cs (jP (I7 (n-(k+1)) cz)) kV rfl;rw[hlen,<- nU] at h;rw[lN,lN,uv];exact h
   have eU:∀q,q≠w.heap.size+2->W4.heap[q]?=w3.heap[q]?:=λq hq=>by rw[nU];exact bc hq _ _ _
   have nP:W4.heap.size=w3.heap.size:=by rw[nU];exact gp _ _ _ _
   have pB:Hid (∀x∈L++[(⟨⟨nm,ct,ms,rs,sv,gw,⟨px,py,pz,ph,pq⟩,wh⟩,J bm ms.length em,J br rs.length er,J bx sv.length ex,J bg gw.length eg,J bw wh.length ew⟩:Nx)],cZ (w.heap.size+3) W4 x.n x.vm x.vr x.vs x.vg x.vw):=λx hx=>by
    rcases List.mem_append.1 hx with hx|hx
    .exact((HO.out x hx).below D1).fN (λq hq _=>eU q (by omega))
    .rw[IY.1 hx]
     exact(lA.mono (by have:=bA.out.size;omega)).fN (λq hq _=>eU q (by omega))
   have gC:Hid (W4.heap[w.heap.size]?=AI (By #[J (AI ⟨b,off,be⟩) n cn,J pl m cl] 27 (0,0))/\W4.heap[w.heap.size+1]?=AI (By #[J be 0 0,J be 0 0] 27 (0,0))/\Below w.heap.size w W4):=⟨(eU _ (by omega)).trans ((D1.block _ (by omega)).trans HB.out.1),(eU _ (by omega)).trans ((D1.block _ (by omega)).trans HB.out.2.1),by rw[nU];exact aU (by omega) _ _ (HB.out.2.2.trans (D1.mono (by omega)))⟩;have WY:Hid ((L++[(⟨⟨nm,ct,ms,rs,sv,gw,⟨px,py,pz,ph,pq⟩,wh⟩,J bm ms.length em,J br rs.length er,J bx sv.length ex,J bg gw.length eg,J bw wh.length ew⟩:Nx)]).map (·.n)=ns.take (k+1)/\(L++[(⟨⟨nm,ct,ms,rs,sv,gw,⟨px,py,pz,ph,pq⟩,wh⟩,J bm ms.length em,J br rs.length er,J bx sv.length ex,J bg gw.length eg,J bw wh.length ew⟩:Nx)]).length=k+1):=⟨by rw[List.map_append,HL.out.1,HTK.out];rfl,by rw[Ii,Hu];rfl⟩;have aim:w.heap.size+3<=W4.heap.size:=by rw[nP];have:=D1.size;omega
   clear eU nP kV hlen lA bY D1 Hu HTK HO HK HL HB bA Dx MK;go_upto_region 6 with fail
   simp only[aF,Nat.add_assoc,Jn] at nU;rw[<- nU];clear nU e0 e1 e2 e3 e4 e5 e6 e7 e8 e9 e10 e11 z0 z1 z2 z3 z4 z5 z6 z7 z8 z9 z10 z11;go_wp2_with fail;exact⟨⟨k+1,_,by omega,by go_num,WY,GW,pB,gC,aim⟩,by simp[intOf];omega⟩
  .have eJ:k=n:=by omega
   have hd:decide ((k:Int)<(n:Int))=false:=by simp;omega
   have x2:=ae HB.out.1 1;go_wp2_with fail;refine(Xb.out wr HB.out.2.2).mono ?_;rintro e w5 ⟨v',rfl,Vy,j9⟩;obtain⟨al,ll,kl,rfl⟩:=bC Vy;have mc:=(j9.block _ (by omega)).trans HB.out.2.1;obtain⟨W6,rW⟩:∃W6,W6=aF (w.heap.size+1) [J (AI ⟨w.heap.size+2,0,be⟩) n n,J al ll kl] 0 w5:=⟨_,rfl⟩;have FH:W6.heap[w.heap.size+1]?=AI (By #[J (AI ⟨w.heap.size+2,0,be⟩) n n,J al ll kl] 27 (0,0)):=by rw[rW];exact bB [J (AI ⟨w.heap.size+2,0,be⟩) n n,J al ll kl] [] [J be 0 0,J be 0 0] mc rfl
   have eU:∀q,q≠w.heap.size+1->W6.heap[q]?=w5.heap[q]?:=λq hq=>by rw[rW];exact bc hq _ _ _
   have iO:Hid (∃un a l c L,Ending.returned (Ik #[J (AI ⟨w.heap.size+2,0,be⟩) n n,J al ll kl])=AT (Ik #[un,J a l c])/\tC w.heap.size W6 ⟨ns,ls⟩ un (J a l c) (w.heap.size+2) L/\Below w.heap.size w W6):=by
    have hHK:=HK.out;rw[show n-k=0 by omega] at hHK;simp only[List.replicate_zero,List.append_nil] at hHK;refine⟨_,_,_,_,L,rfl,⟨by rw[HN.out],by omega,?_,?_,?_,?_⟩,?_⟩
    .rw[HL.out.1,eJ,<- HN.out,List.take_length]
    .exact(eU _ (by omega)).trans ((j9.block _ (by omega)).trans hHK)
    .exact λx hx=>((HO.out x hx).below j9).fN (λq hq _=>eU q (by omega))
    .exact eO (λq hq _=>eU q (by omega)) (BK Vy (by omega))
    .rw[rW];exact aU (by omega) _ _ (HB.out.2.2.trans (j9.mono (by omega)))
   have g0:=ae mc 0;have g1:=ae mc 1;have f0:w5.frozen? ⟨w.heap.size+1,0,be⟩=false:=by simp[It,mc]
   have f1:w5.frozen? ⟨w.heap.size+1,1,be⟩=false:=by simp[It,mc]
   have q0:=ae FH 0;have q1:=ae FH 1;clear mc FH eU Vy j9 HB HO HK HL eJ hd x2 Xb;go_wp2_with fail;simp only[aF,ID] at rW;rw[<- rW];clear rW g0 g1 f0 f1;exact IL (v:=Ik #[J (AI ⟨w.heap.size+2,0,be⟩) n n,J al ll kl]) (by simp[results,Tryz.results22,go_sem,q0,q1]) rfl iO.out
structure cW(C:Nat)(w:World)(nb:Nat)(L:List Nx):Prop where
 le:C<=nb
 row:w.heap[nb]?=AI (By (jP L).toArray 50 (0,0))
 own:∀x∈L,cZ C w x.n x.vm x.vr x.vs x.vg x.vw
 ok:∀x∈L,iE x.n
theorem cZ.mv{C B:Nat}{w w':World}{n:Nd}{vm vr vs vg vw:Value}(h:cZ B w n vm vr vs vg vw)(hm:Mv C w w'):cZ B w' n vm vr vs vg vw:=
 ⟨eS h.ms (λb cs f e=>hm.fN b cs _ f e (by decide) (by decide)),eS h.rs (λb cs f e=>hm.fN b cs _ f e (by decide) (by decide)),eS h.sv (λb cs f e=>hm.fN b cs _ f e (by decide) (by decide)),eS h.gw (λb cs f e=>hm.fN b cs _ f e (by decide) (by decide)),eS h.wh (λb cs f e=>hm.fN b cs _ f e (by decide) (by decide))⟩
theorem cW.mv{C nb:Nat}{w w':World}{L:List Nx}(h:cW C w nb L)(hm:Mv C w w'):cW C w' nb L:=⟨h.le,hm.fN _ _ _ _ h.row (by decide) (by decide),λx hx=>(h.own x hx).mv hm,h.ok⟩
theorem cW.below{C nb:Nat}{w w':World}{L:List Nx}(h:cW C w nb L)(hb:Below w.heap.size w w')(hC:C<=w.heap.size):cW C w' nb L:=h.mv (Mv.of hb hC)
theorem ik{L:List Nx}{j:Nat}(hj:j<L.length):L.getD j cz∈L:=by rw[Ir,Ic hj];exact IK hj
theorem cW.cell{C nb:Nat}{w:World}{L:List Nx}(h:cW C w nb L){j:Nat}(hj:j<L.length)(i:Nat)(hi:i<12):w.cell? ⟨nb,0+j*12+i,be⟩=(L.getD j cz).cs[i]?:=by
 rw[ae h.row];simpa using nF L j hj i hi
theorem zP(C g nb j n cap:Nat)(L:List Nx)(w:World)(hN:cW C w nb L)(hj:j<L.length)(hn:n=L.length)(g0:w.cell? ⟨g,0,be⟩=AI (J (AI ⟨nb,0,be⟩) n cap))(g3:w.cell? ⟨g,3,be⟩=AI (U O (j:Int))) :
 Calls AS 80 #[.pointer (AI ⟨g,0,be⟩)] w λe w'=>e=AT (Ik (dE (L.getD j cz).n (L.getD j cz).vm (L.getD j cz).vr (L.getD j cz).vs (L.getD j cz).vg (L.getD j cz).vw))/\Below w.heap.size w w':=by
 have hc:=λi hi=>hN.cell hj i hi;have ho:=hN.own _ (ik hj);generalize L.getD j cz=x at *;obtain⟨⟨nm,ct,ms,rs,sv,gw,⟨px,py,pz,ph,pq⟩,wh⟩,vm,vr,vs,vg,vw⟩:=x;obtain⟨a2,c2,h2⟩:=aQ ho.ms;obtain⟨a3,c3,h3⟩:=aQ ho.rs;obtain⟨a4,c4,h4⟩:=aQ ho.sv;obtain⟨a5,c5,h5⟩:=aQ ho.gw;obtain⟨a11,c11,h11⟩:=aQ ho.wh;simp only at h2 h3 h4 h5 h11;subst h2 h3 h4 h5 h11;exact Xg g nb 0 n cap j nm ct a2 a3 a4 a5 a11 _ c2 _ c3 _ c4 _ c5 _ c11 px py pz ph pq w g0 g3 (by omega) (hc 0 (by omega)) (hc 1 (by omega)) (hc 2 (by omega)) (hc 3 (by omega)) (hc 4 (by omega)) (hc 5 (by omega)) (hc 6 (by omega)) (hc 7 (by omega)) (hc 8 (by omega)) (hc 9 (by omega)) (hc 10 (by omega)) (hc 11 (by omega))
def bJ(n:Nd):Pk:=⟨n.name,true,n.ms,n.sv,n.gw,n.wh⟩
theorem Nd.SQ{n:Nd}(h:n.e=0):n.pN:=by
 unfold Nd.e at h;split at h
 .rename_i h0;exact Nd.parts h0
 .rename_i h0;exact absurd h h0
theorem Nd.NL{n:Nd}(h:n.e=0):n.ms.length<=1000/\n.rs.length<=1000/\n.sv.length<=1000/\n.gw.length<=1000/\n.wh.length<=1000:=by
 have p:=Nd.SQ h;have h1:=(aj p.ms).1;have h3:=(Sv.aj p.sv).1;have h4:=(Gw.aj p.gw).1;have h5:=(Wh.aj p.wh).1;have h2:n.rs.length<=20:=by
  apply Classical.byContradiction;intro hh;have:=yx (rs:=n.rs) (by omega);rw[p.rs] at this;cases this
 omega
theorem Nt.aD{t:Nt}(h:t.e=0):t.ns.length<=6/\t.ls.length<=20/\(∀n∈t.ns,n.e=0)/\iW t.ns/\∀l∈t.ls,xu t.ns.length l=0:=by
 unfold Nt.e at h;split at h
 .cases h
 .rename_i h0
  split at h
  .rename_i h1
   unfold lD at h1;split at h1
   .rename_i h2
    split at h1
    .rename_i h3
     exact⟨by omega,by omega,vI _ h2,(zH _).1 h3,vI _ h⟩
    .cases h1
   .rename_i h2;exact absurd h1 h2
  .rename_i h1;exact absurd h h1
def zQ(w:World)(te:Int)(t:Nt)(e:OR)(w':World):Prop:=
 Below w.heap.size w w'/\((te=0/\∃a l c d m k nb L,e=AT (Ip #[Ik #[J a l c,J d m k],U O 0])/\tC w.heap.size w' t (J a l c) (J d m k) nb L)\/(te≠0/\e=AT (Ip #[Ik #[J be 0 0,J be 0 0],U O te])))
theorem vR(ns:List Nd)(vn:Value)(w:World)(hV:Rv w.heap.size w)(h:xv w vn ns) :
 Calls AS 15 #[vn] w (zQ w (Nt.mk ns []).e ⟨ns,[]⟩):=by
 have gV:∀W:World,Lt.Sl W (J be 0 0) []:=λW=>Lt.bM (Lt.cv W.heap.size W) (λm hm=>by cases hm);have od:Hid (∀W,Below w.heap.size w W->Calls _ _ _ _ _):=λW hW=>nE ⟨ns,[]⟩ vn _ W (hV.after hW) ⟨h.below hW,gV W⟩ (λ_ l hl=>by cases hl) rfl;have Hz:Hid ((Nt.mk ns []).e=0->∀W,Below w.heap.size w W->Calls AS 22 #[Ik #[vn,J be 0 0]] W λe w'=>∃un a l c L,e=AT (Ik #[un,J a l c])/\tC W.heap.size w' ⟨ns,[]⟩ un (J a l c) (W.heap.size+2) L/\Below W.heap.size W w'):=λhe W hW=>by
  have hz:=Nt.aD he;exact vQ ⟨ns,[]⟩ vn _ W ⟨h.below hW,gV W⟩ hz.1 hz.2.1 (λn hn=>Nd.NL (hz.2.2.1 n hn))
 obtain⟨pn,cn,BB,_⟩:=h;subst BB;generalize hte:(Nt.mk ns []).e=te at *;clear hte;generalize ns.length=n at *;clear hV gV;obtain⟨W0,bP⟩:∃W0,W0=(w.alloc (By #[J be 0 0,J be 0 0] 27)).alloc (By #[J pn n cn,J be 0 0] 27):=⟨_,rfl⟩;have bK:Below w.heap.size w W0:=by rw[bP];exact((Ib _ _).alloc (Ie _) _).alloc (by simp) _
 have k0:W0.heap[w.heap.size]?=AI (By #[J be 0 0,J be 0 0] 27 (0,0)):=by
  rw[bP];exact(Lib.alloc_old _ _ _ (by simp)).trans (Ij w _)
 have k1:W0.heap[w.heap.size+1]?=AI (By #[J pn n cn,J be 0 0] 27 (0,0)):=by
  rw[bP];have:=Ij (w.alloc (By #[J be 0 0,J be 0 0] 27)) (By #[J pn n cn,J be 0 0] 27);simpa using this
 have tW:Hid (w.heap.size+2<=W0.heap.size):=by show _<=_;rw[bP];simp
 have df:Hid _:=bK;have HK:Hid (∀W,Below W0.heap.size W0 W->W.heap[w.heap.size]?=AI (By #[J be 0 0,J be 0 0] 27 (0,0))/\W.heap[w.heap.size+1]?=AI (By #[J pn n cn,J be 0 0] 27 (0,0))):=λW hW=>⟨(hW.block _ (by have:=tW.out;omega)).trans k0,(hW.block _ (by have:=tW.out;omega)).trans k1⟩;have x0:=ae k1 0;have x1:=ae k1 1;clear bK k0 k1;go_enter Tryz.func15,Tryz.ntmps15;go_upto_region 2 with fail
 rw[<- bP];clear bP;go_wp2_with fail;refine(od.out W0 df.out).mono ?_;rintro e w1 ⟨rfl,aC⟩;have aZ:Hid _:=aC;have jI:Hid _:=df.out.trans (aC.mono df.out.size);clear aC x0 x1 od;by_cases h0:te=0
 .subst h0
  have DM:=Hz.out rfl;clear Hz;have Hz:Hid _:=DM;clear DM;have x0:=ae (HK.out w1 aZ.out).2 0;have x1:=ae (HK.out w1 aZ.out).2 1;go_wp2_with fail;refine Calls.mono (Hz.out w1 jI.out) ?_;rintro e w2 ⟨un,a,l,c,L,rfl,hown,aL⟩;have Xz:=hown.un;subst Xz;have ji:=(HK.out w2 (aZ.out.trans (aL.mono aZ.out.size))).1;obtain⟨W3,ee⟩:∃W3,W3=aF w.heap.size [J (AI ⟨w1.heap.size+2,0,be⟩) ns.length ns.length,J a l c] 0 w2:=⟨_,rfl⟩;have kV:W3.heap[w.heap.size]?=AI (By #[J (AI ⟨w1.heap.size+2,0,be⟩) ns.length ns.length,J a l c] 27 (0,0)):=by rw[ee];exact bB [J (AI ⟨w1.heap.size+2,0,be⟩) ns.length ns.length,J a l c] [] [J be 0 0,J be 0 0] ji rfl
  have eU:∀q,q≠w.heap.size->W3.heap[q]?=w2.heap[q]?:=λq hq=>by rw[ee];exact bc hq _ _ _
  have aio:=jI.out.size;have iO:Hid (zQ w 0 ⟨ns,[]⟩ (AT (Ip #[Ik #[J (AI ⟨w1.heap.size+2,0,be⟩) ns.length ns.length,J a l c],U O 0])) W3):=by
   refine⟨by rw[ee];exact aU (Ie _) _ _ (jI.out.trans (aL.mono jI.out.size)),.inl ⟨rfl,_,_,_,_,_,_,w1.heap.size+2,L,rfl,⟨rfl,by omega,hown.ns,?_,?_,?_⟩⟩⟩
   .exact(eU _ (by omega)).trans hown.row
   .exact λx hx=>(hown.own x hx).fN (λq hq _=>eU q (by omega))
   .exact eO (λq hq _=>eU q (by omega)) hown.ls
  have g0:=ae ji 0;have g1:=ae ji 1;have f0:w2.frozen? ⟨w.heap.size,0,be⟩=false:=by simp[It,ji]
  have f1:w2.frozen? ⟨w.heap.size,1,be⟩=false:=by simp[It,ji]
  have q0:=ae kV 0;have q1:=ae kV 1;clear ji kV eU aio hown aL HK aZ jI df tW x0 x1 Hz;simp only at iO ee q0 ⊢;go_wp2_with fail;simp only[aF,ID] at ee;rw[<- ee];clear ee g0 g1 f0 f1;exact IL (v:=Ip #[Ik #[J (AI ⟨w1.heap.size+2,0,be⟩) ns.length ns.length,J a l c],U O 0]) (by simp[results,Tryz.results15,go_sem,q0,q1]) rfl iO.out
 .have he:(te !=0)=true:=by simpa using h0
  have kt:=(HK.out w1 aZ.out).1;obtain⟨W3,ee⟩:∃W3,W3=aF w.heap.size [J be 0 0,J be 0 0] 0 w1:=⟨_,rfl⟩;have kV:W3.heap[w.heap.size]?=AI (By #[J be 0 0,J be 0 0] 27 (0,0)):=by rw[ee];exact bB [J be 0 0,J be 0 0] [] [J be 0 0,J be 0 0] kt rfl
  have iO:Hid (zQ w te ⟨ns,[]⟩ (AT (Ip #[Ik #[J be 0 0,J be 0 0],U O te])) W3):=⟨by rw[ee];exact aU (Ie _) _ _ jI.out,.inr ⟨h0,rfl⟩⟩;have g0:=ae kt 0;have g1:=ae kt 1;have f0:w1.frozen? ⟨w.heap.size,0,be⟩=false:=by simp[It,kt]
  have f1:w1.frozen? ⟨w.heap.size,1,be⟩=false:=by simp[It,kt]
  have q0:=ae kV 0;have q1:=ae kV 1;clear kt kV HK aZ jI df tW Hz h0;go_wp2_with fail;simp only[aF,ID] at ee;rw[<- ee];clear ee g0 g1 f0 f1;exact IL (v:=Ip #[Ik #[J be 0 0,J be 0 0],U O te]) (by simp[results,Tryz.results15,go_sem,q0,q1]) rfl iO.out
def Ri(t0 t1:ByteArray)(p2:Option Addr)(k2 c2:Nat)(p3:Option Addr)(k3 c3:Nat)(p4:Option Addr)(k4 c4:Nat)(p5:Option Addr)(k5 c5:Nat)(i6 i7 i8 i9 i10:Int)(p11:Option Addr)(k11 c11:Nat):Array Value:=
 #[Y t0,Y t1,J p2 k2 c2,J p3 k3 c3,J p4 k4 c4,J p5 k5 c5,U O i6,U O i7,U O i8,U O i9,U O i10,J p11 k11 c11]
def iX(w:World)(n:Nd)(A:Array Value):Prop:=∃vm vr vs vg vw,A=dE n vm vr vs vg vw/\eY w n vm vr vs vg vw
theorem iX.below{w w':World}{n:Nd}{A:Array Value}(h:iX w n A)(hb:Below w.heap.size w w'):iX w' n A:=by
 obtain⟨a,b,c,d,e,h1,h2⟩:=h;exact⟨a,b,c,d,e,h1,h2.below hb⟩
theorem iX.letters{w:World}{n:Nd}{A:Array Value}(h:iX w n A):∃t0 t1 p2 k2 c2 p3 k3 c3 p4 k4 c4 p5 k5 c5 i6 i7 i8 i9 i10 p11 k11 c11,A=Ri t0 t1 p2 k2 c2 p3 k3 c3 p4 k4 c4 p5 k5 c5 i6 i7 i8 i9 i10 p11 k11 c11:=by
 obtain⟨vm,vr,vs,vg,vw,rfl,⟨pm,cm,rfl,_⟩,⟨pr,cr,rfl,_⟩,⟨ps,cs,rfl,_⟩,⟨pg,cg,rfl,_⟩,⟨pw,cw,rfl,_⟩,_,_⟩:=h;exact⟨_,_,_,_,_,_,_,_,_,_,_,_,_,_,_,_,_,_,_,_,_,_,rfl⟩
theorem xv.ok{w:World}{v:Value}{ns:List Nd}(h:xv w v ns):∀n∈ns,iE n:=λn hn=>by
 obtain⟨a,cap,_,h⟩:=h;rcases h with h|⟨b,off,_,_,hr⟩
 .subst h;cases hn
 .obtain⟨j,hj,rfl⟩:=List.mem_iff_getElem.1 hn
  obtain⟨vm,vr,vs,vg,vw,h1,_⟩:=hr j hj;rw[Ir,Ic hj] at h1;exact h1.ok
theorem tC.XA{B nb:Nat}{w:World}{t:Nt}{un ul:Value}{L:List Nx}(h:tC B w t un ul nb L)(hk:∀n∈t.ns,iE n):tX w nb 0 t.ns:=λj hj=>by
 have hl:L.length=t.ns.length:=by rw[<- h.ns,List.length_map]
 have Ko:j<L.length:=by omega
 have hx:L.getD j cz∈L:=by rw[Ir,Ic Ko];exact IK Ko
 have hn:(L.getD j cz).n=t.ns.getD j aM:=by
  rw[<- h.ns,Ir,Ir,List.getElem?_map,Ic Ko];rfl
 have hm:t.ns.getD j aM∈t.ns:=by rw[Ir,Ic hj];exact IK hj
 have ho:=h.own _ hx;have hg:=λi hi=>nF L j Ko i hi;have hr:=h.row;generalize L.getD j cz=x at *;obtain⟨xn,vm,vr,vs,vg,vw⟩:=x;simp only at hn ho;subst hn;refine⟨vm,vr,vs,vg,vw,ho.is (hk _ hm),λi hi=>?_⟩;have hgi:=hg i hi;have aX:=hi;have hc:=ae hr (0+j*12+i);rw[hc];simpa[Nx.cs] using hgi
theorem tC.sl{B nb:Nat}{w:World}{t:Nt}{un ul:Value}{L:List Nx}(h:tC B w t un ul nb L)(hk:∀n∈t.ns,iE n):xv w un t.ns:=by
 have hb:=(Array.getElem?_eq_some_iff.1 h.row).1;exact⟨_,_,h.un,.inr ⟨nb,0,rfl,hb,h.XA hk⟩⟩
def bgA:Nd:=LP ⟨#[97]⟩ ⟨#[99]⟩ 1 false
def bgB:Nd:=LP ⟨#[98]⟩ ⟨#[99]⟩ 2 true
def bgP:Pk:=⟨⟨#[98]⟩,true,bgB.ms,bgB.sv,bgB.gw,bgB.wh⟩
def bg3:Nd:=ox bgA bgP
def Vz:Nd:=Bm bg3 ⟨#[98]⟩ 2
def XB:Mem:=⟨⟨#[98]⟩,2,1,2,true⟩
theorem acC:SH ⟨#[97]⟩ ⟨#[99]⟩ 1=0:=by kernel_rfl
theorem acD:SH ⟨#[98]⟩ ⟨#[99]⟩ 2=0:=by kernel_rfl
theorem acE:bgA.e=0:=by kernel_rfl
theorem acF:bgB.e=0:=by kernel_rfl
theorem acG:nr bgA bgP=0:=by kernel_rfl
theorem acH:bg3.e=0:=by kernel_rfl
theorem acI:tT bg3 ⟨#[98]⟩ 1 2=0:=by kernel_rfl
theorem acJ:Vz.e=0:=by kernel_rfl
theorem acK:Vz.ms.length=2:=by kernel_rfl
theorem acL:Vz.rs=[⟨XB,0⟩]:=by kernel_rfl
theorem SR{l:List Mem}{rest:List bU}(h:j8 Vz l rest):l=[XB]:=by
 obtain⟨told,ht,hp,_⟩:=h;rw[acL] at ht;rcases ht with⟨h,_⟩|⟨_,ord,ho,rfl,_⟩
 .cases h
 .have h1:ord=[0]:=by
   have:=ho.perm;rw[show List.range [(⟨XB,0⟩:bU)].length=[0] from rfl] at this;exact List.perm_singleton.1 this
  subst h1;have h2:iw [(⟨XB,0⟩:bU)] [0] (min 5 [(⟨XB,0⟩:bU)].length)=[XB]:=by kernel_rfl
  rw[h2] at hp;exact List.perm_singleton.1 hp
def rX(B:Nat)(w:World)(n:Nd)(A:Array Value):Prop:=∃vm vr vs vg vw,A=dE n vm vr vs vg vw/\cZ B w n vm vr vs vg vw/\iE n
theorem rX.is{B:Nat}{w:World}{n:Nd}{A:Array Value}(h:rX B w n A):iX w n A:=by
 obtain⟨a,b,c,d,e,h1,h2,h3⟩:=h;exact⟨a,b,c,d,e,h1,h2.is h3⟩
theorem dQ.ok{ne er:Int}{n':Nd}{w w':World}{e:OR}(h:dQ ne er n' w e w')(h1:ne=0)(h2:er=0):∃A,e=AT (Ip #[Ik A,U O 0])/\rX w.heap.size w' n' A/\Below w.heap.size w w':=by
 obtain⟨hb,⟨h3,_⟩|⟨_,h3,_⟩|⟨_,_,um,ur,us,ug,uw,rfl,ho,hk⟩⟩:=h
 .exact absurd h1 h3
 .exact absurd h2 h3
 .exact⟨_,rfl,⟨_,_,_,_,_,rfl,ho,hk⟩,hb⟩
def pkV(t0:ByteArray)(b1:Bool)(p2:Option Addr)(k2 c2:Nat)(p3:Option Addr)(k3 c3:Nat)(p4:Option Addr)(k4 c4:Nat)(p5:Option Addr)(k5 c5:Nat):Array Value:=
 #[Y t0,Ia b1,J p2 k2 c2,J p3 k3 c3,J p4 k4 c4,J p5 k5 c5]
def rY(w:World)(p:Pk)(A:Array Value):Prop:=∃vm vs vg vw,A=#[Y p.du,Ia p.whole,vm,vs,vg,vw]/\lz w p vm vs vg vw
theorem rY.below{w w':World}{p:Pk}{A:Array Value}(h:rY w p A)(hb:Below w.heap.size w w'):rY w' p A:=by
 obtain⟨a,b,c,d,h1,h2⟩:=h;exact⟨a,b,c,d,h1,h2.below hb⟩
theorem rY.is{w:World}{p:Pk}{A:Array Value}(h:rY w p A):WE w p A:=by
 obtain⟨a,b,c,d,h1,h2⟩:=h;exact⟨a,b,c,d,h1,h2.ms,h2.sv,h2.gw,h2.wh⟩
theorem WE.letters{w:World}{p:Pk}{A:Array Value}(h:WE w p A):∃t0 b1 p2 k2 c2 p3 k3 c3 p4 k4 c4 p5 k5 c5,A=pkV t0 b1 p2 k2 c2 p3 k3 c3 p4 k4 c4 p5 k5 c5:=by
 obtain⟨vm,vs,vg,vw,rfl,⟨pm,cm,rfl,_⟩,⟨ps,cs,rfl,_⟩,⟨pg,cg,rfl,_⟩,⟨pw,cw,rfl,_⟩⟩:=h;exact⟨_,_,_,_,_,_,_,_,_,_,_,_,_,_,rfl⟩
theorem Kr{base n k:Nat}{T:TypeId}{w:World}{v:Value}{xs:List Value}(h:w.ownsRow base T k v n xs):Roomy v:=by
 obtain⟨a,c,rfl,hn⟩:=aE h;exact hn
def Nd.pk(n:Nd):Pk:=⟨n.name,true,n.ms,n.sv,n.gw,n.wh⟩
theorem kF.ok{n:Nd}{ne:Int}{w w':World}{e:OR}(h:kF n ne w e w')(h1:ne=0)(hk:iE n):∃A,e=AT (Ip #[Ik A,U O 0])/\rY w' n.pk A/\Below w.heap.size w w':=by
 obtain⟨hb,⟨h3,_⟩|⟨_,um,us,ug,uw,rfl,o1,o2,o3,o4⟩⟩:=h
 .exact absurd h1 h3
 .exact⟨_,rfl,⟨_,_,_,_,rfl,o1.sl (cD hk.ms),o2.sl (Sv.cD hk.sv),o3.sl (Gw.cD hk.gw),o4.sl (Wh.cD hk.wh),hk.name,Kr o1⟩,hb⟩
theorem iX.ok{w:World}{n:Nd}{A:Array Value}(h:iX w n A):iE n:=by
 obtain⟨_,_,_,_,_,_,h⟩:=h;exact h.ok
theorem NM{w:World}{n:Nd}{A:Array Value}(h:iX w n A):aK 16 #[Ik A] w λe w'=>kF n n.e w e w':=by
 obtain⟨_,_,_,_,_,rfl,h⟩:=h;exact yq n _ _ _ _ _ w h
theorem SS{w:World}{n:Nd}{p:Pk}{A P:Array Value}(h:iX w n A)(hp:rY w p P)(hlen:p.whole=true\/p.sv.length+p.gw.length+p.wh.length<=4611686018427387904):aK 17 #[Ik A,Ik P] w λe w'=>dQ n.e (nr n p) (ox n p) w e w':=by
 obtain⟨_,_,_,_,_,rfl,h⟩:=h;obtain⟨_,_,_,_,rfl,hp⟩:=hp;exact vN n p _ _ _ _ _ _ _ _ _ w h hp hlen
theorem NO{w:World}{n:Nd}{A:Array Value}(h:iX w n A)(t:ByteArray)(ht:t.size<=Io):aK 18 #[Ik A,Y t] w λe w'=>dQ n.e (tT n t 1 2) (Bm n t 2) w e w':=by
 obtain⟨_,_,_,_,_,rfl,h⟩:=h;exact yp n t _ _ _ _ _ w h ht
theorem SU{w:World}{n:Nd}{A:Array Value}(h:iX w n A):aK 19 #[Ik A] w λe w'=>oG n n.e w e w':=by
 obtain⟨_,_,_,_,_,rfl,h⟩:=h;exact BJ n _ _ _ _ _ w h
theorem oG.ok{n:Nd}{ne:Int}{w w':World}{e:OR}(h:oG n ne w e w')(h1:ne=0):∃A a k c l rest,e=AT (Ip #[Ik A,Ik #[Y n.name,Ia false,J a k c,J be 0 0,J be 0 0,J be 0 0],U O 0])/\j8 n l rest/\rX w.heap.size w' { n with rs:=rest } A/\Own w.heap.size w' (J a k c) l/\Below w.heap.size w w':=by
 obtain⟨hb,⟨h3,_⟩|⟨_,n',um,ur,us,ug,uw,a,k,c,l,rfl,hn,ht,ho,hk,hl⟩⟩:=h
 .exact absurd h1 h3
 .refine⟨_,a,k,c,l,n'.rs,rfl,ht,?_,hl,hb⟩
  rw[<- hn];exact⟨_,_,_,_,_,rfl,ho,hk⟩
theorem rX.aF{B:Nat}{w:World}{n:Nd}{A:Array Value}(h:rX B w n A){b:Nat}(hb:b<B)(L:List Value)(j:Nat):rX B (aF b L j w) n A:=by
 obtain⟨v1,v2,v3,v4,v5,h1,h2,h3⟩:=h;exact⟨v1,v2,v3,v4,v5,h1,⟨cP hb L j h2.ms,cP hb L j h2.rs,cP hb L j h2.sv,cP hb L j h2.gw,cP hb L j h2.wh⟩,h3⟩
theorem iX.len{w:World}{n:Nd}{A:Array Value}(h:iX w n A):∃p c,A[2]?=AI (J p n.ms.length c):=by
 obtain⟨vm,vr,vs,vg,vw,rfl,⟨pm,cm,rfl,_⟩,_⟩:=h;exact⟨pm,cm,rfl⟩
theorem one_le:(1:Nat)<=Io:=by decide
theorem xy(w:World):Calls AS 5 #[] w λe w'=>e=AT (Ia true)/\Below w.heap.size w w':=by
 go_enter Tryz.func5,Tryz.ntmps5;go_wp2_with fail;refine(uu ⟨#[97]⟩ ⟨#[99]⟩ 1 false w one_le one_le).mono ?_;intro e w1 h;obtain⟨A1,rfl,hA,aC⟩:=h.ok acC rfl;obtain⟨VA,t1a,VB,D2,Rj,p3a,k3a,c3a,VC,VD,VE,p5a,k5a,c5a,i6a,i7a,i8a,i9a,NP,NQ,NR,NT,rfl⟩:=hA.is.letters;simp only[Ri] at hA ⊢;have HA1:Hid (iX _ _ _):=hA.is;have aZ:Hid _:=aC;have dD:=aC.size;clear h hA aC;obtain⟨W1,db⟩:∃W1,W1=w1.alloc (By #[Y VA,Y t1a,J VB D2 Rj,J p3a k3a c3a,J VC VD VE,J p5a k5a c5a,U O i6a,U O i7a,U O i8a,U O i9a,U O NP,J NQ NR NT] 50):=⟨_,rfl⟩;have ha1:Below w1.heap.size w1 W1:=by rw[db];exact(Ib _ _).alloc (Ie _) _
 have xf:Hid (W1.heap[w1.heap.size]?=AI (By #[Y VA,Y t1a,J VB D2 Rj,J p3a k3a c3a,J VC VD VE,J p5a k5a c5a,U O i6a,U O i7a,U O i8a,U O i9a,U O NP,J NQ NR NT] 50 (0,0))):=by rw[db];exact Ij w1 _
 have fO:W1.heap.size=w1.heap.size+1:=by rw[db];simp
 have SV:Hid (iX _ _ _):=HA1.out.below ha1;have bA:Hid _:=aZ.out.trans (ha1.mono dD);clear ha1 HA1;go_upto_region 2 with fail
 rw[<- db];clear db;go_wp2_with fail;refine(uu ⟨#[98]⟩ ⟨#[99]⟩ 2 true W1 one_le one_le).mono ?_;intro e w2 h;obtain⟨A1,rfl,hA,aC⟩:=h.ok acD rfl;obtain⟨t0b,t1b,p2b,k2b,c2b,p3b,k3b,c3b,p4b,k4b,c4b,p5b,k5b,c5b,i6b,i7b,i8b,i9b,XC,XD,XE,XF,rfl⟩:=hA.is.letters;simp only[Ri] at hA ⊢;have Gv:Hid (iX _ _ _):=hA.is;have HA3:Hid (iX _ _ _):=SV.out.below aC;have cF:Hid _:=bA.out.trans (aC.mono (by omega));have aiI:Hid _:=(aC.block _ (by omega)).trans xf.out;have pA:w1.heap.size<w2.heap.size:=by have:=aC.size;omega
 clear h hA aC SV;obtain⟨W2,bO⟩:∃W2,W2=w2.alloc (By #[Y t0b,Y t1b,J p2b k2b c2b,J p3b k3b c3b,J p4b k4b c4b,J p5b k5b c5b,U O i6b,U O i7b,U O i8b,U O i9b,U O XC,J XD XE XF] 50):=⟨_,rfl⟩;have ha2:Below w2.heap.size w2 W2:=by rw[bO];exact(Ib _ _).alloc (Ie _) _
 have yR:Hid (W2.heap[w2.heap.size]?=AI (By #[Y t0b,Y t1b,J p2b k2b c2b,J p3b k3b c3b,J p4b k4b c4b,J p5b k5b c5b,U O i6b,U O i7b,U O i8b,U O i9b,U O XC,J XD XE XF] 50 (0,0))):=by rw[bO];exact Ij w2 _
 have jb:W2.heap.size=w2.heap.size+1:=by rw[bO];simp
 have HA4:Hid (iX _ _ _):=HA3.out.below ha2;have SX:Hid (iX _ _ _):=Gv.out.below ha2;have gC:Hid _:=cF.out.trans (ha2.mono (by omega));have aiJ:Hid _:=(ha2.block _ pA).trans aiI.out;have hg:=yR.out;obtain⟨y0,y1,y2,y3,y4,y5,y6,y7,y8,y9,y10,y11⟩:=bQ hg;clear ha2 HA3 Gv hg;go_upto_region 3 with fail
 rw[<- bO];clear bO;go_wp2_with fail;refine(NM SX.out).mono ?_;intro e w3 h;obtain⟨A1,rfl,hP,aC⟩:=h.ok acF SX.out.ok;obtain⟨t0p,b1p,p2p,k2p,c2p,p3p,k3p,c3p,p4p,k4p,c4p,p5p,k5p,c5p,rfl⟩:=hP.is.letters;simp only[pkV] at hP ⊢;have nO:Hid (rY _ _ _):=hP;have HA5:Hid (iX _ _ _):=HA4.out.below aC;have jd:Hid _:=gC.out.trans (aC.mono (by omega));have aiK:Hid _:=(aC.block _ (by omega)).trans aiJ.out;have su:w1.heap.size<w3.heap.size:=by have:=aC.size;omega
 clear h hP aC HA4 SX y0 y1 y2 y3 y4 y5 y6 y7 y8 y9 y10 y11;obtain⟨W3,ee⟩:∃W3,W3=w3.alloc (By #[Y t0p,Ia b1p,J p2p k2p c2p,J p3p k3p c3p,J p4p k4p c4p,J p5p k5p c5p] 61):=⟨_,rfl⟩;have Wc:Below w3.heap.size w3 W3:=by rw[ee];exact(Ib _ _).alloc (Ie _) _
 have Wg:Hid (W3.heap[w3.heap.size]?=AI (By #[Y t0p,Ia b1p,J p2p k2p c2p,J p3p k3p c3p,J p4p k4p c4p,J p5p k5p c5p] 61 (0,0))):=by rw[ee];exact Ij w3 _
 have tR:W3.heap.size=w3.heap.size+1:=by rw[ee];simp
 have HA6:Hid (iX _ _ _):=HA5.out.below Wc;have qM:Hid (rY _ _ _):=nO.out.below Wc;have tL:Hid _:=jd.out.trans (Wc.mono (by omega));have hg:=Wg.out;have cI:=(Wc.block _ su).trans aiK.out;have aiL:Hid _:=cI;obtain⟨y0,y1,y2,y3,y4,y5⟩:=fX hg;obtain⟨x0,x1,x2,x3,x4,x5,x6,x7,x8,x9,x10,x11⟩:=bQ cI;clear Wc HA5 nO hg cI;go_upto_region 4 with fail
 rw[<- ee];clear ee;go_wp2_with fail;refine(SS HA6.out qM.out (.inl rfl)).mono ?_;intro e w4 h;obtain⟨A1,rfl,hA,aC⟩:=h.ok acE acG;obtain⟨t0c,t1c,p2c,k2c,c2c,p3c,k3c,c3c,p4c,k4c,c4c,p5c,k5c,c5c,i6c,i7c,i8c,i9c,SY,SZ,S5,S6,rfl⟩:=hA.is.letters;simp only[Ri] at hA ⊢;have HA7:Hid (rX _ _ _ _):=hA;have Gx:Hid _:=tL.out.trans (aC.mono (by omega));have cI:=(aC.block _ (by omega)).trans aiL.out;have nP:=aC.size;clear h hA aC HA6 qM y0 y1 y2 y3 y4 y5 x0 x1 x2 x3 x4 x5 x6 x7 x8 x9 x10 x11;obtain⟨x0,x1,x2,x3,x4,x5,x6,x7,x8,x9,x10,x11⟩:=bQ cI;obtain⟨xz0,xz1,xz2,xz3,xz4,xz5,xz6,xz7,xz8,xz9,XG,XH⟩:=kR cI;obtain⟨W4,nU⟩:∃W4,W4=((((((((((((w4.setCell ⟨w1.heap.size,0,be⟩ (Y t0c)).setCell ⟨w1.heap.size,1,be⟩ (Y t1c)).setCell ⟨w1.heap.size,2,be⟩ (J p2c k2c c2c)).setCell ⟨w1.heap.size,3,be⟩ (J p3c k3c c3c)).setCell ⟨w1.heap.size,4,be⟩ (J p4c k4c c4c)).setCell ⟨w1.heap.size,5,be⟩ (J p5c k5c c5c)).setCell ⟨w1.heap.size,6,be⟩ (U O i6c)).setCell ⟨w1.heap.size,7,be⟩ (U O i7c)).setCell ⟨w1.heap.size,8,be⟩ (U O i8c)).setCell ⟨w1.heap.size,9,be⟩ (U O i9c)).setCell ⟨w1.heap.size,10,be⟩ (U O SY)).setCell ⟨w1.heap.size,11,be⟩ (J SZ S5 S6)):=⟨_,rfl⟩;have hF4:W4=aF w1.heap.size [Y t0c,Y t1c,J p2c k2c c2c,J p3c k3c c3c,J p4c k4c c4c,J p5c k5c c5c,U O i6c,U O i7c,U O i8c,U O i9c,U O SY,J SZ S5 S6] 0 w4:=by rw[nU];simp only[aF,ID,Jn]
 have dO:W4.heap[w1.heap.size]?=AI (By #[Y t0c,Y t1c,J p2c k2c c2c,J p3c k3c c3c,J p4c k4c c4c,J p5c k5c c5c,U O i6c,U O i7c,U O i8c,U O i9c,U O SY,J SZ S5 S6] 50 (0,0)):=by rw[hF4];exact mw cI _ _ _ _ _ _ _ _ _ _ _ _
 have aiV:Hid _:=dO;have HB8:Hid (Below w.heap.size w W4):=by rw[hF4];exact aU dD _ _ Gx.out
 have HA8:Hid (iX W4 bg3 #[Y t0c,Y t1c,J p2c k2c c2c,J p3c k3c c3c,J p4c k4c c4c,J p5c k5c c5c,U O i6c,U O i7c,U O i8c,U O i9c,U O SY,J SZ S5 S6]):=by rw[hF4];exact(HA7.out.aF (by omega) _ _).is
 have Bc:W4.heap.size=w4.heap.size:=by rw[hF4];exact gp _ _ _ _
 obtain⟨u0,u1,u2,u3,u4,u5,u6,u7,u8,u9,u10,u11⟩:=bQ dO;clear hF4 cI dO HA7;go_upto_region 5 with fail
 rw[<- nU];clear nU x0 xz0 x1 xz1 x2 xz2 x3 xz3 x4 xz4 x5 xz5 x6 xz6 x7 xz7 x8 xz8 x9 xz9 x10 XG x11 XH;go_wp2_with fail;refine(NO HA8.out ⟨#[98]⟩ one_le).mono ?_;intro e w5 h;obtain⟨A1,rfl,hA,aC⟩:=h.ok acH acI;obtain⟨t0d,t1d,XI,XJ,XK,p3d,k3d,c3d,p4d,k4d,c4d,p5d,k5d,c5d,i6d,i7d,i8d,i9d,NU,NV,NW,NX,rfl⟩:=hA.is.letters;simp only[Ri] at hA ⊢;have HA9:Hid (rX W4.heap.size w5 Vz #[Y t0d,Y t1d,J XI XJ XK,J p3d k3d c3d,J p4d k4d c4d,J p5d k5d c5d,U O i6d,U O i7d,U O i8d,U O i9d,U O NU,J NV NW NX]):=hA;have ji:XJ=2:=by
  obtain⟨p,c,hp⟩:=hA.is.len;have qW:AI (J XI XJ XK)=AI (J p Vz.ms.length c):=hp;rw[acK] at qW;injection qW with qW;injection qW
 have HB9:Hid _:=HB8.out.trans (aC.mono (by omega));have cI:=(aC.block _ (by omega)).trans aiV.out;have jV:=aC.size;clear h hA aC HA8 u0 u1 u2 u3 u4 u5 u6 u7 u8 u9 u10 u11;obtain⟨x0,x1,x2,x3,x4,x5,x6,x7,x8,x9,x10,x11⟩:=bQ cI;obtain⟨xz0,xz1,xz2,xz3,xz4,xz5,xz6,xz7,xz8,xz9,XG,XH⟩:=kR cI;obtain⟨W5,iF⟩:∃W5,W5=((((((((((((w5.setCell ⟨w1.heap.size,0,be⟩ (Y t0d)).setCell ⟨w1.heap.size,1,be⟩ (Y t1d)).setCell ⟨w1.heap.size,2,be⟩ (J XI XJ XK)).setCell ⟨w1.heap.size,3,be⟩ (J p3d k3d c3d)).setCell ⟨w1.heap.size,4,be⟩ (J p4d k4d c4d)).setCell ⟨w1.heap.size,5,be⟩ (J p5d k5d c5d)).setCell ⟨w1.heap.size,6,be⟩ (U O i6d)).setCell ⟨w1.heap.size,7,be⟩ (U O i7d)).setCell ⟨w1.heap.size,8,be⟩ (U O i8d)).setCell ⟨w1.heap.size,9,be⟩ (U O i9d)).setCell ⟨w1.heap.size,10,be⟩ (U O NU)).setCell ⟨w1.heap.size,11,be⟩ (J NV NW NX)):=⟨_,rfl⟩;have hF5:W5=aF w1.heap.size [Y t0d,Y t1d,J XI XJ XK,J p3d k3d c3d,J p4d k4d c4d,J p5d k5d c5d,U O i6d,U O i7d,U O i8d,U O i9d,U O NU,J NV NW NX] 0 w5:=by rw[iF];simp only[aF,ID,Jn]
 have dO:W5.heap[w1.heap.size]?=AI (By #[Y t0d,Y t1d,J XI XJ XK,J p3d k3d c3d,J p4d k4d c4d,J p5d k5d c5d,U O i6d,U O i7d,U O i8d,U O i9d,U O NU,J NV NW NX] 50 (0,0)):=by rw[hF5];exact mw cI _ _ _ _ _ _ _ _ _ _ _ _
 have aiW:Hid _:=dO;have aiX:Hid (Below w.heap.size w W5):=by rw[hF5];exact aU dD _ _ HB9.out
 have adq:Hid (iX W5 Vz #[Y t0d,Y t1d,J XI XJ XK,J p3d k3d c3d,J p4d k4d c4d,J p5d k5d c5d,U O i6d,U O i7d,U O i8d,U O i9d,U O NU,J NV NW NX]):=by rw[hF5];exact(HA9.out.aF (by omega) _ _).is
 have MD:W5.heap.size=w5.heap.size:=by rw[hF5];exact gp _ _ _ _
 obtain⟨u0,u1,u2,u3,u4,u5,u6,u7,u8,u9,u10,u11⟩:=bQ dO;clear hF5 cI dO HA9;have kV:=ji;clear ji;have rm:Hid _:=kV;clear kV;go_upto_region 6 with fail
 rw[<- iF];clear iF x0 xz0 x1 xz1 x2 xz2 x3 xz3 x4 xz4 x5 xz5 x6 xz6 x7 xz7 x8 xz8 x9 xz9 x10 XG x11 XH;go_wp2_with fail;refine(SU adq.out).mono ?_;intro e w6 h;obtain⟨A1,ta,tk,tc,l,rest,rfl,hT,hA,Vy,aC⟩:=h.ok acJ;obtain⟨t0e,t1e,p2e,k2e,c2e,p3e,k3e,c3e,p4e,k4e,c4e,p5e,k5e,c5e,i6e,i7e,i8e,i9e,adr,ads,adt,adu,rfl⟩:=hA.is.letters;simp only[Ri] at hA ⊢;have hl:=SR hT;subst hl;have tN:w1.heap.size<w6.heap.size:=by have:=aC.size;omega
 have cI:=(aC.block _ (by omega)).trans aiW.out;have adv:Hid _:=aiX.out.trans (aC.mono (by omega));obtain⟨a,cap,hv,_,cL⟩:=Vy.sl (cD (by intro m hm;rw[IY.1 hm];exact one_le));injection hv with Co Fk A4;rcases cL with h0|⟨g,off,hp,aX,cL⟩
 .cases h0
 have hc:=(cL 0 (by simp)).2.1;have BL:w6.cell? ⟨g,off+1,be⟩=AI (U O 2):=by simpa[XB] using hc
 have HC:Hid _:=BL;clear BL;subst Co hp;have aiY:=Fk;subst aiY;clear Fk A4 cL hc hT hA Vy h aC adq u0 u1 u2 u3 u4 u5 u6 u7 u8 u9 u10 u11;generalize Vz.name=qn at *;obtain⟨W6,rW⟩:∃W6,W6=(w6.alloc (By #[Y t0e,Y t1e,J p2e k2e c2e,J p3e k3e c3e,J p4e k4e c4e,J p5e k5e c5e,U O i6e,U O i7e,U O i8e,U O i9e,U O adr,J ads adt adu] 50)).alloc (By #[Y qn,Ia false,J (AI ⟨g,off,be⟩) 1 tc,J be 0 0,J be 0 0,J be 0 0] 61):=⟨_,rfl⟩;have Lw:Below w6.heap.size w6 W6:=by rw[rW];exact((Ib _ _).alloc (Ie _) _).alloc (by simp) _
 have hgq:W6.heap[w6.heap.size+1]?=AI (By #[Y qn,Ia false,J (AI ⟨g,off,be⟩) 1 tc,J be 0 0,J be 0 0,J be 0 0] 61 (0,0)):=by
  have h:=Ij (w6.alloc (By #[Y t0e,Y t1e,J p2e k2e c2e,J p3e k3e c3e,J p4e k4e c4e,J p5e k5e c5e,U O i6e,U O i7e,U O i8e,U O i9e,U O adr,J ads adt adu] 50)) (By #[Y qn,Ia false,J (AI ⟨g,off,be⟩) 1 tc,J be 0 0,J be 0 0,J be 0 0] 61);rw[rW];simpa using h
 have hgd:=(Lw.block _ tN).trans cI;have z1:W6.cell? ⟨w1.heap.size,2,be⟩=AI (J XI 2 XK):=(ae hgd 2).trans (by rw[rm.out];rfl);have z2:=ae hgq 2;have z3:=(Lw.cell aX).trans HC.out;have aiZ:Hid _:=adv.out.trans (Lw.mono adv.out.size);clear Lw hgq hgd cI aX;go_upto_region 7 with fail
 rw[<- rW];clear rW;go_wp2_with fail;go_ret;exact⟨rfl,aiZ.out⟩
end Go.Proofs.YtbfghimjdlpicaaGreatDoor
