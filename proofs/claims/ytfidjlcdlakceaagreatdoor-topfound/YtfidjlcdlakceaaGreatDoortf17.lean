import Derived.Test.YtfidjlcdlakceaaGreatDoortf16
import Derived.Test.YtfidjlcdlakceaaGreatDoortf6
set_option maxHeartbeats 1600000
set_option maxRecDepth 100000
open Go.Proofs.Tryz renaming prog→be
open Go.Value renaming string→I,agg→Im,int→O,bool→AI,slice→U,pointer→If,tuple→Il,ownBlock→I2
open Go.Ending renaming returned→sh
open Go.IntKind renaming i64→J
open Go.Obj renaming cells→AT
open Option renaming some→Z,none→Y
open Go renaming heap_alloc_new→Ie,wpAnyH_take→I4,bodyPost→Jk,maxLen→Ij,callFunc→Ot
open Go.RowKit.Below renaming refl→Ib
open Nat renaming le_refl→By,zero_le→II,le_trans→Ir,lt_of_lt_of_le→Iv,le_of_lt→J8
open Array renaming getElem?_eq_some_iff→Ia
open Go.AllReadyH renaming cons→Q9,nil→Uj
open List renaming getD→Io,getElem?_eq_getElem→Ic,length_append→Ii,append_assoc→I1,flatMap_cons→JY,mem_of_mem_take→Jm,length_take→Iu,mem_cons→Jd
open Go.Lib renaming strCells→Oi,byteCells→I8,byteCells_length→O1,alloc_old→I9
open Go.World renaming ownsRow_nil→Jp,frozen?→Ig
open ByteArray renaming size→JJ
namespace Go.Proofs.YtfidjlcdlakceaaGreatDoor
open Go.RowKit
def sr(r:Rc.Rec):Bool:=(decide (r.an=1)||decide (r.addr=0))&&((decide (r.an=16)||decide (r.text.size=0))&&(decide (r.an=33)||(decide (r.port=0)&&decide (r.target.size=0))))
def bL(r:Rc.Rec):Int:=
 if bT r.name≠0 then bT r.name
 else if gz r.an=false then 7
 else if within r.aK 0 2147483647=false then 3
 else if sr r=false then 1
 else if(within r.addr 0 4294967295&&within r.port 0 65535)=false then 3
 else if 200<r.text.size then 2
 else bT r.target
theorem xp(r:Rc.Rec):(jq r).name=r.name:=by unfold jq;split;rfl;split;rfl;split<;>rfl
theorem AA(r:Rc.Rec):(jq r).an=r.an:=by unfold jq;split;rfl;split;rfl;split<;>rfl
theorem tS(r:Rc.Rec):(jq r).aK=r.aK:=by unfold jq;split;rfl;split;rfl;split<;>rfl
theorem sS(s:ByteArray):s=⟨#[]⟩↔s.size=0:=⟨λh=>by rw[h];rfl,cO⟩
theorem Nr(r:Rc.Rec):Rc.kk r (jq r)=sr r:=by
 rw[Bool.eq_iff_iff,Rc.mZ];obtain⟨name,an,aK,addr,text,port,target⟩:=r;unfold jq sr;simp only;by_cases h1:an=1
 .subst h1;simp[sS]
 rw[if_neg h1];by_cases h2:an=16
 .subst h2;simp[sS]
 rw[if_neg h2];by_cases h3:an=33
 .subst h3;simp[sS]
 rw[if_neg h3];simp[h1,h2,h3,sS]
theorem su(r:Rc.Rec)(w:World)(hr:r.ok) :
 Calls be 73 #[mu r] w λe w'=>e=dW (bL r)/\Below w.heap.size w w':=by
 have HN:Hid (∀W,Calls be 71 #[I r.name] W λe w'=>e=dW (bT r.name)/\Below W.heap.size W w'):=λW=>j4 _ _ hr.1;have HT:Hid (∀W,Calls be 71 #[I r.target] W λe w'=>e=dW (bT r.target)/\Below W.heap.size W w'):=λW=>j4 _ _ hr.2.2;have HO:Hid (∀W,Calls be 123 #[mu r] W λe w'=>e=sh (Im #[I r.name,O J r.an,O J r.aK,O J (jq r).addr,I (jq r).text,O J (jq r).port,I (jq r).target])/\Below W.heap.size W w'):=λW=>by
  have h:=wD r W;unfold mu at h;rw[xp,AA,tS] at h;exact h
 generalize hE:bL r=E;unfold bL at hE;go_enter Tryz.func73,Tryz.ntmps73;go_wp2_with fail;have dt:(w.alloc (AT #[I r.name,O J r.an,O J r.aK,O J r.addr,I r.text,O J r.port,I r.target] 64)).heap[w.heap.size]?=Z (AT #[I r.name,O J r.an,O J r.aK,O J r.addr,I r.text,O J r.port,I r.target] 64 (0,0)):=Ie w _;refine(HN.out _).mono ?_;rintro e w1 ⟨rfl,al⟩;have bb:=(al.block w.heap.size (by simp)).trans dt;have aR:Hid (Below w.heap.size w w1):=((Ib _ _).alloc (By _) _).trans (al.mono (by simp));clear dt al;by_cases h1:bT r.name=0
 .rw[h1,ot]
  rw[if_neg (by simpa using h1)] at hE;have f1:w1.cell? ⟨w.heap.size,1,Y⟩=Z (O J r.an):=af bb 1;have f2:w1.cell? ⟨w.heap.size,2,Y⟩=Z (O J r.aK):=af bb 2;go_wp2_with fail;refine(mX _ _).mono ?_;rintro e w2 ⟨rfl,rH⟩;subst rH;rw[show(decide (r.an=1)||decide (r.an=16)||decide (r.an=33))=gz r.an from rfl];by_cases h2:gz r.an=false
  .rw[if_pos h2] at hE
   subst hE;rw[h2];go_wp2_with fail;refine(dd _ _).mono ?_;rintro e w3 ⟨rfl,rfl⟩;exact⟨rfl,rfl,aR.out⟩
  rw[if_neg h2] at hE;rw[show gz r.an=true by simpa using h2];go_wp2_with fail;refine(cy _ _).mono ?_;rintro e w3 ⟨rfl,zN⟩;subst zN;go_wp2_with fail;refine(bD _ _ _ _).mono ?_;rintro e w4 ⟨rfl,yD⟩;subst yD;by_cases h3:within r.aK 0 2147483647=false
  .rw[if_pos h3] at hE
   subst hE;rw[h3];go_wp2_with fail;refine(dd _ _).mono ?_;rintro e w5 ⟨rfl,rfl⟩;exact⟨rfl,rfl,aR.out⟩
  rw[if_neg h3] at hE;rw[show within r.aK 0 2147483647=true by simpa using h3];go_wp2_with fail;refine(cy _ _).mono ?_;rintro e w5 ⟨rfl,yE⟩;subst yE;have f0:w5.cell? ⟨w.heap.size,0,Y⟩=Z (I r.name):=af bb 0;have f3:w5.cell? ⟨w.heap.size,3,Y⟩=Z (O J r.addr):=af bb 3;have f4:w5.cell? ⟨w.heap.size,4,Y⟩=Z (I r.text):=af bb 4;have f5:w5.cell? ⟨w.heap.size,5,Y⟩=Z (O J r.port):=af bb 5;have f6:w5.cell? ⟨w.heap.size,6,Y⟩=Z (I r.target):=af bb 6;have heq:∀W,Sem.run be (binOp .eql 64 (Im #[I r.name,O J r.an,O J r.aK,O J r.addr,I r.text,O J r.port,I r.target]) (Im #[I r.name,O J r.an,O J r.aK,O J (jq r).addr,I (jq r).text,O J (jq r).port,I (jq r).target])) W=.ok (AI (sr r)) W:=λW=>by
   have h:=Rc.eqE r (jq r) W;rw[xp,AA,tS,Nr] at h;exact h
  have hl5:w.heap.size<w5.drew.heap.size:=(Ia.1 bb).1;generalize(jq r).addr=a' at *;generalize(jq r).text=t' at *;generalize(jq r).port=p' at *;generalize(jq r).target=g' at *;go_wp2_with fail;refine wp_region_held_drew (S:=λW=>W.heap[w.heap.size]?=Z (AT #[I r.name,O J r.an,O J r.aK,O J r.addr,I r.text,O J r.port,I r.target] 64 (0,0))) (by kernel_rfl) bb (λrJ=>?_);refine I4 (i:=0) (v:=mu r) rfl (by kernel_rfl) (by kernel_rfl) (by kernel_rfl) (λ_ _ _ h=>h) (Or.inl ⟨by rfl,?_⟩) (by assumption) ?_
  .intro W eH
   have d0:W.cell? ⟨w.heap.size,0,Y⟩=Z (I r.name):=af eH 0;have d1:W.cell? ⟨w.heap.size,1,Y⟩=Z (O J r.an):=af eH 1;have d2:W.cell? ⟨w.heap.size,2,Y⟩=Z (O J r.aK):=af eH 2;have d3:W.cell? ⟨w.heap.size,3,Y⟩=Z (O J r.addr):=af eH 3;have d4:W.cell? ⟨w.heap.size,4,Y⟩=Z (I r.text):=af eH 4;have d5:W.cell? ⟨w.heap.size,5,Y⟩=Z (O J r.port):=af eH 5;have d6:W.cell? ⟨w.heap.size,6,Y⟩=Z (I r.target):=af eH 6;go_simp
  refine I4 (i:=1) (v:=mu r) rfl (by kernel_rfl) (by kernel_rfl) (by kernel_rfl) (λ_ _ _ h=>h) (Or.inl ⟨by rfl,?_⟩) (by assumption) ?_
  .intro W eH
   have d0:W.cell? ⟨w.heap.size,0,Y⟩=Z (I r.name):=af eH 0;have d1:W.cell? ⟨w.heap.size,1,Y⟩=Z (O J r.an):=af eH 1;have d2:W.cell? ⟨w.heap.size,2,Y⟩=Z (O J r.aK):=af eH 2;have d3:W.cell? ⟨w.heap.size,3,Y⟩=Z (O J r.addr):=af eH 3;have d4:W.cell? ⟨w.heap.size,4,Y⟩=Z (I r.text):=af eH 4;have d5:W.cell? ⟨w.heap.size,5,Y⟩=Z (O J r.port):=af eH 5;have d6:W.cell? ⟨w.heap.size,6,Y⟩=Z (I r.target):=af eH 6;go_simp
  refine wpAnyH_ready (rs:=[2]) (by kernel_rfl) (by simp) ?_;refine Q9 rfl (λK hK=>?_) Uj;go_simp;refine(HO.out _).mono ?_;rintro e w6 ⟨rfl,ix⟩;have kX:Hid (Below w.heap.size w w6):=aR.out.trans (Below.trans (Below.drew (Ib _ _)) (ix.mono aR.out.size));have vv:=(ix.block w.heap.size hl5).trans rJ;clear ix aR;refine hK.out _ _ vv (λ_=>?_);clear hK K;refine wpAnyH_ready (rs:=[3]) (by kernel_rfl) (by simp) ?_;refine Q9 rfl (λK hK=>?_) Uj;go_simp;refine hK.out _ _ vv (λ_=>?_);clear hK K;refine wpAnyH_ready (rs:=[4]) (by kernel_rfl) (by simp) ?_;refine Q9 rfl (λK hK=>?_) Uj;go_simp;by_cases h4:sr r=false
  .rw[if_pos h4] at hE
   subst hE;rw[h4];refine(dd _ _).mono ?_;rintro e w7 ⟨rfl,rfl⟩;exact⟨rfl,rfl,kX.out⟩
  rw[if_neg h4] at hE;rw[show sr r=true by simpa using h4];refine(cy _ _).mono ?_;rintro e w7 ⟨rfl,hw7⟩;subst hw7;refine hK.out _ _ vv (λ_=>?_);clear hK K;refine wpAnyH_done (by kernel_rfl) ?_ _;clear heq HO f0 f1 f2 f3 f4 f5 f6;have f3:w7.cell? ⟨w.heap.size,3,Y⟩=Z (O J r.addr):=af vv 3;have f4:w7.cell? ⟨w.heap.size,4,Y⟩=Z (I r.text):=af vv 4;have f5:w7.cell? ⟨w.heap.size,5,Y⟩=Z (O J r.port):=af vv 5;have f6:w7.cell? ⟨w.heap.size,6,Y⟩=Z (I r.target):=af vv 6;go_wp2_with fail;refine(ea _ _).mono ?_;rintro e w8 ⟨rfl,hw8⟩;subst hw8;by_cases h5:within r.addr 0 4294967295=false
  .rw[if_pos (by rw[h5];rfl)] at hE
   subst hE;rw[h5];go_wp2_with fail;refine(dd _ _).mono ?_;rintro e w9 ⟨rfl,rfl⟩;exact⟨rfl,rfl,kX.out⟩
  have h5t:within r.addr 0 4294967295=true:=by simpa using h5
  rw[h5t] at hE ⊢;rw[Bool.true_and] at hE;go_wp2_with fail;refine(bD _ _ _ _).mono ?_;rintro e w9 ⟨rfl,hw9⟩;subst hw9;by_cases h6:within r.port 0 65535=false
  .rw[if_pos h6] at hE
   subst hE;rw[h6];go_wp2_with fail;refine(dd _ _).mono ?_;rintro e wa ⟨rfl,rfl⟩;exact⟨rfl,rfl,kX.out⟩
  rw[if_neg h6] at hE;rw[show within r.port 0 65535=true by simpa using h6];go_wp2_with fail;refine(cy _ _).mono ?_;rintro e wa ⟨rfl,GR⟩;subst GR;by_cases h7:200<r.text.size
  .rw[if_pos h7] at hE
   subst hE;have h8:decide ((r.text.size:Int)<=200)=false:=by simp;omega
   go_wp2_with fail;refine(dd _ _).mono ?_;rintro e wb ⟨rfl,rfl⟩;exact⟨rfl,rfl,kX.out⟩
  rw[if_neg h7] at hE;have h8:decide ((r.text.size:Int)<=200)=true:=by simp;omega
  go_wp2_with fail;refine(cy _ _).mono ?_;rintro e wb ⟨rfl,hwb⟩;subst hwb;go_wp2_with fail;refine(HT.out _).mono ?_;rintro e wc ⟨rfl,eA⟩;have HBC:Hid (Below w.heap.size w wc):=kX.out.trans (eA.mono kX.out.size);clear eA;subst hE;by_cases h9:bT r.target=0
  .rw[h9,ot]
   go_wp2_with fail;simp[Jk,results,Tryz.results73];exact⟨by rw[h9];rfl,HBC.out⟩
  .rw[eb h9]
   exact⟨rfl,(eb h9).symm,HBC.out⟩
 .rw[if_pos h1] at hE
  subst hE;rw[eb h1];exact⟨rfl,(eb h1).symm,aR.out⟩
def gA:List Rc.Rec->Int
 |[]=>0
 |r::t=>if bL r=0 then gA t else bL r
def bn(id code an:Int)(name:ByteArray)(rs:List Rc.Rec):Int:=
 if(within id 0 65535&&within code 0 15)=false then 3
 else if 20<rs.length then 2
 else if bT name≠0 then bT name
 else if gz an=false then 7
 else gA rs
theorem Dc{rs:List Rc.Rec}{k:Nat}(h:k<rs.length)(he:gA rs=gA (rs.drop k)):gA rs=if bL (rs.getD k Rc.dm)=0 then gA (rs.drop (k+1)) else bL (rs.getD k Rc.dm):=by
 rw[he,List.drop_eq_getElem_cons h,gA,show rs.getD k Rc.dm=rs[k] by simp[Io,Ic h]]
theorem k7(id code an:Int)(aB cut:Bool)(name:ByteArray)(rs:List Rc.Rec)(v:Value)(w:World)(hs:name.size<=Ij)(hv:Rc.Sl w v rs) :
 Calls be 28 #[Im #[O J id,AI aB,AI cut,O J code,I name,O J an,v]] w λe w'=>e=dW (bn id code an name rs)/\Below w.heap.size w w':=by
 have HN:Hid (∀W,Calls be 71 #[I name] W λe w'=>e=dW (bT name)/\Below W.heap.size W w'):=λW=>j4 _ _ hs;obtain⟨pa,cap,rfl,kM,dL⟩:=hv;have CN:Hid (∀j,(rs.getD j Rc.dm).ok):=kM;have qD:Hid (rs=[]\/∃b off,pa=Z ⟨b,off,Y⟩/\b<w.heap.size/\Rc.Row w b off rs):=dL;clear kM dL hs;generalize hE:bn id code an name rs=E;unfold bn at hE;go_enter Tryz.func28,Tryz.ntmps28;go_wp2_with fail;have dt:(w.alloc (AT #[O J id,AI aB,AI cut,O J code,I name,O J an,U pa rs.length cap] 43)).heap[w.heap.size]?=Z (AT #[O J id,AI aB,AI cut,O J code,I name,O J an,U pa rs.length cap] 43 (0,0)):=Ie w _;obtain⟨w0,dJ⟩:∃w0,w0=w.alloc (AT #[O J id,AI aB,AI cut,O J code,I name,O J an,U pa rs.length cap] 43):=⟨_,rfl⟩;have dy:Hid (Below w.heap.size w w0):=(show Below _ _ _ by rw[dJ];exact(Ib _ _).alloc (By _) _);rw[<- dJ] at dt ⊢;clear dJ;have f3:w0.cell? ⟨w.heap.size,3,Y⟩=Z (O J code):=af dt 3;have f4:w0.cell? ⟨w.heap.size,4,Y⟩=Z (I name):=af dt 4;have f6:w0.cell? ⟨w.heap.size,6,Y⟩=Z (U pa rs.length cap):=af dt 6;refine(bD _ _ _ _).mono ?_;rintro e w1 ⟨rfl,De⟩;subst De;by_cases h1:within id 0 65535=false
 .rw[if_pos (by rw[h1];rfl)] at hE
  subst hE;rw[h1];go_wp2_with fail;refine(dd _ _).mono ?_;rintro e w9 ⟨rfl,rfl⟩;exact⟨rfl,rfl,dy.out⟩
 have h1t:within id 0 65535=true:=by simpa using h1
 rw[h1t] at hE ⊢;rw[Bool.true_and] at hE;go_wp2_with fail;refine(bD _ _ _ _).mono ?_;rintro e w2 ⟨rfl,rH⟩;subst rH;by_cases h2:within code 0 15=false
 .rw[if_pos h2] at hE
  subst hE;rw[h2];go_wp2_with fail;refine(dd _ _).mono ?_;rintro e w9 ⟨rfl,rfl⟩;exact⟨rfl,rfl,dy.out⟩
 rw[if_neg h2] at hE;rw[show within code 0 15=true by simpa using h2];go_wp2_with fail;refine(cy _ _).mono ?_;rintro e w3 ⟨rfl,zN⟩;subst zN;by_cases h3:20<rs.length
 .rw[if_pos h3] at hE
  subst hE;have h8:decide ((rs.length:Int)<=20)=false:=by simp;omega
  go_wp2_with fail;refine(dd _ _).mono ?_;rintro e wb ⟨rfl,rfl⟩;exact⟨rfl,rfl,dy.out⟩
 rw[if_neg h3] at hE;have h8:decide ((rs.length:Int)<=20)=true:=by simp;omega
 go_wp2_with fail;refine(cy _ _).mono ?_;rintro e w4 ⟨rfl,yD⟩;subst yD;go_wp2_with fail;refine(HN.out _).mono ?_;rintro e w5 ⟨rfl,lA⟩;have Df:=(lA.block w.heap.size (Ia.1 dt).1).trans dt;have jE:Hid (Below w.heap.size w w5):=dy.out.trans (lA.mono dy.out.size);clear dt lA f3 f4 f6 h8;by_cases h4:bT name=0
 .rw[h4,ot]
  rw[if_neg (by simpa using h4)] at hE;have f5:w5.cell? ⟨w.heap.size,5,Y⟩=Z (O J an):=af Df 5;have f6:w5.cell? ⟨w.heap.size,6,Y⟩=Z (U pa rs.length cap):=af Df 6;go_wp2_with fail;refine(mX _ _).mono ?_;rintro e w6 ⟨rfl,hw6⟩;subst hw6;rw[show(decide (an=1)||decide (an=16)||decide (an=33))=gz an from rfl];by_cases h5:gz an=false
  .rw[if_pos h5] at hE
   subst hE;rw[h5];go_wp2_with fail;refine(dd _ _).mono ?_;rintro e w7 ⟨rfl,rfl⟩;exact⟨rfl,rfl,jE.out⟩
  rw[if_neg h5] at hE;rw[show gz an=true by simpa using h5];go_wp2_with fail;refine(cy _ _).mono ?_;rintro e w7 ⟨rfl,hw7⟩;subst hw7;have XZ:Hid (gA rs=E):=hE;have yu:rs.length<=20:=by omega
  clear hE h1 h1t h2 h3 h4 h5 Df;generalize Ns:rs.length=n at *;have sq:Hid (rs.length=n):=Ns;clear Ns;go_wp2_with fail;go_loopw [30] (λi wr=>∃k:Nat,k<=n/\i=O J k/\Hid (Below w.heap.size w wr)/\Hid (gA rs=gA (rs.drop k))) (λi _=>n-(intOf i).toNat)
  case atStart=>exact⟨0,II _,rfl,jE,rfl⟩
  case round=>
   obtain⟨k,hk,rfl,yi,HZ⟩:=hrel;have bA:=yi.out.size;by_cases aL:k<n
   .obtain⟨b,off,Nt,rE,hr⟩:∃b off,pa=Z ⟨b,off,Y⟩/\b<w.heap.size/\Rc.Row w b off rs:=by
     rcases qD.out with h|h
     .have:=sq.out;rw[h] at this;simp at this;omega
     .exact h
    subst Nt;obtain⟨g0,g1,g2,g3,g4,g5,g6⟩:=hr k (by rw[sq.out];exact aL);have c0:=(yi.out.cell (p:=⟨b,off+k*7,Y⟩) rE).trans g0;have c1:=(yi.out.cell (p:=⟨b,off+k*7+1,Y⟩) rE).trans g1;have c2:=(yi.out.cell (p:=⟨b,off+k*7+2,Y⟩) rE).trans g2;have c3:=(yi.out.cell (p:=⟨b,off+k*7+3,Y⟩) rE).trans g3;have c4:=(yi.out.cell (p:=⟨b,off+k*7+4,Y⟩) rE).trans g4;have c5:=(yi.out.cell (p:=⟨b,off+k*7+5,Y⟩) rE).trans g5;have c6:=(yi.out.cell (p:=⟨b,off+k*7+6,Y⟩) rE).trans g6;clear g0 g1 g2 g3 g4 g5 g6 hr;have lG:Hid (gA rs=if bL (rs.getD k Rc.dm)=0 then gA (rs.drop (k+1)) else bL (rs.getD k Rc.dm)):=Dc (by rw[sq.out];exact aL) HZ.out;have HRE:Hid (∀W,Calls be 73 #[mu (rs.getD k Rc.dm)] W λe w'=>e=dW (bL (rs.getD k Rc.dm))/\Below W.heap.size W w'):=λW=>su _ W (CN.out k);generalize rs.getD k Rc.dm=r at *;have hd:decide ((k:Int)<(n:Int))=true:=by simp;omega
    have ei:(0:Int)<=(k:Int):=by omega
    have X0:(k:Int)<(n:Int):=by omega
    have Gi:((k:Int)).toNat=k:=by omega
    go_wp2_with fail;refine(HRE.out _).mono ?_;rintro e w9 ⟨rfl,vB⟩;have qi:Hid (Below w.heap.size w w9):=(yi.out.alloc bA _).trans (vB.mono (by simp;omega));clear vB c0 c1 c2 c3 c4 c5 c6;by_cases h9:bL r=0
    .rw[h9,ot]
     have iS:Hid (gA rs=gA (rs.drop (k+1))):=(show _=_ by rw[lG.out,if_pos h9]);clear lG h9;go_wp2_with fail;exact⟨⟨k+1,by omega,by go_num,qi,iS⟩,by simp[intOf];omega⟩
    .have HF:Hid (E=bL r):=(show _=_ by rw[<- XZ.out,lG.out,if_neg h9])
     rw[eb h9];exact⟨rfl,by rw[HF.out];exact(eb h9).symm,qi.out⟩
   .have HF:Hid (E=0):=(show E=0 by rw[<- XZ.out,HZ.out,List.drop_of_length_le (by rw[sq.out];omega)];rfl)
    have hd:decide ((k:Int)<(n:Int))=false:=by simp;omega
    go_wp2_with fail;simp[Jk,results,Tryz.results28];exact⟨by rw[HF.out];rfl,yi.out⟩
 .rw[if_pos h4] at hE
  subst hE;rw[eb h4];exact⟨rfl,(eb h4).symm,jE.out⟩
def lJ(r:Rc.Rec):List Value:=
 if r.an=1 then cE r.addr 4
 else if r.an=16 then cE r.text.size 1++Oi r.text
 else if r.an=33 then cE 0 2++(cE 0 2++(cE r.port 2++dD r.target))
 else[]
theorem np{s:ByteArray}(h:bT s=0):(dD s).length<=249:=by
 obtain⟨hL8,tT⟩:=kC h;unfold dD;rw[Ii,bB];have:=mv (gB s) tT;omega
theorem cj.keep{B b:Nat}{bs:List Value}{w w':World}(h:cj B b bs w)(hk:∀k,k=b\/Z k=cK w b->w'.heap[k]?=w.heap[k]?):cj B b bs w':=by
 have go:∀p,Cu B b p bs w->Cu B b p bs w':=λp ⟨hB,v,hb,ho,bu⟩=>by
  have e1:cK w b=v.ownBlock:=by unfold cK;rw[af hb 1];rfl
  refine⟨hB,v,(hk b (.inl rfl)).trans hb,?_,bu⟩;rcases ho.2 with⟨rfl,h0⟩|⟨g,cap,cur,rfl,dQ,hg,r⟩
  .exact⟨ho.1,.inl ⟨rfl,h0⟩⟩
  .exact⟨ho.1,.inr ⟨g,cap,cur,rfl,dQ,(hk g (.inr (by rw[e1];rfl))).trans hg,r⟩⟩
 rcases h with h|h
 .exact .inl (go _ h)
 .exact .inr (go _ h)
theorem cj.buf{B b:Nat}{bs:List Value}{w:World}(h:cj B b bs w):∀k,cK w b=Z k->B<=k/\k<w.heap.size:=by
 have go:∀p,Cu B b p bs w->∀k,cK w b=Z k->B<=k/\k<w.heap.size:=λp ⟨hB,v,hb,ho,bu⟩ k hk=>by
  have e1:cK w b=v.ownBlock:=by unfold cK;rw[af hb 1];rfl
  rw[e1] at hk;exact ho.lt k hk
 rcases h with h|h
 .exact go _ h
 .exact go _ h
theorem cj.below{B b:Nat}{bs:List Value}{w w':World}(h:cj B b bs w)(hb:Below w.heap.size w w'):cj B b bs w':=
 h.keep λk hk=>by
  rcases hk with rfl|hk
  .exact hb.block _ h.lt
  .exact hb.block _ (h.buf k hk.symm).2
theorem GS(B b:Nat)(bs:List Value)(r:Rc.Rec)(w:World)(hm:ML w)(h:cj B b bs w)(hlen:bs.length<=40000)(ht:r.text.size<=200)(hn:bT r.target=0)(sw:B<=w.heap.size)(lR:0<B) :
 Calls be 173 #[If (Z ⟨b,0,Y⟩),mu r] w λe w'=>e=sh (Il #[])/\cj B b (bs++lJ r) w'/\Kp B b w w':=by
 have HI:Hid (cj B b bs w):=h;have aU:=h.lt;clear h;obtain⟨name,an,aK,addr,text,port,target⟩:=r;unfold lJ;simp only at ht hn ⊢;obtain⟨w0,dJ,-,-,dt⟩:=cR w #[I name,O J an,O J aK,O J addr,I text,O J port,I target] 64;have xq:Hid (Kp B b w w0):=(show Kp B b w w0 by rw[dJ];exact Kp.alloc _ sw);have Mc:Hid (cj B b bs w0):=(show cj B b bs w0 by rw[dJ];exact HI.out.alloc _);have bW:B<=w0.heap.size:=Ir sw xq.out.size;have Ct:Hid (ML w0):=(show ML w0 from hm.kp xq.out lR);clear hm;by_cases h1:an=1
 .subst h1
  rw[if_pos rfl];go_enter Tryz.func173,Tryz.ntmps173;go_wp2_with fail;rw[<- dJ];refine(aM B b 4 addr bs w0 Mc.out (by omega) (by omega) bW).mono ?_;rintro e w1 ⟨rfl,h1,al⟩;have sU:Hid (cj B b (bs++cE addr 4) w1):=h1;have nJ:Hid (Kp B b w w1):=xq.out.trans al;clear h1 al;go_wp2_with fail;simp[Jk,results,Tryz.results173];exact⟨sU.out,nJ.out⟩
 rw[if_neg h1];have e1:(an==1)=false:=by simpa using h1
 by_cases h2:an=16
 .subst h2
  rw[if_pos rfl];clear e1;go_enter Tryz.func173,Tryz.ntmps173;go_wp2_with fail;rw[<- dJ];refine(rK B b bs text w0 Mc.out (by omega) (by omega) bW).mono ?_;rintro e w1 ⟨rfl,h1,al⟩;have sU:Hid (cj B b (bs++(cE text.size 1++Oi text)) w1):=h1;have nJ:Hid (Kp B b w w1):=xq.out.trans al;clear h1 al;go_wp2_with fail;simp[Jk,results,Tryz.results173];exact⟨by simpa using sU.out,nJ.out⟩
 rw[if_neg h2];have e2:(an==16)=false:=by simpa using h2
 by_cases h3:an=33
 .subst h3
  rw[if_pos rfl];clear e1 e2;go_enter Tryz.func173,Tryz.ntmps173;go_wp2_with fail;rw[<- dJ];refine(aM B b 2 0 bs w0 Mc.out (by omega) (by omega) bW).mono ?_;rintro e w1 ⟨rfl,h1,al⟩;have sU:Hid (cj B b (bs++cE 0 2) w1):=h1;have nJ:Hid (Kp B b w0 w1):=al;have cS:B<=w1.heap.size:=Ir bW nJ.out.size;clear h1 al;go_wp2_with fail;refine(aM B b 2 0 _ w1 sU.out (by omega) (by simp[bB];omega) cS).mono ?_;rintro e w2 ⟨rfl,h1,al⟩;have vC:Hid (cj B b ((bs++cE 0 2)++cE 0 2) w2):=h1;have j3:Hid (Kp B b w0 w2):=nJ.out.trans al;have iX:B<=w2.heap.size:=Ir bW j3.out.size;have iL:w2.heap[w.heap.size]?=Z (AT #[I name,O J 33,O J aK,O J addr,I text,O J port,I target] 64 (0,0)):=j3.out.GU _ _ dt (by simp;omega) (by simp);have f5:w2.cell? ⟨w.heap.size,5,Y⟩=Z (O J port):=af iL 5;clear h1 al iL;go_wp2_with fail;refine(aM B b 2 port _ w2 vC.out (by omega) (by simp[bB];omega) iX).mono ?_;rintro e w3 ⟨rfl,h1,al⟩;have TD:Hid (cj B b (((bs++cE 0 2)++cE 0 2)++cE port 2) w3):=h1;have nq:Hid (Kp B b w0 w3):=j3.out.trans al;have lN:B<=w3.heap.size:=Ir bW nq.out.size;have vt:w3.heap[w.heap.size]?=Z (AT #[I name,O J 33,O J aK,O J addr,I text,O J port,I target] 64 (0,0)):=nq.out.GU _ _ dt (by simp;omega) (by simp);have f6:w3.cell? ⟨w.heap.size,6,Y⟩=Z (I target):=af vt 6;clear h1 al vt;go_wp2_with fail;refine(nr B b _ target w3 (Ct.out.kp nq.out lR) TD.out (by simp[bB];omega) hn lN).mono ?_;rintro e w4 ⟨rfl,h1,al⟩;have TE:Hid (cj B b (bs++(cE 0 2++(cE 0 2++(cE port 2++dD target)))) w4):=(show cj _ _ _ _ by simpa[I1] using h1);have vD:Hid (Kp B b w w4):=xq.out.trans (nq.out.trans al);clear h1 al;go_wp2_with fail;simp[Jk,results,Tryz.results173];exact⟨by simpa using TE.out,vD.out⟩
 rw[if_neg h3];have e3:(an==33)=false:=by simpa using h3
 clear h1 h2 h3;go_enter Tryz.func173,Tryz.ntmps173;go_wp2_with fail;simp[Jk,results,Tryz.results173];rw[<- dJ];exact⟨Mc.out,xq.out⟩
def fj(r:Rc.Rec):List UInt8:=
 if r.an=1 then fC r.addr 4
 else if r.an=16 then fC r.text.size 1++r.text.data.toList
 else if r.an=33 then fC 0 2++(fC 0 2++(fC r.port 2++cG r.target))
 else[]
theorem xt(s:ByteArray):Oi s=I8 s.data.toList:=rfl
theorem ou(r:Rc.Rec):lJ r=I8 (fj r):=by
 unfold lJ fj;split
 .exact fx _ _
 split
 .rw[fy,fx,xt]
 split
 .simp only[fy,fx,ij]
 .rfl
theorem tU{r:Rc.Rec}(ht:r.text.size<=200)(hn:bT r.target=0):(lJ r).length<=255:=by
 have:=np hn;unfold lJ;split
 .simp[bB]
 split
 .simp[bB,Lib.strCells_length];omega
 split
 .simp only[Ii,bB];omega
 .simp
theorem Nu{r:Rc.Rec}(h:gz r.an=true):fj r≠[]:=by
 unfold fj;simp only[gz,Bool.or_eq_true,decide_eq_true_eq] at h;split
 .simp[fC]
 split
 .simp[fC]
 split
 .simp[fC]
 .omega
theorem fA{r:Rc.Rec}(h:bL r=0):bT r.name=0/\gz r.an=true/\r.text.size<=200/\bT r.target=0:=by
 unfold bL at h;split at h
 .omega
 rename_i h1;split at h
 .omega
 rename_i h2;split at h
 .omega
 split at h
 .omega
 split at h
 .omega
 split at h
 .omega
 rename_i h6;exact⟨by omega,by simpa using h2,by omega,h⟩
def ju(r:Rc.Rec):List Value:=dD r.name++(cE r.an 2++(cE 1 2++(cE r.aK 4++(cE (lJ r).length 2++lJ r))))
theorem TF(B b:Nat)(bs:List Value)(w:World)(h:cj B b bs w) :
 Calls be 174 #[If (Z ⟨b,0,Y⟩)] w λe w'=>e=sh (O J bs.length)/\w'=w:=by
 obtain⟨p,hB,v,wF,hown,bu⟩:∃p,Cu B b p bs w:=by
  rcases h with h|h
  .exact⟨_,h⟩
  .exact⟨_,h⟩
 have c1:w.cell? ⟨b,1,Y⟩=Z v:=af wF 1;obtain⟨ao,cap,rfl⟩:∃ao cap,v=U ao bs.length cap:=by
  rcases hown.2 with⟨rfl,h0⟩|⟨g,cap,cur,rfl,_⟩
  .exact⟨Y,0,by rw[h0]⟩
  .exact⟨_,cap,rfl⟩
 go_enter Tryz.func174,Tryz.ntmps174;go_wp2_with fail;go_ret;exact⟨rfl,rfl⟩
theorem yF(w:World)(p:Addr)(n k:Nat)(h:k≠p.block):(w.freeze p n).heap[k]?=w.heap[k]?:=by
 unfold World.freeze;split
 .rfl
 .simp only[Array.getElem?_modify]
  rw[if_neg (Ne.symm h)]
theorem AB(B b:Nat)(l:List UInt8)(w:World)(h:cj B b (I8 l) w)(h0:l≠[]) :
 Calls be 75 #[If (Z ⟨b,0,Y⟩)] w λe w'=>e=sh (I ⟨l.toArray⟩)/\Below B w w'/\∀k,Z k≠cK w b->w'.heap[k]?=w.heap[k]?:=by
 obtain⟨p,hB,v,wF,hown,bu⟩:∃p,Cu B b p (I8 l) w:=by
  rcases h with h|h
  .exact⟨_,h⟩
  .exact⟨_,h⟩
 have acR:cK w b=v.ownBlock:=by unfold cK;rw[af wF 1];rfl
 have vz:l.length≠0:=by simpa using h0
 rw[O1] at hown;obtain⟨g,cap,cur,rfl,dQ,hg,eC,dj,cM,aO⟩:∃g cap cur,v=U (Z ⟨g,0,Y⟩) l.length cap/\B<=g/\w.heap[g]?=Z (AT cur 5 (0,0))/\l.length<=cap/\cap<=Ij/\cur.size=cap*1/\cur.toList.take (l.length*1)=I8 l:=by
  rcases hown.2 with⟨_,hz⟩|⟨g,cap,cur,hv,r⟩
  .exact absurd hz vz
  .exact⟨g,cap,cur,hv,r⟩
 have c1:w.drew.cell? ⟨b,1,Y⟩=Z (U (Z ⟨g,0,Y⟩) l.length cap):=by
  have:w.drew.heap[b]?=Z (AT #[p,U (Z ⟨g,0,Y⟩) l.length cap] 131 (0,0)):=wF
  rw[Lib.cell_of_heap this];rfl
 have hSD:(Builtin.unsafeSliceData_ #[127] 186 #[U (Z ⟨g,0,Y⟩) l.length cap]).run be w.drew=.ok (If (Z ⟨g,0,Y⟩)) w.drew:=
  Lib.run_unsafeSliceData_row _ _ _ _ _ _ (by omega)
 have hUS:(Builtin.unsafeString_ #[186,3] 9 #[If (Z ⟨g,0,Y⟩),O J l.length]).run be w.drew=.ok (I ⟨l.toArray⟩) (w.drew.freeze ⟨g,0,Y⟩ l.length):=by
  refine Lib.run_unsafeString_row w.drew 186 3 9 5 Tryz.underlying186 Tryz.cellsByte g cur.size (by have tV:w.drew.heap[g]?=Z (AT cur 5 (0,0)):=hg;simp[World.shape?,tV]) l h0 (by omega) (by unfold Ij at dj;omega) ?_;intro j x hx;have:=hown.cells (g:=g) rfl j (O .u8 x.toNat) (by simp[I8,hx]);exact this
 have mixed:Tryz.prog.follows .mixedOrders=true:=by kernel_rfl
 have Dg:Hid (∀k,Z k≠cK w b->(w.drew.freeze ⟨g,0,Y⟩ l.length).heap[k]?=w.heap[k]?):=λk hk=>yF w.drew _ _ k (λe=>hk (by rw[acR,e];rfl));clear acR;go_enter Tryz.func75,Tryz.ntmps75;go_wp2_with fail;go_region_o
 all_goals (go_wp2;go_ret;exact⟨rfl,Lib.below_freeze (Below.drew (Ib B w)) (p:=⟨g,0,Y⟩) dQ _,Dg.out⟩)
theorem jV{w w':World}{b:Nat}(h:w'.heap[b]?=w.heap[b]?):cK w' b=cK w b:=by
 unfold cK;rw[World.cell?_of_block (a:=⟨b,1,Y⟩) h]
theorem cj.bytes{B b:Nat}{bs:List Value}{w:World}(h:cj B b bs w):∀k,cK w b=Z k->∃c fz,w.heap[k]?=Z (AT c 5 fz):=by
 have go:∀p,Cu B b p bs w->∀k,cK w b=Z k->∃c fz,w.heap[k]?=Z (AT c 5 fz):=λp ⟨hB,v,hb,ho,bu⟩ k hk=>by
  have e1:cK w b=v.ownBlock:=by unfold cK;rw[af hb 1];rfl
  rw[e1] at hk;exact tW ho k hk
 rcases h with h|h
 .exact go _ h
 .exact go _ h
theorem Kp.under{B b d:Nat}{w w':World}(h:Below d w w')(hd:w.heap.size<=d)(hB:B<=d):Kp B b w w':=
 ⟨h.mono hB,λk o hk _ _=>(h.block k (Iv (Ia.1 hk).1 hd)).trans hk,λhb=>⟨λk hk _ _=>h.block k (by omega),.inl (jV (h.block b (by omega)))⟩⟩
theorem Kp.agW{B b d:Nat}{ds:List Value}{w w6 w7:World}(h:Kp B b w w6)(hd:cj d d ds w6)(Fg:w.heap.size<=d)(hBd:B<=d)(hb:b<w.heap.size)(agX:Below d w6 w7)(hk:∀k,Z k≠cK w6 d->w7.heap[k]?=w6.heap[k]?):Kp B b w w7 where
 yd:=h.yd.trans (agX.mono hBd)
 GU:=λk o hk1 TG iV=>by
  have h6:=h.GU k o hk1 TG iV;refine(hk k λe=>?_).trans h6;obtain⟨c,fz,hc⟩:=hd.bytes k e.symm;rw[h6] at hc;injection hc with hc;exact iV _ _ hc
 kq:=λrE=>by
  obtain⟨h1,h2⟩:=h.kq rE;have bu:∀k,k<w.heap.size->Z k≠cK w6 d:=λk hkw e=>by have:=(hd.buf k e.symm).1;omega
  refine⟨λk hkw TG fM=>(hk k (bu k hkw)).trans (h1 k hkw TG fM),?_⟩;rw[jV (hk b (bu b hb))];exact h2
theorem GV{b d:Nat}{ds:List Value}{w1 w6:World}(hk:Kq b w1 w6)(hb:b<w1.heap.size)(hd:cj d d ds w1)(hold:∀k,cK w1 b=Z k->k<d)(hd6:cK w6 d=cK w1 d):∀k,Z k=cK w6 b->Z k≠cK w6 d:=λk e1 e2=>by
 rw[hd6] at e2;have h1:=hd.buf k e2.symm;rcases(hk hb).2 with h2|h2
 .have:=hold k (by rw[<- h2];exact e1.symm);omega
 .have:=h2 k e1.symm;omega
theorem cj.other{b d:Nat}{ds:List Value}{w1 w6:World}(hd:cj d d ds w1)(hk:Kq b w1 w6)(hb:b<d)(hold:∀k,cK w1 b=Z k->k<d):cj d d ds w6/\cK w6 d=cK w1 d:=by
 have rE:b<w1.heap.size:=Nat.lt_trans hb hd.lt;obtain⟨h1,_⟩:=hk rE;have hdd:w6.heap[d]?=w1.heap[d]?:=h1 d hd.lt (by omega) (λe=>by have:=hold d e.symm;omega);refine⟨hd.keep λk sg=>?_,jV hdd⟩;rcases sg with rfl|sg
 .exact hdd
 .have h3:=hd.buf k sg.symm
  exact h1 k h3.2 (by omega) (λe=>by have:=hold k e.symm;omega)
theorem AE(B b:Nat)(bs:List Value)(r:Rc.Rec)(w:World)(hm:ML w)(h:cj B b bs w)(hlen:bs.length<=30000)(hc:bL r=0)(sw:B<=w.heap.size)(_hB0:0<B) :
 Calls be 126 #[If (Z ⟨b,0,Y⟩),mu r] w λe w'=>e=sh (Il #[])/\cj B b (bs++ju r) w'/\Kp B b w w':=by
 obtain⟨vE,Sn,htx,hcg⟩:=fA hc;have HI:Hid (cj B b bs w):=h;have aU:=h.lt;have WJ:=np vE;have hdl:=tU htx hcg;have acU:=Nu Sn;have Sw:Hid (lJ r=I8 (fj r)):=ou r;clear h hc;go_enter Tryz.func126,Tryz.ntmps126;go_wp2_with fail;obtain⟨w0,dJ⟩:∃w0,w0=(w.alloc (AT #[I r.name,O J r.an,O J r.aK,O J r.addr,I r.text,O J r.port,I r.target] 64)).alloc (AT #[If Y,U Y 0 0] 131):=⟨_,rfl⟩;rw[<- dJ];have X6:w0.heap.size=w.heap.size+1+1:=by rw[dJ];simp
 have dt:w0.heap[w.heap.size]?=Z (AT #[I r.name,O J r.an,O J r.aK,O J r.addr,I r.text,O J r.port,I r.target] 64 (0,0)):=by
  rw[dJ];exact(I9 _ _ _ (by simp)).trans (Ie w _)
 have lV:w0.heap[w.heap.size+1]?=Z (AT #[If Y,U Y 0 0] 131 (0,0)):=by
  have h:=Ie (w.alloc (AT #[I r.name,O J r.an,O J r.aK,O J r.addr,I r.text,O J r.port,I r.target] 64)) (AT #[If Y,U Y 0 0] 131);rw[dJ];simpa using h
 have dy:Hid (Below w.heap.size w w0):=(show Below _ _ _ by rw[dJ];exact((Ib _ _).alloc (By _) _).alloc (by simp) _);have Ct:Hid (ML w0):=(show ML w0 from hm.below dy.out);clear dJ hm;refine(GS (w.heap.size+1) (w.heap.size+1) [] r w0 Ct.out (.inl ⟨By _,U Y 0 0,lV,Jp w0 _ 5 1,by simp[I2]⟩) (by simp) htx hcg (by omega) (by omega)).mono ?_;rintro e w1 ⟨rfl,h1,al⟩;have jF:Hid (cj (w.heap.size+1) (w.heap.size+1) (lJ r) w1):=(show cj _ _ _ _ by simpa using h1);have aR:Hid (Below (w.heap.size+1) w0 w1):=al.yd;have Nv:Hid (Below w.heap.size w w1):=dy.out.trans (al.yd.mono (by omega));have nJ:Hid (Kp B b w w1):=Kp.under Nv.out (By _) sw;have WD:Hid (ML w1):=(show ML w1 from Ct.out.kp al (by omega));have sU:Hid (cj B b bs w1):=HI.out.below Nv.out;have TH:Hid (∀k,cK w1 b=Z k->k<w.heap.size+1):=λk hk=>by
  rw[jV (Nv.out.block b aU)] at hk;have:=(HI.out.buf k hk).2;omega
 have bb:w1.heap[w.heap.size]?=Z (AT #[I r.name,O J r.an,O J r.aK,O J r.addr,I r.text,O J r.port,I r.target] 64 (0,0)):=(aR.out.block _ (by omega)).trans dt;have cS:B<=w1.heap.size:=Ir sw Nv.out.size;have HG:Hid (∀W,Kp B b w1 W->W.heap[w.heap.size]?=Z (AT #[I r.name,O J r.an,O J r.aK,O J r.addr,I r.text,O J r.port,I r.target] 64 (0,0))):=λW hW=>hW.GU _ _ bb (by simp;omega) (by simp);have f0:w1.cell? ⟨w.heap.size,0,Y⟩=Z (I r.name):=af bb 0;clear h1 al dt lV bb;go_wp2_with fail;refine(nr B b bs r.name w1 WD.out sU.out (by omega) vE cS).mono ?_;rintro e w2 ⟨rfl,h1,al⟩;have vC:Hid (cj B b (bs++dD r.name) w2):=h1;have j3:Hid (Kp B b w1 w2):=al;have iX:B<=w2.heap.size:=Ir cS j3.out.size;have f1:w2.cell? ⟨w.heap.size,1,Y⟩=Z (O J r.an):=af (HG.out w2 j3.out) 1;clear h1 al f0;go_wp2_with fail;refine(aM B b 2 r.an _ w2 vC.out (by omega) (by simp;omega) iX).mono ?_;rintro e w3 ⟨rfl,h1,al⟩;have TD:Hid (cj B b ((bs++dD r.name)++cE r.an 2) w3):=h1;have nq:Hid (Kp B b w1 w3):=j3.out.trans al;have lN:B<=w3.heap.size:=Ir cS nq.out.size;clear h1 al f1;go_wp2_with fail;refine(aM B b 2 1 _ w3 TD.out (by omega) (by simp[bB];omega) lN).mono ?_;rintro e w4 ⟨rfl,h1,al⟩;have TE:Hid (cj B b (((bs++dD r.name)++cE r.an 2)++cE 1 2) w4):=h1;have vD:Hid (Kp B b w1 w4):=nq.out.trans al;have iQ:B<=w4.heap.size:=Ir cS vD.out.size;have f2:w4.cell? ⟨w.heap.size,2,Y⟩=Z (O J r.aK):=af (HG.out w4 vD.out) 2;clear h1 al;go_wp2_with fail;refine(aM B b 4 r.aK _ w4 TE.out (by omega) (by simp[bB];omega) iQ).mono ?_;rintro e w5 ⟨rfl,h1,al⟩;have X7:Hid (cj B b ((((bs++dD r.name)++cE r.an 2)++cE 1 2)++cE r.aK 4) w5):=h1;have xu:Hid (Kp B b w1 w5):=vD.out.trans al;have gG:B<=w5.heap.size:=Ir cS xu.out.size;have X8:Hid (cj (w.heap.size+1) (w.heap.size+1) (lJ r) w5):=(jF.out.other xu.out.kq (by omega) TH.out).1;clear h1 al f2;go_wp2_with fail;refine(TF _ _ _ w5 X8.out).mono ?_;rintro e w5' ⟨rfl,yE⟩;subst yE;go_wp2_with fail;refine(aM B b 2 (lJ r).length _ w5' X7.out (by omega) (by simp[bB];omega) gG).mono ?_;rintro e w6 ⟨rfl,h1,al⟩;have X9:Hid (cj B b (((((bs++dD r.name)++cE r.an 2)++cE 1 2)++cE r.aK 4)++cE (lJ r).length 2) w6):=h1;have vA:Hid (Kp B b w1 w6):=xu.out.trans al;have tX:B<=w6.heap.size:=Ir cS vA.out.size;obtain⟨hd6,WK⟩:=jF.out.other vA.out.kq (by omega) TH.out;have WL:Hid (cj (w.heap.size+1) (w.heap.size+1) (lJ r) w6):=hd6;have acV:Hid (cj (w.heap.size+1) (w.heap.size+1) (I8 (fj r)) w6):=(show cj _ _ _ _ by rw[<- Sw.out];exact hd6);have HAP:Hid (∀k,Z k=cK w6 b->Z k≠cK w6 (w.heap.size+1)):=GV vA.out.kq (by have:=Nv.out.size;omega) jF.out TH.out WK;clear h1 al hd6 WK;go_wp2_with fail;have bA:(⟨(fj r).toArray⟩:ByteArray).size=(lJ r).length:=by rw[Sw.out,O1];simp[JJ]
 have Sx:Hid (Oi ⟨(fj r).toArray⟩=lJ r):=(show _=_ by rw[Sw.out,xt]);have HL6:Hid ((((((bs++dD r.name)++cE r.an 2)++cE 1 2)++cE r.aK 4)++cE (lJ r).length 2).length+(⟨(fj r).toArray⟩:ByteArray).size<=1000000):=(show _<=_ by rw[bA];simp[bB];omega);have lG:Hid (Calls be 75 #[If (Z ⟨w.heap.size+1,0,Y⟩)] w6.drew λe w'=>e=sh (I ⟨(fj r).toArray⟩)/\Hid (Kp B b w w'/\cj B b (((((bs++dD r.name)++cE r.an 2)++cE 1 2)++cE r.aK 4)++cE (lJ r).length 2) w'/\B<=w'.heap.size)):=(show Calls _ _ _ _ _ by
  refine(AB _ _ (fj r) w6.drew acV.out acU).mono ?_;rintro e w7 ⟨rfl,h1,al⟩;have pY:Kp B b w w7:=(nJ.out.trans vA.out).drew.agW (w6:=w6.drew) WL.out (by omega) (by omega) aU h1 al;refine⟨rfl,pY,X9.out.keep λk hk=>?_,Ir sw pY.size⟩;rcases hk with rfl|hk
  .refine al _ λe=>?_
   have:=(WL.out.buf _ e.symm).1;omega
  .exact al k (HAP.out k hk))
 clear WL acV HAP X9 vA TH jF acU sU vC TD TE X7 j3 nq vD xu X8;go_region_held3 (λ_=>True) (trivial) (first
  |(go_at_call 75;refine lG.out.mono ?_;rintro e w7 ⟨rfl,H7⟩)
  |(go_at_call 117;refine(lB B b _ _ _ H7.out.2.1 HL6.out H7.out.2.2).mono ?_;rintro e w8 ⟨rfl,h1,al⟩))
 have HI8:Hid (cj B b (bs++ju r) w8):=(show cj _ _ _ _ by
  unfold ju;have h2:cj B b _ w8:=.inr h1;rw[Sx.out] at h2;simpa[I1] using h2)
 have Fh:Hid (Kp B b w w8):=H7.out.1.trans al;clear h1 al;go_wp2_with fail;simp[Jk,results,Tryz.results126];exact⟨HI8.out,Fh.out⟩
theorem Dh(id code an:Int)(aB cut:Bool)(name:ByteArray)(v:Value)(w:World) :
 Calls be 100 #[Im #[O J id,AI aB,AI cut,O J code,I name,O J an,v]] w λe w'=>e=sh (O J (pc aB cut))/\∃o,w'=w.alloc o:=by
 cases aB<;>cases cut
 all_goals
  go_enter Tryz.func100,Tryz.ntmps100;go_wp2_with fail;go_ret;exact⟨rfl,_,rfl⟩
def mw(id code an:Int)(aB cut:Bool)(name:ByteArray)(n:Nat):List Value:=
 cE id 2++(cE (pc aB cut) 1++(cE code 1++(cE 1 2++(cE n 2++(cE 0 2++(cE 0 2++(dD name++(cE an 2++cE 1 2))))))))
theorem Nw{r:Rc.Rec}(h:bL r=0):(ju r).length<=514:=by
 obtain⟨h1,_,h3,h4⟩:=fA h;have:=np h1;have:=tU h3 h4;unfold ju;simp only[Ii,bB];omega
theorem AF:∀(rs:List Rc.Rec),(∀r∈rs,bL r=0)->(rs.flatMap ju).length<=514*rs.length
 |[],_=>by simp
 |x::r,h=>by
  have h1:=Nw (h x List.mem_cons_self);have h2:=AF r (λy hy=>h y (List.mem_cons_of_mem _ hy));rw[JY,Ii,List.length_cons];omega
theorem AG(B b:Nat)(bs:List Value)(id code an:Int)(aB cut:Bool)(name:ByteArray)(rs:List Rc.Rec)(pa:Option Addr)(cap:Nat)(w:World)(hm:ML w)(h:cj B b bs w)(hlen:bs.length<=1000)(hn:bT name=0)(sw:B<=w.heap.size)(lR:0<B)(h20:rs.length<=20)(cM:∀r∈rs,bL r=0)(dL:∀W,Below B w W->rs=[]\/∃b off,pa=Z ⟨b,off,Y⟩/\b<W.heap.size/\Rc.Row W b off rs) :
 Calls be 74 #[If (Z ⟨b,0,Y⟩),Im #[O J id,AI aB,AI cut,O J code,I name,O J an,U pa rs.length cap]] w λe w'=>e=sh (Il #[])/\cj B b (bs++(mw id code an aB cut name rs.length++rs.flatMap ju)) w'/\Kp B b w w':=by
 have qD:Hid (∀W,Below B w W->rs=[]\/∃b off,pa=Z ⟨b,off,Y⟩/\b<W.heap.size/\Rc.Row W b off rs):=dL;have HCS:Hid (∀k,k<rs.length->bL (rs.getD k Rc.dm)=0):=λk hk=>cM _ (by simp[Io,Ic hk]);have GQ:Hid (∀k,((rs.take k).flatMap ju).length<=10280):=λk=>by
  refine Ir (AF (rs.take k) λx hx=>cM x (Jm hx)) ?_;rw[Iu];omega
 have HTK:Hid (∀k,k<rs.length->(rs.take (k+1)).flatMap ju=(rs.take k).flatMap ju++ju (rs.getD k Rc.dm)):=λk hk=>by
  rw[List.take_succ_eq_append_getElem hk,List.flatMap_append];simp[Io,hk]
 have Nx:Hid (rs.take rs.length=rs):=List.take_length;have HMW:Hid (ML w):=hm;clear dL cM;generalize Si:rs.length=n at *;have Sy:Hid (rs.length=n):=Si;clear Si;have HI:Hid (cj B b bs w):=h;clear h;have aU:=HI.out.lt;obtain⟨hL8,tT⟩:=kC hn;have hwn:(dD name).length<=249:=by
  unfold dD;rw[Ii,bB];have:=mv (gB name) tT;omega
 clear hL8 tT;go_enter Tryz.func74,Tryz.ntmps74;go_wp2_with fail;obtain⟨w0,dJ⟩:∃w0,w0=w.alloc (AT #[O J id,AI aB,AI cut,O J code,I name,O J an,U pa n cap] 43):=⟨_,rfl⟩;rw[<- dJ];have dt:w0.heap[w.heap.size]?=Z (AT #[O J id,AI aB,AI cut,O J code,I name,O J an,U pa n cap] 43 (0,0)):=by rw[dJ];exact Ie w _
 have xq:Hid (Kp B b w w0):=(show Kp B b w w0 by rw[dJ];exact Kp.alloc _ sw);have Mc:Hid (cj B b bs w0):=(show cj B b bs w0 by rw[dJ];exact HI.out.alloc _);have Ct:Hid (ML w0):=(show ML w0 from hm.kp xq.out lR);have HG:Hid (∀W,Kp B b w0 W->W.cell? ⟨w.heap.size,0,Y⟩=Z (O J id)/\W.cell? ⟨w.heap.size,1,Y⟩=Z (AI aB)/\W.cell? ⟨w.heap.size,2,Y⟩=Z (AI cut)/\W.cell? ⟨w.heap.size,3,Y⟩=Z (O J code)/\W.cell? ⟨w.heap.size,4,Y⟩=Z (I name)/\W.cell? ⟨w.heap.size,5,Y⟩=Z (O J an)/\W.cell? ⟨w.heap.size,6,Y⟩=Z (U pa n cap)):=λW hW=>by
  have hg:W.heap[w.heap.size]?=Z (AT #[O J id,AI aB,AI cut,O J code,I name,O J an,U pa n cap] 43 (0,0)):=hW.GU _ _ dt (by simp;omega) (by simp);exact⟨af hg 0,af hg 1,af hg 2,af hg 3,af hg 4,af hg 5,af hg 6⟩
 have bW:B<=w0.heap.size:=Ir sw xq.out.size;clear dt dJ hm;refine(aM B b 2 id bs w0 Mc.out (by omega) (by omega) (Ir bW (Kp.size (Kp.refl B b w0)))).mono ?_;rintro e w1 ⟨rfl,h1,al⟩;have nJ:Hid (Kp B b w0 w1):=Kp.trans (Kp.refl B b w0) al;have l1:(bs++cE id 2).length<=1002:=by rw[Ii,bB];omega
 obtain⟨D1,hD1⟩:∃D,D=bs++cE id 2:=⟨_,rfl⟩;rw[<- hD1] at h1 l1;have jF:Hid (D1=bs++cE id 2):=hD1;have sU:Hid (cj B b D1 w1):=h1;clear hD1 h1 al;obtain⟨c0,c1,c2,c3,c4,c5,c6⟩:=HG.out w1 nJ.out;go_wp2_with fail;refine(Dh id code an aB cut name _ _).mono ?_;rintro e wf ⟨rfl,o,GW⟩;have HIf:Hid (cj B b D1 wf):=(show cj B b D1 wf by rw[GW];exact cj.alloc sU.out _);have WM:Hid (Kp B b w0 wf):=(show Kp B b w0 wf by rw[GW];exact Kp.trans nJ.out (Kp.alloc _ (Ir bW (Kp.size nJ.out))));clear GW;obtain⟨x0,x1,x2,x3,x4,x5,x6⟩:=HG.out wf WM.out;clear c0 c1 c2 c3 c4 c5 c6;have c0:=x0;have c1:=x1;have c2:=x2;have c3:=x3;have c4:=x4;have c5:=x5;have c6:=x6;clear x0 x1 x2 x3 x4 x5 x6;go_wp2_with fail;refine(aM B b 1 (pc aB cut) D1 wf HIf.out (by omega) (by omega) (Ir bW (Kp.size WM.out))).mono ?_;rintro e w2 ⟨rfl,h2,aC⟩;have j3:Hid (Kp B b w0 w2):=Kp.trans WM.out aC;have l2:(D1++cE (pc aB cut) 1).length<=1003:=by rw[Ii,bB];omega
 obtain⟨D2,Ss⟩:∃D,D=D1++cE (pc aB cut) 1:=⟨_,rfl⟩;rw[<- Ss] at h2 l2;have lQ:Hid (D2=D1++cE (pc aB cut) 1):=Ss;have vC:Hid (cj B b D2 w2):=h2;clear Ss h2 aC c0 c1 c2 c3 c4 c5 c6;obtain⟨c0,c1,c2,c3,c4,c5,c6⟩:=HG.out w2 j3.out;go_wp2_with fail;refine(aM B b 1 code D2 w2 vC.out (by omega) (by omega) (Ir bW (Kp.size j3.out))).mono ?_;rintro e w3 ⟨rfl,h3,bf⟩;have nq:Hid (Kp B b w0 w3):=Kp.trans j3.out bf;have l3:(D2++cE code 1).length<=1004:=by rw[Ii,bB];omega
 obtain⟨D3,hD3⟩:∃D,D=D2++cE code 1:=⟨_,rfl⟩;rw[<- hD3] at h3 l3;have GX:Hid (D3=D2++cE code 1):=hD3;have TD:Hid (cj B b D3 w3):=h3;clear hD3 h3 bf c0 c1 c2 c3 c4 c5 c6;obtain⟨c0,c1,c2,c3,c4,c5,c6⟩:=HG.out w3 nq.out;go_wp2_with fail;refine(aM B b 2 1 D3 w3 TD.out (by omega) (by omega) (Ir bW (Kp.size nq.out))).mono ?_;rintro e w4 ⟨rfl,h4,fa⟩;have vD:Hid (Kp B b w0 w4):=Kp.trans nq.out fa;have l4:(D3++cE 1 2).length<=1006:=by rw[Ii,bB];omega
 obtain⟨D4,hD4⟩:∃D,D=D3++cE 1 2:=⟨_,rfl⟩;rw[<- hD4] at h4 l4;have WN:Hid (D4=D3++cE 1 2):=hD4;have TE:Hid (cj B b D4 w4):=h4;clear hD4 h4 fa c0 c1 c2 c3 c4 c5 c6;obtain⟨c0,c1,c2,c3,c4,c5,c6⟩:=HG.out w4 vD.out;go_wp2_with fail;refine(aM B b 2 n D4 w4 TE.out (by omega) (by omega) (Ir bW (Kp.size vD.out))).mono ?_;rintro e w5 ⟨rfl,h5,lA⟩;have xu:Hid (Kp B b w0 w5):=Kp.trans vD.out lA;have l5:(D4++cE n 2).length<=1008:=by rw[Ii,bB];omega
 obtain⟨D5,hD5⟩:∃D,D=D4++cE n 2:=⟨_,rfl⟩;rw[<- hD5] at h5 l5;have X8:Hid (D5=D4++cE n 2):=hD5;have X7:Hid (cj B b D5 w5):=h5;clear hD5 h5 lA c0 c1 c2 c3 c4 c5 c6;obtain⟨c0,c1,c2,c3,c4,c5,c6⟩:=HG.out w5 xu.out;go_wp2_with fail;refine(aM B b 2 0 D5 w5 X7.out (by omega) (by omega) (Ir bW (Kp.size xu.out))).mono ?_;rintro e w6 ⟨rfl,h6,ix⟩;have vA:Hid (Kp B b w0 w6):=Kp.trans xu.out ix;have l6:(D5++cE 0 2).length<=1010:=by rw[Ii,bB];omega
 obtain⟨D6,hD6⟩:∃D,D=D5++cE 0 2:=⟨_,rfl⟩;rw[<- hD6] at h6 l6;have WL:Hid (D6=D5++cE 0 2):=hD6;have X9:Hid (cj B b D6 w6):=h6;clear hD6 h6 ix c0 c1 c2 c3 c4 c5 c6;obtain⟨c0,c1,c2,c3,c4,c5,c6⟩:=HG.out w6 vA.out;go_wp2_with fail;refine(aM B b 2 0 D6 w6 X9.out (by omega) (by omega) (Ir bW (Kp.size vA.out))).mono ?_;rintro e w7 ⟨rfl,h7,wG⟩;have pY:Hid (Kp B b w0 w7):=Kp.trans vA.out wG;have l7:(D6++cE 0 2).length<=1012:=by rw[Ii,bB];omega
 obtain⟨D7,hD7⟩:∃D,D=D6++cE 0 2:=⟨_,rfl⟩;rw[<- hD7] at h7 l7;have HD7:Hid (D7=D6++cE 0 2):=hD7;have HI7:Hid (cj B b D7 w7):=h7;clear hD7 h7 wG c0 c1 c2 c3 c4 c5 c6;obtain⟨c0,c1,c2,c3,c4,c5,c6⟩:=HG.out w7 pY.out;go_wp2_with fail;refine(nr B b D7 name w7 (ML.kp Ct.out pY.out lR) HI7.out (by omega) hn (Ir bW (Kp.size pY.out))).mono ?_;rintro e w8 ⟨rfl,h8,wu⟩;have Fh:Hid (Kp B b w0 w8):=Kp.trans pY.out wu;have l8:(D7++dD name).length<=1261:=by rw[Ii];omega
 obtain⟨D8,Ny⟩:∃D,D=D7++dD name:=⟨_,rfl⟩;rw[<- Ny] at h8 l8;have HD8:Hid (D8=D7++dD name):=Ny;have HI8:Hid (cj B b D8 w8):=h8;clear Ny h8 wu c0 c1 c2 c3 c4 c5 c6;obtain⟨c0,c1,c2,c3,c4,c5,c6⟩:=HG.out w8 Fh.out;go_wp2_with fail;refine(aM B b 2 an D8 w8 HI8.out (by omega) (by omega) (Ir bW (Kp.size Fh.out))).mono ?_;rintro e w9 ⟨rfl,h9,vB⟩;have Fi:Hid (Kp B b w0 w9):=Kp.trans Fh.out vB;have l9:(D8++cE an 2).length<=1263:=by rw[Ii,bB];omega
 obtain⟨D9,hD9⟩:∃D,D=D8++cE an 2:=⟨_,rfl⟩;rw[<- hD9] at h9 l9;have HD9:Hid (D9=D8++cE an 2):=hD9;have HI9:Hid (cj B b D9 w9):=h9;clear hD9 h9 vB c0 c1 c2 c3 c4 c5 c6;obtain⟨c0,c1,c2,c3,c4,c5,c6⟩:=HG.out w9 Fi.out;go_wp2_with fail;refine(aM B b 2 1 D9 w9 HI9.out (by omega) (by omega) (Ir bW (Kp.size Fi.out))).mono ?_;rintro e w10 ⟨rfl,h10,gH⟩;have tY:Hid (Kp B b w0 w10):=Kp.trans Fi.out gH;have l10:(D9++cE 1 2).length<=1265:=by rw[Ii,bB];omega
 obtain⟨D10,Di⟩:∃D,D=D9++cE 1 2:=⟨_,rfl⟩;rw[<- Di] at h10 l10;have TI:Hid (D10=D9++cE 1 2):=Di;have TJ:Hid (cj B b D10 w10):=h10;clear Di h10 gH c0 c1 c2 c3 c4 c5 c6;obtain⟨c0,c1,c2,c3,c4,c5,c6⟩:=HG.out w10 tY.out;go_wp2_with fail;have HF:Hid (D10=bs++mw id code an aB cut name n):=(show _=_ by rw[TI.out,HD9.out,HD8.out,HD7.out,WL.out,X8.out,WN.out,GX.out,lQ.out,jF.out];simp[mw]);have HIF:Hid (cj B b (bs++mw id code an aB cut name n) w10):=(show cj _ _ _ _ by rw[<- HF.out];exact TJ.out);have HKF:Hid (Kp B b w w10):=xq.out.trans tY.out;have hhl:(bs++mw id code an aB cut name n).length<=1265:=by rw[<- HF.out];exact l10
 have amL:B<=w10.heap.size:=Ir sw HKF.out.size;obtain⟨H,hH⟩:∃H,H=bs++mw id code an aB cut name n:=⟨_,rfl⟩;rw[<- hH] at hhl HIF;have HH:Hid (H=bs++mw id code an aB cut name n):=hH;clear hH;clear HF jF lQ GX WN X8 WL HD7 HD8 HD9 TI sU vC TD TE X7 X9 HI7 HI8 HI9 TJ nJ j3 nq vD xu vA pY Fh Fi HIf WM l1 l2 l3 l4 l5 l6 l7 l8 l9 l10 c0 c1 c2 c3 c4 c5;go_loopw [44] (λi wr=>∃k:Nat,k<=n/\i=O J k/\Hid (cj B b (H++(rs.take k).flatMap ju) wr)/\Hid (Kp B b w wr)) (λi _=>n-(intOf i).toNat)
 case atStart=>exact⟨0,II _,rfl,by simpa using HIF,HKF⟩
 case round=>
  obtain⟨k,hk,rfl,HW,TK⟩:=hrel;have GY:B<=wr.heap.size:=Ir sw TK.out.size;have oi:=GQ.out k;by_cases aL:k<n
  .obtain⟨bR,off,Nt,rE,hr⟩:∃b off,pa=Z ⟨b,off,Y⟩/\b<wr.heap.size/\Rc.Row wr b off rs:=by
    rcases qD.out wr TK.out.yd with h|h
    .have:=Sy.out;rw[h] at this;simp at this;omega
    .exact h
   subst Nt;obtain⟨c0,c1,c2,c3,c4,c5,c7⟩:=hr k (by rw[Sy.out];exact aL);have acW:=HTK.out k aL;have rL:=HCS.out k aL;have ag2:Hid ((rs.take (k+1)).flatMap ju=(rs.take k).flatMap ju++ju (rs.getD k Rc.dm)):=acW;have ag4:Hid (bL (rs.getD k Rc.dm)=0):=rL;clear acW rL hr;generalize rs.getD k Rc.dm=r at *;have hd:decide ((k:Int)<(n:Int))=true:=by simp;omega
   have ei:(0:Int)<=(k:Int):=by omega
   have X0:(k:Int)<(n:Int):=by omega
   have Gi:((k:Int)).toNat=k:=by omega
   go_wp2_with fail;obtain⟨wx,hwx⟩:∃wx,wx=wr.alloc (AT #[I r.name,O J r.an,O J r.aK,O J r.addr,I r.text,O J r.port,I r.target] 64):=⟨_,rfl⟩;rw[<- hwx];have HIX:Hid (cj B b (H++(rs.take k).flatMap ju) wx):=(show cj _ _ _ _ by rw[hwx];exact HW.out.alloc _);have HKX:Hid (Kp B b w wx):=(show Kp _ _ _ _ by rw[hwx];exact TK.out.trans (Kp.alloc _ GY));clear hwx c0 c1 c2 c3 c4 c5 c7;refine(AE B b _ r wx (HMW.out.kp HKX.out lR) HIX.out (by rw[Ii];omega) ag4.out (Ir sw HKX.out.size) lR).mono ?_;rintro e w12 ⟨rfl,h1,al⟩;have ag6:Hid (cj B b (H++(rs.take (k+1)).flatMap ju) w12):=(show cj _ _ _ _ by rw[ag2.out,<- I1];exact h1);have Nz:Hid (Kp B b w w12):=HKX.out.trans al;clear h1 al;go_wp2_with fail;exact⟨⟨k+1,by omega,by go_num,ag6,Nz⟩,by simp[intOf];omega⟩
  .have fM:k=n:=by omega
   have HIZ:Hid (cj B b (bs++(mw id code an aB cut name n++rs.flatMap ju)) wr):=(show cj _ _ _ _ by
    have h:=HW.out;rw[fM,Nx.out,HH.out,I1] at h;exact h)
   have hd:decide ((k:Int)<(n:Int))=false:=by simp;omega
   clear fM;go_wp2_with fail;simp[Jk,results,Tryz.results74];exact⟨HIZ.out,TK.out⟩
def dv(r:Rc.Rec):List UInt8:=cG r.name++(fC r.an 2++(fC 1 2++(fC r.aK 4++(fC (fj r).length 2++fj r))))
def mx(id code an:Int)(aB cut:Bool)(name:ByteArray)(n:Nat):List UInt8:=
 fC id 2++(fC (pc aB cut) 1++(fC code 1++(fC 1 2++(fC n 2++(fC 0 2++(fC 0 2++(cG name++(fC an 2++fC 1 2))))))))
def cL(id code an:Int)(aB cut:Bool)(name:ByteArray)(rs:List Rc.Rec):List UInt8:=mx id code an aB cut name rs.length++rs.flatMap dv
theorem Dj(r:Rc.Rec):ju r=I8 (dv r):=by
 unfold ju dv;rw[ou];simp only[fy,fx,ij,O1]
theorem tZ:∀(rs:List Rc.Rec),rs.flatMap ju=I8 (rs.flatMap dv)
 |[]=>rfl
 |r::t=>by rw[JY,JY,fy,Dj,tZ t]
theorem Dk(id code an:Int)(aB cut:Bool)(name:ByteArray)(rs:List Rc.Rec):mw id code an aB cut name rs.length++rs.flatMap ju=I8 (cL id code an aB cut name rs):=by
 unfold mw cL mx;simp only[fy,fx,ij,tZ]
theorem NA(id code an:Int)(aB cut:Bool)(name:ByteArray)(rs:List Rc.Rec):cL id code an aB cut name rs≠[]:=by
 unfold cL mx;simp[fC]
theorem xv:∀{rs:List Rc.Rec},gA rs=0->∀r∈rs,bL r=0
 |[],_,_,h=>by cases h
 |x::t,h0,r,hr=>by
  unfold gA at h0;split at h0
  .rename_i h1
   rcases Jd.1 hr with rfl|hr
   .exact h1
   .exact xv h0 r hr
  .rename_i h1
   exact absurd h0 h1
theorem cX{id code an:Int}{name:ByteArray}{rs:List Rc.Rec}(h:bn id code an name rs=0):rs.length<=20/\bT name=0/\∀r∈rs,bL r=0:=by
 unfold bn at h;split at h
 .omega
 split at h
 .omega
 rename_i h2;split at h
 .omega
 rename_i h3;split at h
 .omega
 exact⟨by omega,by omega,xv h⟩
theorem rM(id code an:Int)(aB cut:Bool)(name:ByteArray)(rs:List Rc.Rec)(pa:Option Addr)(cap:Nat)(w:World)(hm:ML w)(hn:bT name=0)(h20:rs.length<=20)(cM:∀r∈rs,bL r=0)(dL:∀W,Below w.heap.size w W->rs=[]\/∃b off,pa=Z ⟨b,off,Y⟩/\b<W.heap.size/\Rc.Row W b off rs) :
 Calls be 29 #[Im #[O J id,AI aB,AI cut,O J code,I name,O J an,U pa rs.length cap]] w λe w'=>e=sh (I ⟨(cL id code an aB cut name rs).toArray⟩)/\Below w.heap.size w w':=by
 have HMS:Hid (∀W,ML W->cj (w.heap.size+1) (w.heap.size+1) [] W->Below w.heap.size w W->w.heap.size+1<=W.heap.size->Calls be 74 #[If (Z ⟨w.heap.size+1,0,Y⟩),Im #[O J id,AI aB,AI cut,O J code,I name,O J an,U pa rs.length cap]] W λe w'=>e=sh (Il #[])/\cj (w.heap.size+1) (w.heap.size+1) ([]++(mw id code an aB cut name rs.length++rs.flatMap ju)) w'/\Kp (w.heap.size+1) (w.heap.size+1) W w'):=λW h1 h2 h3 h4=>AG (w.heap.size+1) (w.heap.size+1) [] id code an aB cut name rs pa cap W h1 h2 (by simp) hn h4 (by omega) h20 cM (λW2 eX=>dL W2 (h3.trans (eX.mono (by omega))));clear dL cM h20 hn;generalize Si:rs.length=n at *;have Sy:Hid (rs.length=n):=Si;clear Si;go_enter Tryz.func29,Tryz.ntmps29;go_wp2_with fail;obtain⟨w0,dJ⟩:∃w0,w0=(w.alloc (AT #[O J id,AI aB,AI cut,O J code,I name,O J an,U pa n cap] 43)).alloc (AT #[If Y,U Y 0 0] 131):=⟨_,rfl⟩;rw[<- dJ];have bA:w0.heap.size=w.heap.size+2:=by rw[dJ];simp
 have zI:w0.heap[w.heap.size+1]?=Z (AT #[If Y,U Y 0 0] 131 (0,0)):=by
  have h:=Ie (w.alloc (AT #[O J id,AI aB,AI cut,O J code,I name,O J an,U pa n cap] 43)) (AT #[If Y,U Y 0 0] 131);rw[dJ];simpa using h
 have dy:Hid (Below w.heap.size w w0):=(show Below _ _ _ by rw[dJ];exact((Ib _ _).alloc (By _) _).alloc (by simp) _);have Mc:Hid (cj (w.heap.size+1) (w.heap.size+1) [] w0):=(show cj _ _ _ _ from .inl ⟨By _,U Y 0 0,zI,Jp w0 _ 5 1,by simp[I2]⟩);have Ct:Hid (ML w0):=(show ML w0 from hm.below dy.out);clear dJ zI hm;refine(HMS.out w0 Ct.out Mc.out dy.out (by omega)).mono ?_;rintro e w1 ⟨rfl,h1,al⟩;have sU:Hid (cj (w.heap.size+1) (w.heap.size+1) (I8 (cL id code an aB cut name rs)) w1):=(show cj _ _ _ _ by rw[<- Dk,Sy.out];simpa using h1);have aR:Hid (Below w.heap.size w w1):=dy.out.trans (al.yd.mono (by omega));have cS:=aR.out.size;have iX:=al.size;clear h1 al;go_wp2_with fail;refine(ua (w.heap.size+1) (w.heap.size+1) _ w1 sU.out (NA _ _ _ _ _ _ _)).mono ?_;rintro e w2 ⟨rfl,aC⟩;have bw:Hid (Below w.heap.size w w2):=aR.out.trans (aC.mono (by omega));clear aC;go_wp2_with fail;go_ret;exact⟨rfl,bw.out⟩
theorem Dl(g n:Nat)(E id code an:Int)(aB cut:Bool)(name:ByteArray)(pa:Option Addr)(cap:Nat)(w:World)(hg:w.heap[g]?=Z (AT #[O J id,AI aB,AI cut,O J code,I name,O J an,U pa n cap] 43 (0,0)))(hc:Calls be 28 #[Im #[O J id,AI aB,AI cut,O J code,I name,O J an,U pa n cap]] w λr w'=>r=dW E/\Below w.heap.size w w') :
 Calls be 27 #[If (Z ⟨g,0,Y⟩)] w λr w'=>r=dW E/\Below w.heap.size w w':=by
 have HC:Hid (Calls be 28 #[Im #[O J id,AI aB,AI cut,O J code,I name,O J an,U pa n cap]] w λr w'=>r=dW E/\Below w.heap.size w w'):=hc;have c0:w.cell? ⟨g,0,Y⟩=Z (O J id):=af hg 0;have c1:w.cell? ⟨g,1,Y⟩=Z (AI aB):=af hg 1;have c2:w.cell? ⟨g,2,Y⟩=Z (AI cut):=af hg 2;have c3:w.cell? ⟨g,3,Y⟩=Z (O J code):=af hg 3;have c4:w.cell? ⟨g,4,Y⟩=Z (I name):=af hg 4;have c5:w.cell? ⟨g,5,Y⟩=Z (O J an):=af hg 5;have c6:w.cell? ⟨g,6,Y⟩=Z (U pa n cap):=af hg 6;clear hc hg;go_enter Tryz.func27,Tryz.ntmps27;go_wp2_with fail;refine HC.out.mono ?_;rintro e w1 ⟨rfl,al⟩;have aR:Hid (Below w.heap.size w w1):=al;clear al;by_cases h0:E=0
 .subst h0
  rw[ot];go_wp2_with fail;simp[Jk,results,Tryz.results27];exact⟨rfl,aR.out⟩
 .rw[eb h0]
  exact⟨rfl,(eb h0).symm,aR.out⟩
theorem rN(f:Nat)(sd:Array Value)(E:Int)(w:World)(ef:∀args W,(Ot f args).run be W=.ok (.enter f args) W)(hc:Calls be f sd (w.alloc (AT #[O J 0] 34)) λr w'=>r=dW E/\Below (w.heap.size+1) (w.alloc (AT #[O J 0] 34)) w') :
 Calls be 26 #[.func (.func f) #[] sd] w λr w'=>r=sh (O J E)/\Below w.heap.size w w':=by
 have j6:(w.alloc (AT #[O J 0] 34)).heap[w.heap.size]?=Z (AT #[O J 0] 34 (0,0)):=Ie w _;by_cases h0:E=0
 .subst h0
  refine(kV f sd w (λW=>Below (w.heap.size+1) (w.alloc (AT #[O J 0] 34)) W) ef (hc.mono ?_)).mono ?_
  .rintro r w' ⟨rfl,hb⟩
   have hk:w'.heap[w.heap.size]?=Z (AT #[O J 0] 34 (0,0)):=(hb.block _ (by omega)).trans j6;exact⟨rfl,hb,af hk 0,by simp[Ig,hk],(Ia.1 hk).1⟩
  .rintro r w' ⟨rfl,w1,hR,_,rfl⟩
   exact⟨rfl,(((Ib _ _).alloc (By _) _).trans (hR.mono (by omega))).setCell (p:=⟨w.heap.size,0,Y⟩) (By _) _⟩
 .refine(tu f sd E w (λW=>Below (w.heap.size+1) (w.alloc (AT #[O J 0] 34)) W) ef (hc.mono ?_)).mono ?_
  .rintro r w' ⟨rfl,hb⟩
   have hk:w'.heap[w.heap.size]?=Z (AT #[O J 0] 34 (0,0)):=(hb.block _ (by omega)).trans j6;exact⟨eb h0,hb,af hk 0,by simp[Ig,hk],(Ia.1 hk).1⟩
  .rintro r w' ⟨rfl,w1,hR,_,hb⟩
   exact⟨rfl,(((Ib _ _).alloc (By _) _).trans (hR.mono (by omega))).trans hb⟩
def zO(id code an:Int)(aB cut:Bool)(name:ByteArray)(rs:List Rc.Rec):Int:=if bn id code an name rs=0 then(if 512<(cL id code an aB cut name rs).length then 2 else 0) else bn id code an name rs
def ow(id code an:Int)(aB cut:Bool)(name:ByteArray)(rs:List Rc.Rec):ByteArray:=if bn id code an name rs=0 then(if 512<(cL id code an aB cut name rs).length then⟨#[]⟩ else⟨(cL id code an aB cut name rs).toArray⟩) else⟨#[]⟩
theorem xx{w W:World}{b off:Nat}{rs:List Rc.Rec}(h:Rc.Row w b off rs)(hW:Below w.heap.size w W)(hb:b<w.heap.size):Rc.Row W b off rs:=λj hj=>by
 obtain⟨c0,c1,c2,c3,c4,c5,c6⟩:=h j hj;exact⟨(hW.cell (p:=⟨b,off+j*7,Y⟩) hb).trans c0,(hW.cell (p:=⟨b,off+j*7+1,Y⟩) hb).trans c1,(hW.cell (p:=⟨b,off+j*7+2,Y⟩) hb).trans c2,(hW.cell (p:=⟨b,off+j*7+3,Y⟩) hb).trans c3,(hW.cell (p:=⟨b,off+j*7+4,Y⟩) hb).trans c4,(hW.cell (p:=⟨b,off+j*7+5,Y⟩) hb).trans c5,(hW.cell (p:=⟨b,off+j*7+6,Y⟩) hb).trans c6⟩
theorem GZ(id code an:Int)(aB cut:Bool)(name:ByteArray)(rs:List Rc.Rec)(v:Value)(w:World)(hm:ML w)(hs:name.size<=Ij)(hv:Rc.Sl w v rs) :
 Calls be 9 #[Im #[O J id,AI aB,AI cut,O J code,I name,O J an,v]] w λe w'=>e=sh (Il #[I (ow id code an aB cut name rs),O J (zO id code an aB cut name rs)])/\Below w.heap.size w w':=by
 have HSL:Hid (Rc.Sl w v rs):=hv;obtain⟨pa,cap,rfl,kM,dL⟩:=hv;have qD:Hid (∀W,Below w.heap.size w W->rs=[]\/∃b off,pa=Z ⟨b,off,Y⟩/\b<W.heap.size/\Rc.Row W b off rs):=λW hW=>by
  rcases dL with h|⟨b,off,h1,h2,h3⟩
  .exact .inl h
  .exact .inr ⟨b,off,h1,Iv h2 hW.size,xx h3 hW h2⟩
 have NB:Hid (bn id code an name rs=0->∀W,Below w.heap.size w W->Calls be 29 #[Im #[O J id,AI aB,AI cut,O J code,I name,O J an,U pa rs.length cap]] W λe w'=>e=sh (I ⟨(cL id code an aB cut name rs).toArray⟩)/\Below W.heap.size W w'):=λhc W hW=>by
  obtain⟨f1,f2,f3⟩:=cX hc;exact rM id code an aB cut name rs pa cap W (hm.below hW) f2 f1 f3 (λW2 eX=>qD.out W2 (hW.trans (eX.mono hW.size)))
 have HC:Hid (∀W,Below w.heap.size w W->Calls be 28 #[Im #[O J id,AI aB,AI cut,O J code,I name,O J an,U pa rs.length cap]] W λr w'=>r=dW (bn id code an name rs)/\Below W.heap.size W w'):=λW hW=>k7 id code an aB cut name rs _ W hs (HSL.out.below hW);have hWL:(⟨(cL id code an aB cut name rs).toArray⟩:ByteArray).size=(cL id code an aB cut name rs).length:=by simp[JJ]
 have ef:∀args W,(Ot 27 args).run be W=.ok (.enter 27 args) W:=enters_of Tryz.func27 (by kernel_rfl) rfl;have kD:Hid (bn id code an name rs=0->¬ 512<(⟨(cL id code an aB cut name rs).toArray⟩:ByteArray).size->ow id code an aB cut name rs=⟨(cL id code an aB cut name rs).toArray⟩/\zO id code an aB cut name rs=0):=λh1 h2=>by
  rw[hWL] at h2;unfold ow zO;rw[if_pos h1,if_pos h1,if_neg h2,if_neg h2];exact⟨rfl,rfl⟩
 have my:Hid (bn id code an name rs=0->512<(⟨(cL id code an aB cut name rs).toArray⟩:ByteArray).size->ow id code an aB cut name rs=⟨#[]⟩/\zO id code an aB cut name rs=2):=λh1 h2=>by
  rw[hWL] at h2;unfold ow zO;rw[if_pos h1,if_pos h1,if_pos h2,if_pos h2];exact⟨rfl,rfl⟩
 have AH:Hid (bn id code an name rs≠0->ow id code an aB cut name rs=⟨#[]⟩/\zO id code an aB cut name rs=bn id code an name rs):=λh1=>by
  unfold ow zO;rw[if_neg h1,if_neg h1];exact⟨rfl,rfl⟩
 clear hm hs kM dL qD HSL hWL;generalize bn id code an name rs=E at *;generalize(⟨(cL id code an aB cut name rs).toArray⟩:ByteArray)=T at *;generalize ow id code an aB cut name rs=RT at *;generalize zO id code an aB cut name rs=RE at *;generalize rs.length=n at *;go_enter Tryz.func9,Tryz.ntmps9;go_wp2_with fail;obtain⟨w0,dJ⟩:∃w0,w0=w.alloc (AT #[O J id,AI aB,AI cut,O J code,I name,O J an,U pa n cap] 43):=⟨_,rfl⟩;rw[<- dJ];have dt:w0.heap[w.heap.size]?=Z (AT #[O J id,AI aB,AI cut,O J code,I name,O J an,U pa n cap] 43 (0,0)):=by rw[dJ];exact Ie w _
 have dy:Hid (Below w.heap.size w w0):=(show Below _ _ _ by rw[dJ];exact(Ib _ _).alloc (By _) _);have vz:w.heap.size<w0.heap.size:=(Ia.1 dt).1;clear dJ;have fw:Hid (Calls be 26 #[.func (.func 27) #[] #[If (Z ⟨w.heap.size,0,Y⟩)]] w0 λr w'=>r=sh (O J E)/\Below w0.heap.size w0 w'):=(show Calls _ _ _ _ _ by
  refine rN 27 #[If (Z ⟨w.heap.size,0,Y⟩)] E w0 ef ?_;have h:=Dl w.heap.size n E id code an aB cut name pa cap (w0.alloc (AT #[O J 0] 34)) ((I9 w0 _ _ vz).trans dt) (HC.out _ (dy.out.alloc (J8 vz) _));simpa using h)
 have HCB:Hid (∀W,Below w0.heap.size w0 W->W.heap[w.heap.size]?=Z (AT #[O J id,AI aB,AI cut,O J code,I name,O J an,U pa n cap] 43 (0,0))):=λW hW=>(hW.block _ vz).trans dt;clear dt ef HC;refine fw.out.mono ?_;rintro e w1 ⟨rfl,al⟩;have aR:Hid (Below w.heap.size w w1):=dy.out.trans (al.mono (J8 vz));have bb:=HCB.out w1 al;have c0:w1.cell? ⟨w.heap.size,0,Y⟩=Z (O J id):=af bb 0;have c1:w1.cell? ⟨w.heap.size,1,Y⟩=Z (AI aB):=af bb 1;have c2:w1.cell? ⟨w.heap.size,2,Y⟩=Z (AI cut):=af bb 2;have c3:w1.cell? ⟨w.heap.size,3,Y⟩=Z (O J code):=af bb 3;have c4:w1.cell? ⟨w.heap.size,4,Y⟩=Z (I name):=af bb 4;have c5:w1.cell? ⟨w.heap.size,5,Y⟩=Z (O J an):=af bb 5;have c6:w1.cell? ⟨w.heap.size,6,Y⟩=Z (U pa n cap):=af bb 6;clear al bb fw HCB;by_cases h0:E=0
 .have NC:=NB.out h0 w1 aR.out
  have ag8:Hid (Calls be 29 #[Im #[O J id,AI aB,AI cut,O J code,I name,O J an,U pa n cap]] w1 λe w'=>e=sh (I T)/\Below w1.heap.size w1 w'):=NC;clear NC;have h1:(E !=0)=false:=by simpa using h0
  have H1:=kD.out h0;have H2:=my.out h0;subst h0;clear h1 kD my AH;have K1:Hid (¬ 512<T.size->RT=T/\RE=0):=H1;have K2:Hid (512<T.size->RT=⟨#[]⟩/\RE=2):=H2;clear H1 H2;go_wp2_with fail;refine ag8.out.mono ?_;rintro e w2 ⟨rfl,aC⟩;have bw:Hid (Below w.heap.size w w2):=aR.out.trans (aC.mono aR.out.size);clear aC;by_cases hT:512<T.size
  .obtain⟨e1,e2⟩:=K2.out hT
   have G6:decide (512<(T.size:Int))=true:=by simp;omega
   go_wp2_with fail;go_ret2;exact⟨by rw[e1,e2];rfl,bw.out⟩
  .obtain⟨e1,e2⟩:=K1.out hT
   have G6:decide (512<(T.size:Int))=false:=by simp;omega
   go_wp2_with fail;go_ret2;exact⟨by rw[e1,e2];rfl,bw.out⟩
 .have h1:(E !=0)=true:=by simpa using h0
  have K3:Hid (RT=⟨#[]⟩/\RE=E):=AH.out h0;go_wp2_with fail;go_ret2;exact⟨by rw[K3.out.1,K3.out.2];rfl,aR.out⟩
theorem ND{id code an:Int}{name:ByteArray}{rs:List Rc.Rec}(h:bn id code an name rs=0):(0<=id/\id<=65535)/\(0<=code/\code<=15)/\(0<=an/\an<=33):=by
 unfold bn at h;split at h
 .omega
 rename_i h1;split at h
 .omega
 split at h
 .omega
 split at h
 .omega
 rename_i h4;have CR:(within id 0 65535&&within code 0 15)=true:=by simpa using h1
 have h4':gz an=true:=by simpa using h4
 simp only[within,Bool.and_eq_true,decide_eq_true_eq] at CR;simp only[gz,Bool.or_eq_true,decide_eq_true_eq] at h4';exact⟨CR.1,CR.2,by omega,by omega⟩
end Go.Proofs.YtfidjlcdlakceaaGreatDoor
namespace Go.Proofs.YtfidjlcdlakceaaGreatDoor
open Go.RowKit Go.Lib
abbrev mz:ByteArray:=⟨#[97,46,98]⟩
abbrev mA:ByteArray:=⟨#[1,2,0,0,0,1,0,0,0,0,0,0,1,97,1,98,0,0,1,0,1]⟩
theorem G7:(⟨(jv 258 0 1 false false mz).toArray⟩:ByteArray)=mA:=by kernel_rfl
theorem WO:bT mz=0:=by kernel_rfl
theorem acZ:(jv 258 0 1 false false mz).length=21:=by kernel_rfl
theorem TM:Reads mA 258 0 1 mz:=⟨λg w h=>by
 have h:=wH g 258 0 1 17 [⟨#[97]⟩,⟨#[98]⟩] mA w h (by decide) (by kernel_rfl) (by kernel_rfl) (by kernel_rfl) (by kernel_rfl) (by kernel_rfl) (by kernel_rfl) (by kernel_rfl)
  ⟨by kernel_rfl,by decide,by kernel_rfl,by kernel_rfl,by decide,by kernel_rfl,by decide,by kernel_rfl⟩ (λl hl=>by
   simp only[Jd,List.not_mem_nil,or_false] at hl;rcases hl with rfl|rfl<;>kernel_rfl) (by decide) (by decide) (by kernel_rfl) (by kernel_rfl) (by kernel_rfl) (by decide) (by kernel_rfl)
 exact h⟩
theorem yG(w:World)(hm:ML w) :
 Calls be 6 #[] w λe w'=>e=sh (AI true)/\Below w.heap.size w w':=by
 have HW:Hid (Calls be 9 #[sx 258 0 1 false false mz] w λe w'=>e=sh (Il #[I mA,O J 0])/\Below w.heap.size w w'):=(show Calls _ _ _ _ _ by
  have h:=Dn 258 0 1 false false mz w hm (by decide) (by decide) (by decide) WO (by decide) (by rw[acZ];omega);rw[G7] at h;exact h)
 have HR:Hid (∀W,Calls be 19 #[I mA] W λe w'=>e=sh (Il #[sx 258 0 1 false false mz,O J 0])/\Below W.heap.size W w'):=λW=>G8 258 0 1 mz mA W TM (by decide) (by decide) (by decide) (by decide) WO (by decide);have bA:mA.size=21:=by kernel_rfl
 clear hm;generalize mA=T at *;go_enter Tryz.func6,Tryz.ntmps6;go_wp2_with fail;refine HW.out.mono ?_;rintro e w1 ⟨rfl,al⟩;have aR:Hid (Below w.heap.size w w1):=al;have eY:=al.size;clear al;go_wp2_with fail;refine(HR.out _).mono ?_;rintro e w2 ⟨rfl,aC⟩;have bw:Hid (Below w.heap.size w w2):=aR.out.trans (aC.mono eY);have fG:=bw.out.size;clear aC aR;have h21:((T.size:Int)==21)=true:=by rw[bA];rfl
 go_wp2_with fail;simp[Jk,results,Tryz.results6];exact bw.out.alloc fG _
end Go.Proofs.YtfidjlcdlakceaaGreatDoor
namespace Go.Proofs.YtfidjlcdlakceaaGreatDoor
open Go.RowKit
def sy(id code an:Int)(aB cut:Bool)(name:ByteArray)(rs:List Rc.Rec)(n:Nat):List UInt8:=cL id code an aB (cut||decide (n<rs.length)) name (rs.take n)
def nK(f:Nat->List UInt8)(size:Int):Nat->Option (List UInt8)
 |0=>if((f 0).length:Int)<=size then Z (f 0) else Y
 |k+1=>if((f (k+1)).length:Int)<=size then Z (f (k+1)) else nK f size k
def qF(id code an:Int)(aB cut:Bool)(name:ByteArray)(rs:List Rc.Rec)(size:Int):Int:=
 if within size 12 512=false then 3
 else if bn id code an name rs=0 then(if(nK (sy id code an aB cut name rs) size rs.length).isSome then 0 else 2)
 else bn id code an name rs
def pd(id code an:Int)(aB cut:Bool)(name:ByteArray)(rs:List Rc.Rec)(size:Int):ByteArray:=
 if within size 12 512=false then⟨#[]⟩
 else if bn id code an name rs=0 then⟨((nK (sy id code an aB cut name rs) size rs.length).getD []).toArray⟩
 else⟨#[]⟩
theorem AJ{f:Nat->List UInt8}{size:Int}:∀{n j:Nat},j<=n->(∀i,j<i->i<=n->size<((f i).length:Int))->((f j).length:Int)<=size->nK f size n=Z (f j)
 |0,j,hj,_,h=>by
  obtain rfl:j=0:=by omega
  simp only[nK,if_pos h]
 |n+1,j,hj,hi,h=>by
  rcases Nat.lt_or_ge n j with h1|h1
  .obtain rfl:j=n+1:=by omega
   simp only[nK,if_pos h]
  .have h2:=hi (n+1) (by omega) (by omega)
   simp only[nK];rw[if_neg (by omega)];exact AJ h1 (λi h3 h4=>hi i h3 (by omega)) h
theorem Fj{f:Nat->List UInt8}{size:Int}:∀{n:Nat},(∀i,i<=n->size<((f i).length:Int))->nK f size n=Y
 |0,hi=>by
  have h:=hi 0 (by omega);simp only[nK];rw[if_neg (by omega)]
 |n+1,hi=>by
  have h:=hi (n+1) (by omega);simp only[nK];rw[if_neg (by omega)];exact Fj (λi h3=>hi i (by omega))
theorem NF{w:World}{b off:Nat}{rs:List Rc.Rec}(h:Rc.Row w b off rs)(n:Nat):Rc.Row w b off (rs.take n):=λj hj=>by
 have h1:j<rs.length:=by rw[Iu] at hj;omega
 have h2:(rs.take n).getD j Rc.dm=rs.getD j Rc.dm:=by
  have h3:j<n:=by rw[Iu] at hj;omega
  simp[Io,h3]
 rw[h2];exact h j h1
theorem NG(g n:Nat)(E id code an:Int)(aB cut:Bool)(name:ByteArray)(pa:Option Addr)(cap:Nat)(w:World)(hg:w.heap[g]?=Z (AT #[O J id,AI aB,AI cut,O J code,I name,O J an,U pa n cap] 43 (0,0)))(hc:Calls be 28 #[Im #[O J id,AI aB,AI cut,O J code,I name,O J an,U pa n cap]] w λr w'=>r=dW E/\Below w.heap.size w w') :
 Calls be 191 #[If (Z ⟨g,0,Y⟩)] w λr w'=>r=dW E/\Below w.heap.size w w':=by
 have HC:Hid (Calls be 28 #[Im #[O J id,AI aB,AI cut,O J code,I name,O J an,U pa n cap]] w λr w'=>r=dW E/\Below w.heap.size w w'):=hc;have c0:w.cell? ⟨g,0,Y⟩=Z (O J id):=af hg 0;have c1:w.cell? ⟨g,1,Y⟩=Z (AI aB):=af hg 1;have c2:w.cell? ⟨g,2,Y⟩=Z (AI cut):=af hg 2;have c3:w.cell? ⟨g,3,Y⟩=Z (O J code):=af hg 3;have c4:w.cell? ⟨g,4,Y⟩=Z (I name):=af hg 4;have c5:w.cell? ⟨g,5,Y⟩=Z (O J an):=af hg 5;have c6:w.cell? ⟨g,6,Y⟩=Z (U pa n cap):=af hg 6;clear hc hg;go_enter Tryz.func191,Tryz.ntmps191;go_wp2_with fail;refine HC.out.mono ?_;rintro e w1 ⟨rfl,al⟩;have aR:Hid (Below w.heap.size w w1):=al;clear al;by_cases h0:E=0
 .subst h0
  rw[ot];go_wp2_with fail;simp[Jk,results,Tryz.results191];exact⟨rfl,aR.out⟩
 .rw[eb h0]
  exact⟨rfl,(eb h0).symm,aR.out⟩
theorem TN(id code an size:Int)(aB cut:Bool)(name:ByteArray)(rs:List Rc.Rec)(pa:Option Addr)(cap:Nat)(w:World)(hm:ML w)(hs:name.size<=Ij)(hv:Rc.Sl w (U pa rs.length cap) rs)(NH:rs.length<=cap) :
 Calls be 137 #[Im #[O J id,AI aB,AI cut,O J code,I name,O J an,U pa rs.length cap],O J size] w λe w'=>e=sh (Il #[I (pd id code an aB cut name rs size),O J (qF id code an aB cut name rs size)])/\Below w.heap.size w w':=by
 have HSL:Hid (Rc.Sl w (U pa rs.length cap) rs):=hv;obtain⟨pa',amO,heq,kM,dL⟩:=hv;injection heq with q1 q2 q3;subst q1;clear q2 q3;have qD:Hid (∀W,Below w.heap.size w W->rs=[]\/∃b off,pa=Z ⟨b,off,Y⟩/\b<W.heap.size/\Rc.Row W b off rs):=λW hW=>by
  rcases dL with h|⟨b,off,h1,h2,h3⟩
  .exact .inl h
  .exact .inr ⟨b,off,h1,Iv h2 hW.size,xx h3 hW h2⟩
 have NB:Hid (bn id code an name rs=0->∀W,Below w.heap.size w W->∀j,j<=rs.length->Calls be 29 #[Im #[O J id,AI aB,AI (cut||decide (j<rs.length)),O J code,I name,O J an,U pa j cap]] W λe w'=>e=sh (I ⟨(sy id code an aB cut name rs j).toArray⟩)/\Below W.heap.size W w'):=λhc W hW j hj=>by
  obtain⟨f1,f2,f3⟩:=cX hc;have hl:(rs.take j).length=j:=by rw[Iu];omega
  have h:=rM id code an aB (cut||decide (j<rs.length)) name (rs.take j) pa cap W (hm.below hW) f2 (by omega) (λr hr=>f3 r (Jm hr)) (λW2 eX=>by
   rcases qD.out W2 (hW.trans (eX.mono hW.size)) with h|⟨b,off,h1,h2,h3⟩
   .exact .inl (by rw[h];simp)
   .exact .inr ⟨b,off,h1,h2,NF h3 j⟩)
  rw[hl] at h;exact h
 have HC:Hid (∀W,Below w.heap.size w W->Calls be 28 #[Im #[O J id,AI aB,AI cut,O J code,I name,O J an,U pa rs.length cap]] W λr w'=>r=dW (bn id code an name rs)/\Below W.heap.size W w'):=λW hW=>k7 id code an aB cut name rs _ W hs (HSL.out.below hW);have ef:∀args W,(Ot 191 args).run be W=.ok (.enter 191 args) W:=enters_of Tryz.func191 (by kernel_rfl) rfl;have K0:Hid (within size 12 512=false->pd id code an aB cut name rs size=⟨#[]⟩/\qF id code an aB cut name rs size=3):=λh=>by
  unfold pd qF;rw[if_pos h,if_pos h];exact⟨rfl,rfl⟩
 have K1:Hid (within size 12 512=true->bn id code an name rs≠0->pd id code an aB cut name rs size=⟨#[]⟩/\qF id code an aB cut name rs size=bn id code an name rs):=λh h1=>by
  unfold pd qF;rw[if_neg (by simp[h]),if_neg h1,if_neg (by simp[h]),if_neg h1];exact⟨rfl,rfl⟩
 have K2:Hid (within size 12 512=true->bn id code an name rs=0->∀j,j<=rs.length->(∀i,j<i->i<=rs.length->size<((sy id code an aB cut name rs i).length:Int))->((sy id code an aB cut name rs j).length:Int)<=size->pd id code an aB cut name rs size=⟨(sy id code an aB cut name rs j).toArray⟩/\qF id code an aB cut name rs size=0):=λh h1 j hj hi hl=>by
  unfold pd qF;rw[if_neg (by simp[h]),if_pos h1,if_neg (by simp[h]),if_pos h1,AJ hj hi hl];exact⟨rfl,rfl⟩
 have K3:Hid (within size 12 512=true->bn id code an name rs=0->(∀i,i<=rs.length->size<((sy id code an aB cut name rs i).length:Int))->pd id code an aB cut name rs size=⟨#[]⟩/\qF id code an aB cut name rs size=2):=λh h1 hi=>by
  unfold pd qF;rw[if_neg (by simp[h]),if_pos h1,if_neg (by simp[h]),if_pos h1,Fj hi];exact⟨rfl,rfl⟩
 have ac0:Hid (bn id code an name rs=0->rs.length<=20):=λh=>(cX h).1;have ag9:Hid (0<rs.length->∃b off,pa=Z ⟨b,off,Y⟩):=λh=>by
  rcases dL with h1|⟨b,off,h1,_⟩
  .rw[h1] at h;simp at h
  .exact⟨b,off,h1⟩
 clear hm hs kM dL qD HSL;generalize bn id code an name rs=E at *;generalize pd id code an aB cut name rs size=RT at *;generalize qF id code an aB cut name rs size=RE at *;generalize sy id code an aB cut name rs=f at *;generalize rs.length=n at *;go_enter Tryz.func137,Tryz.ntmps137;go_wp2_with fail;obtain⟨w0,dJ,-,-,dt⟩:=cR w #[O J id,AI aB,AI cut,O J code,I name,O J an,U pa n cap] 43;have dy:Hid (Below w.heap.size w w0):=(show Below _ _ _ by rw[dJ];exact(Ib _ _).alloc (By _) _);have vz:w.heap.size<w0.heap.size:=(Ia.1 dt).1;rw[<- dJ];clear dJ;refine(bD _ _ _ _).mono ?_;rintro e w00 ⟨rfl,aha⟩;subst aha;by_cases hwi:within size 12 512=false
 .obtain⟨e1,e2⟩:=K0.out hwi
  rw[hwi];go_wp2_with fail;go_ret2;exact⟨by rw[e1,e2];rfl,dy.out⟩
 have hwt:within size 12 512=true:=by simpa using hwi
 have nJ:Hid (E≠0->RT=⟨#[]⟩/\RE=E):=K1.out hwt;have j3:Hid (E=0->∀j,j<=n->(∀i,j<i->i<=n->size<((f i).length:Int))->((f j).length:Int)<=size->RT=⟨(f j).toArray⟩/\RE=0):=K2.out hwt;have nq:Hid (E=0->(∀i,i<=n->size<((f i).length:Int))->RT=⟨#[]⟩/\RE=2):=K3.out hwt;rw[hwt];clear K0 K1 K2 K3 hwi hwt;have fw:Hid (Calls be 26 #[.func (.func 191) #[] #[If (Z ⟨w.heap.size,0,Y⟩)]] w00 λr w'=>r=sh (O J E)/\Below w00.heap.size w00 w'):=(show Calls _ _ _ _ _ by
  refine rN 191 #[If (Z ⟨w.heap.size,0,Y⟩)] E w00 ef ?_;have h:=NG w.heap.size n E id code an aB cut name pa cap (w00.alloc (AT #[O J 0] 34)) ((I9 w00 _ _ vz).trans dt) (HC.out _ (dy.out.alloc (J8 vz) _));simpa using h)
 clear ef HC;go_wp2_with fail;refine fw.out.mono ?_;rintro e w1 ⟨rfl,al⟩;have aR:Hid (Below w.heap.size w w1):=dy.out.trans (al.mono (J8 vz));have bb:w1.heap[w.heap.size]?=Z (AT #[O J id,AI aB,AI cut,O J code,I name,O J an,U pa n cap] 43 (0,0)):=(al.block _ vz).trans dt;clear al dt fw;by_cases h0:E=0
 .have NC:Hid (∀W,Below w.heap.size w W->∀j,j<=n->Calls be 29 #[Im #[O J id,AI aB,AI (cut||decide (j<n)),O J code,I name,O J an,U pa j cap]] W λe w'=>e=sh (I ⟨(f j).toArray⟩)/\Below W.heap.size W w'):=NB.out h0
  have HJ2:Hid (∀j,j<=n->(∀i,j<i->i<=n->size<((f i).length:Int))->((f j).length:Int)<=size->RT=⟨(f j).toArray⟩/\RE=0):=j3.out h0;have HJ3:Hid ((∀i,i<=n->size<((f i).length:Int))->RT=⟨#[]⟩/\RE=2):=nq.out h0;have yu:=ac0.out h0;clear NB nJ j3 nq ac0;subst h0;have vE:(cut||decide (n<n))=cut:=by simp
  have rC:=NC.out w1 aR.out n (By _);rw[vE] at rC;have Sz:Hid (Calls be 29 #[Im #[O J id,AI aB,AI cut,O J code,I name,O J an,U pa n cap]] w1 λe w'=>e=sh (I ⟨(f n).toArray⟩)/\Below w1.heap.size w1 w'):=rC;clear rC;have c0:w1.cell? ⟨w.heap.size,0,Y⟩=Z (O J id):=af bb 0;have c1:w1.cell? ⟨w.heap.size,1,Y⟩=Z (AI aB):=af bb 1;have c2:w1.cell? ⟨w.heap.size,2,Y⟩=Z (AI cut):=af bb 2;have c3:w1.cell? ⟨w.heap.size,3,Y⟩=Z (O J code):=af bb 3;have c4:w1.cell? ⟨w.heap.size,4,Y⟩=Z (I name):=af bb 4;have c5:w1.cell? ⟨w.heap.size,5,Y⟩=Z (O J an):=af bb 5;have c6:w1.cell? ⟨w.heap.size,6,Y⟩=Z (U pa n cap):=af bb 6;have eY:w.heap.size<w1.heap.size:=(Ia.1 bb).1;go_wp2_with fail;refine Sz.out.mono ?_;rintro e w2 ⟨rfl,aC⟩;have bw:Hid (Below w.heap.size w w2):=aR.out.trans (aC.mono aR.out.size);have oq:Hid (w2.heap[w.heap.size]?=Z (AT #[O J id,AI aB,AI (cut||decide (n<n)),O J code,I name,O J an,U pa n cap] 43 (0,0))):=(show _=_ by rw[vE];exact(aC.block _ eY).trans bb);have d6:w2.cell? ⟨w.heap.size,6,Y⟩=Z (U pa n cap):=af oq.out 6;clear aC bb Sz c0 c1 c2 c3 c4 c5 c6 vE;go_wp2_with fail;clear d6;go_loopw [7,8] (λsv nv wr=>∃j:Nat,j<=n/\sv=I ⟨(f j).toArray⟩/\nv=O J j/\Hid (Below w.heap.size w wr)/\Hid (wr.heap[w.heap.size]?=Z (AT #[O J id,AI aB,AI (cut||decide (j<n)),O J code,I name,O J an,U pa j cap] 43 (0,0)))/\Hid (∀i,j<i->i<=n->size<((f i).length:Int))) (λ_ nv _=>(intOf nv).toNat)
  case atStart=>exact⟨n,By _,rfl,rfl,bw,oq,λi h1 h2=>by omega⟩
  case round=>
   obtain⟨j,hj,rfl,rfl,yi,GP,HI⟩:=hrel;have bA:=yi.out.size;have hlw:w.heap.size<wr.heap.size:=(Ia.1 GP.out).1;have hts:(⟨(f j).toArray⟩:ByteArray).size=(f j).length:=by simp[JJ]
   by_cases wI:size<((f j).length:Int)
   .by_cases Su:j=0
    .have Nx:Hid (∀i,i<=n->size<((f i).length:Int)):=λi hi=>by
      rcases Nat.eq_zero_or_pos i with h|h
      .rw[h,<- Su];exact wI
      .exact HI.out i (by omega) hi
     obtain⟨e1,e2⟩:=HJ3.out Nx.out;have nt:decide (size<((⟨(f j).toArray⟩:ByteArray).size:Int))=true:=by rw[hts];simpa using wI
     have G9:decide (0<j)=false:=by simp;omega
     generalize(⟨(f j).toArray⟩:ByteArray)=T at *;clear hts wI Su;go_wp2_with fail;go_ret2;exact⟨by rw[e1,e2];rfl,yi.out⟩
    .have nt:decide (size<((⟨(f j).toArray⟩:ByteArray).size:Int))=true:=by rw[hts];simpa using wI
     have G9:decide ((0:Int)<(j:Int))=true:=by simp;omega
     have vC:Hid (∀i,j-1<i->i<=n->size<((f i).length:Int)):=λi h1 h2=>by
      rcases Nat.lt_or_ge j i with h|h
      .exact HI.out i h h2
      .obtain rfl:i=j:=by omega
       exact wI
     obtain⟨b,off,Nt⟩:=ag9.out (by omega);subst Nt;generalize(⟨(f j).toArray⟩:ByteArray)=T at *;clear hts wI HI;have c0:wr.cell? ⟨w.heap.size,0,Y⟩=Z (O J id):=af GP.out 0;have c1:wr.cell? ⟨w.heap.size,1,Y⟩=Z (AI aB):=af GP.out 1;have c2:wr.cell? ⟨w.heap.size,2,Y⟩=Z (AI (cut||decide (j<n))):=af GP.out 2;have c3:wr.cell? ⟨w.heap.size,3,Y⟩=Z (O J code):=af GP.out 3;have c4:wr.cell? ⟨w.heap.size,4,Y⟩=Z (I name):=af GP.out 4;have c5:wr.cell? ⟨w.heap.size,5,Y⟩=Z (O J an):=af GP.out 5;have c6:wr.cell? ⟨w.heap.size,6,Y⟩=Z (U (Z ⟨b,off,Y⟩) j cap):=af GP.out 6;have z2:wr.frozen? ⟨w.heap.size,2,Y⟩=false:=by simp[Ig,GP.out]
     have z6:wr.frozen? ⟨w.heap.size,6,Y⟩=false:=by simp[Ig,GP.out]
     obtain⟨k,hk⟩:∃k,k=j-1:=⟨_,rfl⟩;have Sg:(j:Int)=(k:Int)+1:=by omega
     have WQ:IntKind.i64.wrap ((j:Int)-1)=(k:Int):=by rw[IntKind.wrap_i64];omega
     have TO:((j:Int)-1)=(k:Int):=by omega
     have hk0:(0:Int)<=(k:Int):=by omega
     have hk1:(k:Int)<=(cap:Int):=by omega
     have sg:((k:Int)).toNat=k:=by omega
     have hcut:(cut||decide (k<n))=true:=by simp;right;omega
     have wm:Hid (Below w.heap.size w ((wr.setCell ⟨w.heap.size,6,Y⟩ (U (Z ⟨b,off,Y⟩) (j-1) cap)).setCell ⟨w.heap.size,2,Y⟩ (AI true))):=(yi.out.setCell (p:=⟨w.heap.size,6,Y⟩) (By _) _).setCell (p:=⟨w.heap.size,2,Y⟩) (By _) _;have HGW:Hid (((wr.setCell ⟨w.heap.size,6,Y⟩ (U (Z ⟨b,off,Y⟩) (j-1) cap)).setCell ⟨w.heap.size,2,Y⟩ (AI true)).heap[w.heap.size]?=Z (AT #[O J id,AI aB,AI true,O J code,I name,O J an,U (Z ⟨b,off,Y⟩) (j-1) cap] 43 (0,0))):=Joins.block_setCell (i:=2) (Joins.block_setCell (i:=6) GP.out _) _;have hlW:w.heap.size<((wr.setCell ⟨w.heap.size,6,Y⟩ (U (Z ⟨b,off,Y⟩) (j-1) cap)).setCell ⟨w.heap.size,2,Y⟩ (AI true)).heap.size:=by simpa using hlw
     have sA:=NC.out ((wr.setCell ⟨w.heap.size,6,Y⟩ (U (Z ⟨b,off,Y⟩) (j-1) cap)).setCell ⟨w.heap.size,2,Y⟩ (AI true)) wm.out (j-1) (by omega);rw[show(cut||decide (j-1<n))=true by rw[<- hk];exact hcut] at sA;have HWL:Hid (Calls be 29 #[Im #[O J id,AI aB,AI true,O J code,I name,O J an,U (Z ⟨b,off,Y⟩) (j-1) cap]] ((wr.setCell ⟨w.heap.size,6,Y⟩ (U (Z ⟨b,off,Y⟩) (j-1) cap)).setCell ⟨w.heap.size,2,Y⟩ (AI true)) λe w'=>e=sh (I ⟨(f (j-1)).toArray⟩)/\Below ((wr.setCell ⟨w.heap.size,6,Y⟩ (U (Z ⟨b,off,Y⟩) (j-1) cap)).setCell ⟨w.heap.size,2,Y⟩ (AI true)).heap.size ((wr.setCell ⟨w.heap.size,6,Y⟩ (U (Z ⟨b,off,Y⟩) (j-1) cap)).setCell ⟨w.heap.size,2,Y⟩ (AI true)) w'):=sA;clear sA;go_wp2_with fail;refine HWL.out.mono ?_;rintro e w9 ⟨rfl,vB⟩;have qi:Hid (Below w.heap.size w w9):=wm.out.trans (vB.mono (J8 hlW));have HG9:Hid (w9.heap[w.heap.size]?=Z (AT #[O J id,AI aB,AI (cut||decide (j-1<n)),O J code,I name,O J an,U (Z ⟨b,off,Y⟩) (j-1) cap] 43 (0,0))):=(show _=_ by
      rw[show(cut||decide (j-1<n))=true by rw[<- hk];exact hcut];exact(vB.block _ hlW).trans HGW.out)
     clear vB c0 c1 c2 c3 c4 c5 c6 z2 z6;go_wp2_with fail;exact⟨⟨j-1,by omega,rfl,by first|rfl|(rw[<- hk,TO])|go_num,qi,HG9,vC⟩,by simp[intOf];omega⟩
   .obtain⟨e1,e2⟩:=HJ2.out j hj HI.out (by omega)
    have nt:decide (size<((⟨(f j).toArray⟩:ByteArray).size:Int))=false:=by rw[hts];simpa using wI
    generalize(⟨(f j).toArray⟩:ByteArray)=T at *;clear hts wI;go_wp2_with fail;go_ret2;exact⟨by rw[e1,e2];rfl,yi.out⟩
 .obtain⟨e1,e2⟩:=nJ.out h0
  have h1:(E !=0)=true:=by simpa using h0
  go_wp2_with fail;go_ret2;exact⟨by rw[e1,e2];rfl,aR.out⟩
end Go.Proofs.YtfidjlcdlakceaaGreatDoor
