import Derived.Test.YtfidjlcdlakceaaGreatDoortf23
set_option maxHeartbeats 6400000
set_option maxRecDepth 100000
open Go.Value renaming int→O,bool→AI,string→I,tuple→Il,agg→Im,slice→U
open Go.IntKind renaming i64→J
open Option renaming none→Y,some→Z
open Go renaming maxLen→Ij,heap_alloc_new→Ie,bodyPost_ret→Ix
open Go.Obj renaming cells→AT
open Go.RowKit.Below renaming refl→Ib,heap_alloc→It,heap_setCell→IB
open Go.World renaming frozen?→Ig
namespace Go.Proofs.YtfidjlcdlakceaaGreatDoor
open Go.RowKit
variable {w W W':World} {t:ByteArray} {mb a b:Nat} {bad am9:Bool} {mc:Array Value}
variable {k rb:Nat} {wr:World} {rc:Array Value}
variable {t s s1 s8:ByteArray} {a b b1 b2 b3 b4 b5 b6 b7 b8 v2 v3 v4 v5 v6 v7:Nat} {d1 d2 d3 d4 d5 d6 d7 d8:Bool} {la:Int}
variable {id code:Int} {aB cut:Bool} {n v8 v9 b9:Nat} {R:ByteArray} {d9:Bool}
def MsV(w:World)(m:Option Ms)(x:Array Value):Prop:=match m with
 |none=>x=aQ
 |some M=>∃v,Rc.Sl w v M.rs/\M.rs.length<=1000/\x=#[O J M.id,AI M.aB,AI M.cut,O J M.code,I M.R,O J M.an,v]
def vH(t:ByteArray):Option Ms:=if t.size<=512/\pZ t=0 then qL t else Y
def Cx(t:ByteArray):Int:=if t.size<=512 then(if pZ t=0 then 0 else 1) else 2
theorem Pv{t:ByteArray}{w:World}{e:Ending}{w':World}(h:RdP t w e w'):∃i a c o r y p l k,e=.returned (Il #[Im #[O J i,AI a,AI c,O J o,I r,O J y,U p l k],O J (Cx t)])/\Hid (MsV w' (vH t) #[O J i,AI a,AI c,O J o,I r,O J y,U p l k])/\Below w.heap.size w w':=by
 obtain⟨hb,⟨M,v,hM,hl,hc,he,ho⟩|⟨E,hE,hE2,he⟩⟩:=h
 .have h0:pZ t=0:=by unfold pZ;rw[hM];exact hc
  have hx:Cx t=0:=by unfold Cx;rw[if_pos hl,if_pos h0]
  have hm:vH t=Z M:=by unfold vH;rw[if_pos ⟨hl,h0⟩,hM]
  have hcf:=cX hc;obtain⟨p,l,k,rfl⟩:∃a l c,v=U a l c:=by
   rcases ho.out.2 with⟨hv,_⟩|⟨gq,cq,_,hv,_⟩
   .exact⟨_,_,_,hv⟩
   .exact⟨_,_,_,hv⟩
  refine⟨M.id,M.aB,M.cut,M.code,M.R,M.an,p,l,k,by rw[hx];exact he,?_,hb⟩;rw[hm];exact⟨_,ho.out.sl (yL hcf.2.2),by have:=hcf.1;omega,rfl⟩
 .have hm:vH t=Y:=by
   unfold vH;rw[if_neg (λh=>hE2 h.1 h.2)]
  have hx:Cx t=E:=by
   unfold Cx;rw[hE];by_cases hl:t.size<=512
   .rw[if_pos hl,if_pos hl,if_neg (hE2 hl)]
   .rw[if_neg hl,if_neg hl]
  refine⟨0,false,false,0,⟨#[]⟩,0,Y,0,0,by rw[hx];exact he,?_,hb⟩;rw[hm];exact(rfl:_=aQ)
def dX(s:ByteArray):Bool:=decide (s.size<12)||decide (128<=(s.data.toList.getD 2 0).toNat)
def lD(s:ByteArray):Int:=256*((s.data.toList.getD 0 0).toNat:Int)+((s.data.toList.getD 1 0).toNat:Int)
theorem Pw(s:ByteArray):0<=lD s/\lD s<=65535:=by
 unfold lD;have h0:=(s.data.toList.getD 0 0).toNat_lt;have h1:=(s.data.toList.getD 1 0).toNat_lt;omega
def jK(name:ByteArray)(an:Int)(here:ByteArray)(sv:List Sv.aI)(ms:List Mem)(p:Pl)(wh:List Wh.bC):List Rc.Rec:=
 if eZ name=0 then(if(lI (dx name) an here sv ms p wh).e=0 then(lI (dx name) an here sv ms p wh).rs else[]) else[]
def lK(name:ByteArray)(an:Int)(here:ByteArray)(sv:List Sv.aI)(ms:List Mem)(p:Pl)(wh:List Wh.bC):Int:=
 if eZ name=0 then(if(lI (dx name) an here sv ms p wh).e=0 then(lI (dx name) an here sv ms p wh).code else 2) else if eZ name=8 then 4 else 3
structure Rp where
 code:Int
 an:Int
 R:ByteArray
 rs:List Rc.Rec
def gn(s here:ByteArray)(sv:List Sv.aI)(ms:List Mem)(p:Pl)(wh:List Wh.bC):Rp:=match vH s with
 |some M=>if M.rs.length=0 then⟨lK M.R M.an here sv ms p wh,M.an,M.R,jK M.R M.an here sv ms p wh⟩ else⟨1,1,⟨#[]⟩,[]⟩
 |none=>⟨1,1,⟨#[]⟩,[]⟩
theorem Ba{s:ByteArray}{M:Ms}(h:vH s=Z M):bn M.id M.code M.an M.R M.rs=0:=by
 unfold vH at h;by_cases hc:s.size<=512/\pZ s=0
 .rw[if_pos hc] at h
  have h2:=hc.2;unfold pZ at h2;rw[h] at h2;exact h2
 .rw[if_neg hc] at h;cases h
theorem DF{id code an:Int}{name:ByteArray}{rs:List Rc.Rec}(h:bn id code an name rs=0):gz an=true:=by
 unfold bn at h;split at h
 .omega
 .split at h
  .omega
  .split at h
   .rename_i h1;exact absurd h h1
   .split at h
    .omega
    .rename_i h1;simpa using h1
theorem nA{q:Qu}(h:jk q=0):fo q=0/\bT (iy q)=0:=by
 unfold jk at h;by_cases h2:fo q=0
 .rw[if_pos h2] at h
  refine⟨h2,?_⟩;have h3:jk q=0:=by unfold jk;rw[if_pos h2];exact h
  unfold iy;rw[if_pos h3];exact h
 .rw[if_neg h2] at h;exact absurd h h2
theorem lg:bT ⟨#[]⟩=0:=by kernel_rfl
theorem Hx{s:Sv.aI}(h:s.e=0):within s.addr 0 4294967295=true/\within s.port 0 65535=true/\s.bF.size<=30:=by
 unfold Sv.aI.e at h;split at h
 .rename_i h1
  split at h
  .rename_i h2
   simp only[Bool.and_eq_true] at h1 h2;refine⟨h2.1,h2.2.1,?_⟩;have h3:=h1.2.1;unfold aN at h3;simp only[Bool.and_eq_true,decide_eq_true_eq] at h3;exact h3.1.2
  .omega
 .omega
theorem w0:within 0 0 2147483647=true:=by decide
theorem Px{name here:ByteArray}{t:Int}{s:Sv.aI}(hn:bT name=0)(ht:gz t=true)(hs:s.e=0)(he:ic here t s=0):bL (jj name here t s)=0:=by
 obtain⟨h1,h2,h3⟩:=Hx hs;have Fa:t=1\/t=16\/t=33:=by unfold gz at ht;simpa[or_assoc] using ht
 have e0:(⟨#[]⟩:ByteArray).size=0:=rfl;rcases Fa with rfl|rfl|rfl
 .have e:jj name here 1 s=⟨name,1,0,s.addr,⟨#[]⟩,0,⟨#[]⟩⟩:=rfl
  rw[e];unfold bL;simp only[hn,sr,h1,w0,lg,e0];simp[gz,within]
 .have e:jj name here 16 s=⟨name,16,0,0,s.bF,0,⟨#[]⟩⟩:=rfl
  rw[e];have h4:¬ 200<s.bF.size:=by omega
  unfold bL;simp only[hn,sr,w0,lg,e0,h4];simp[gz,within]
 .have e:jj name here 33 s=⟨name,33,0,0,⟨#[]⟩,s.port,iy (qN s.node here)⟩:=rfl
  have he2:jk (qN s.node here)=0:=he;have h5:=(nA he2).2;rw[e];unfold bL;simp only[hn,sr,w0,h2,h5,e0];simp[gz,within]
theorem Py{ms:List Mem}{t:ByteArray}(hc:ba ms=0):within (eD ms t).addr 0 4294967295=true:=by
 cases h:du ms t with
 |none=>rw[xl h];decide
 |some m=>
  rw[xk h];have h2:m.e=0:=rQ (aF hc).2.2 m (o5 h).1;unfold Mem.e wk at h2;split at h2
  .split at h2
   .split at h2
    .split at h2
     .rename_i h5;exact h5
     .omega
    .omega
   .omega
  .omega
theorem aaM{name:ByteArray}{ad:Int}(hn:bT name=0)(ha:within ad 0 4294967295=true):bL ⟨name,1,0,ad,⟨#[]⟩,0,⟨#[]⟩⟩=0:=by
 have e0:(⟨#[]⟩:ByteArray).size=0:=rfl;unfold bL;simp only[hn,sr,ha,w0,lg,e0];simp[gz,within]
theorem uv{here:ByteArray}{t:Int}:∀{L:List Sv.aI},ie here t L=0->∀s∈L,ic here t s=0
 |[],_,s,hs=>by simp at hs
 |x::r,h,s,hs=>by
  rw[ie] at h;by_cases h2:ic here t x=0
  .rw[if_pos h2] at h
   rcases List.mem_cons.1 hs with rfl|hs
   .exact h2
   .exact uv h s hs
  .rw[if_neg h2] at h;exact absurd h h2
theorem T9{q:Qu}{t:Int}{here:ByteArray}{sv:List Sv.aI}{ms:List Mem}{p:Pl}{wh:List Wh.bC}(hk:uu here sv ms p wh)(ht:gz t=true)(he:(lI q t here sv ms p wh).e=0):∀r∈(lI q t here sv ms p wh).rs,bL r=0:=by
 unfold lI at he ⊢;by_cases h1:jk q=0
 .rw[if_pos h1] at he ⊢
  have hn:=(nA h1).2;by_cases h2:q.ai.size≠0/\q.ai≠here
  .rw[if_pos h2];simp
  .rw[if_neg h2] at he ⊢
   by_cases h3:q.node.size≠0
   .rw[if_pos h3] at he ⊢
    unfold kz;split
    .split
     .intro r hr
      simp at hr;subst hr;exact aaM hn (Py hk.ms)
     .simp
    .simp
   .rw[if_neg h3] at he ⊢
    unfold ky at he ⊢;by_cases h4:Sv.bV sv q.service ⟨#[]⟩=[]
    .rw[if_pos h4];simp
    .rw[if_neg h4] at he ⊢
     by_cases h5:ie here t (ib p wh ms (Sv.bV sv q.service q.tag))=0
     .rw[if_pos h5]
      intro r hr;obtain⟨s,hs,rfl⟩:=List.mem_map.1 hr;have h6:=(List.mem_filter.1 (Ng hs).1).1;exact Px hn ht (Sv.dh sv (Sv.aF hk.sv).2.2 s h6) (uv h5 s hs)
     .rw[if_neg h5] at he;exact absurd he h5
 .rw[if_neg h1] at he;exact absurd he h1
theorem Va(q:Qu)(t:Int)(here:ByteArray)(sv:List Sv.aI)(ms:List Mem)(p:Pl)(wh:List Wh.bC):(lI q t here sv ms p wh).rs.length<=20:=by
 unfold lI;split
 .split
  .simp
  .split
   .unfold kz;(repeat' split)<;>simp
   .unfold ky
    split
    .simp
    .split
     .rw[List.length_map];exact Av _ _ _ _
     .simp
 .simp
theorem Pz(q:Qu)(t:Int)(here:ByteArray)(sv:List Sv.aI)(ms:List Mem)(p:Pl)(wh:List Wh.bC):0<=(lI q t here sv ms p wh).code/\(lI q t here sv ms p wh).code<=15:=by
 unfold lI;split
 .split
  .simp
  .split
   .unfold kz;(repeat' split)<;>simp
   .unfold ky;(repeat' split)<;>simp
 .simp
structure Vb(r:Rp):Prop where
 code:within r.code 0 15=true
 few:r.rs.length<=20
 name:bT r.R=0
 an:gz r.an=true
 rs:∀x∈r.rs,bL x=0
theorem ux:∀{rs:List Rc.Rec},(∀r∈rs,bL r=0)->gA rs=0
 |[],_=>rfl
 |x::r,h=>by rw[gA,if_pos (h x (by simp))];exact ux λy hy=>h y (by simp[hy])
theorem Vc(name:ByteArray)(an:Int)(here:ByteArray)(sv:List Sv.aI)(ms:List Mem)(p:Pl)(wh:List Wh.bC):within (lK name an here sv ms p wh) 0 15=true:=by
 have h:=Pz (dx name) an here sv ms p wh;unfold lK;split
 .split
  .unfold within;simp;omega
  .decide
 .split<;>decide
theorem Fz{s here:ByteArray}{sv:List Sv.aI}{ms:List Mem}{p:Pl}{wh:List Wh.bC}(hk:uu here sv ms p wh):Vb (gn s here sv ms p wh):=by
 have rF:Vb ⟨1,1,⟨#[]⟩,[]⟩:=⟨by decide,by simp,lg,by decide,by simp⟩;unfold gn;cases h:vH s with
 |none=>exact rF
 |some M=>
  simp only;by_cases h0:M.rs.length=0
  .rw[if_pos h0]
   have hc:=Ba h;have ht:=DF hc;refine⟨Vc _ _ _ _ _ _ _,?_,(cX hc).2.1,ht,?_⟩
   .show(jK M.R M.an here sv ms p wh).length<=20
    unfold jK;split
    .split
     .exact Va _ _ _ _ _ _ _
     .simp
    .simp
   .show ∀x∈jK M.R M.an here sv ms p wh,bL x=0
    unfold jK;split
    .split
     .rename_i h1 h2
      exact T9 hk ht h2
     .simp
    .simp
  .rw[if_neg h0];exact rF
theorem PA{id:Int}{r:Rp}(h:Vb r)(hi:0<=id/\id<=65535):bn id r.code r.an r.R r.rs=0:=by
 have h1:within id 0 65535=true:=by unfold within;simp;omega
 unfold bn;rw[h1,h.code];simp only[Bool.and_self,Bool.true_eq_false,if_false];rw[if_neg (by have:=h.few;omega),if_neg (by simpa using h.name),if_neg (by rw[h.an];simp)];exact ux h.rs
theorem Bb(id code an:Int)(aB cut:Bool){name:ByteArray}(h:bT name=0)(n:Nat):(mx id code an aB cut name n).length<=300:=by
 have h1:=np h;rw[ij,Lib.byteCells_length] at h1;unfold mx;simp only[List.length_append,bo];omega
theorem xF{f:Nat->List UInt8}{size:Int}(h:((f 0).length:Int)<=size):∀n,(nK f size n).isSome=true
 |0=>by rw[nK,if_pos h];rfl
 |k+1=>by
  rw[nK];split
  .rfl
  .exact xF h k
theorem Vd{id:Int}{r:Rp}(h:Vb r)(hi:0<=id/\id<=65535):qF id r.code r.an true false r.R r.rs 512=0:=by
 unfold qF;rw[if_neg (by decide),if_pos (PA h hi),if_pos];refine xF ?_ _;have h1:=Bb id r.code r.an true (false||decide (0<r.rs.length)) h.name 0;unfold sy cL;simp only[List.take_zero,List.length_nil,List.flatMap_nil,List.append_nil];omega
def Bc(s here:ByteArray)(sv:List Sv.aI)(ms:List Mem)(p:Pl)(wh:List Wh.bC):ByteArray:=pd (lD s) (gn s here sv ms p wh).code (gn s here sv ms p wh).an true false (gn s here sv ms p wh).R (gn s here sv ms p wh).rs 512
theorem yW(here:ByteArray)(ps pm pw:Option Addr)(ns cs nm cm nw cw:Nat)(px py pz ph pq:Int)(name:ByteArray)(an:Int)(sv:List Sv.aI)(ms:List Mem)(wh:List Wh.bC)(w:World)(oA:ML w)(hn:name.size<=Ij)(hk:uu here sv ms ⟨px,py,pz,ph,pq⟩ wh)(hs:Sv.Sl w (U ps ns cs) sv)(hm:Sl w (U pm nm cm) ms)(hw:Wh.Sl w (U pw nw cw) wh) :
 Calls Tryz.prog 190 #[Im (eQ here (U ps ns cs) (U pm nm cm) px py pz ph pq (U pw nw cw)),Im #[I name,O J an]] w λe w'=>∃v,e=.returned (Il #[v,O J (lK name an here sv ms ⟨px,py,pz,ph,pq⟩ wh)])/\Rc.Own w.heap.size w' v (jK name an here sv ms ⟨px,py,pz,ph,pq⟩ wh)/\Below w.heap.size w w':=by
 have HS:Hid (Sv.Sl w (U ps ns cs) sv):=hs;have HM:Hid (Sl w (U pm nm cm) ms):=hm;have HW:Hid (Wh.Sl w (U pw nw cw) wh):=hw;have HP:Hid (∀W,ML W->Calls Tryz.prog 22 #[I name] W λe w'=>e=.returned (Il #[Im #[I (dx name).service,I (dx name).tag,I (dx name).node,I (dx name).ai],O J (eZ name)])/\Below W.heap.size W w'):=λW h=>qQ name W h hn;have hR:=λ(W:World) (a1:Sv.Sl W (U ps ns cs) sv) (a2:Sl W (U pm nm cm) ms) (a3:Wh.Sl W (U pw nw cw) wh)=>pH here ps pm pw ns cs nm cm nw cw px py pz ph pq (dx name) an sv ms wh W (FA name) hk a1 a2 a3;have HR:Hid _:=hR;have HA8:Hid (eZ name=8->jK name an here sv ms ⟨px,py,pz,ph,pq⟩ wh=[]/\lK name an here sv ms ⟨px,py,pz,ph,pq⟩ wh=4):=λh=>by unfold jK lK;rw[if_neg (by omega),if_neg (by omega),if_pos h];exact⟨rfl,rfl⟩
 have yU:Hid (eZ name≠8->eZ name≠0->jK name an here sv ms ⟨px,py,pz,ph,pq⟩ wh=[]/\lK name an here sv ms ⟨px,py,pz,ph,pq⟩ wh=3):=λh h2=>by unfold jK lK;rw[if_neg h2,if_neg h2,if_neg h];exact⟨rfl,rfl⟩
 have yT:Hid (eZ name=0->(lI (dx name) an here sv ms ⟨px,py,pz,ph,pq⟩ wh).e≠0->jK name an here sv ms ⟨px,py,pz,ph,pq⟩ wh=[]/\lK name an here sv ms ⟨px,py,pz,ph,pq⟩ wh=2):=λh h2=>by unfold jK lK;rw[if_pos h,if_pos h,if_neg h2,if_neg h2];exact⟨rfl,rfl⟩
 have WW:Hid (eZ name=0->(lI (dx name) an here sv ms ⟨px,py,pz,ph,pq⟩ wh).e=0->jK name an here sv ms ⟨px,py,pz,ph,pq⟩ wh=(lI (dx name) an here sv ms ⟨px,py,pz,ph,pq⟩ wh).rs/\lK name an here sv ms ⟨px,py,pz,ph,pq⟩ wh=(lI (dx name) an here sv ms ⟨px,py,pz,ph,pq⟩ wh).code):=λh h2=>by unfold jK lK;rw[if_pos h,if_pos h,if_pos h2,if_pos h2];exact⟨rfl,rfl⟩
 have Ve:Hid (ML w):=oA;clear hs hm hw hR hk oA;generalize jK name an here sv ms ⟨px,py,pz,ph,pq⟩ wh=AL at *;generalize lK name an here sv ms ⟨px,py,pz,ph,pq⟩ wh=AC at *;generalize lI (dx name) an here sv ms ⟨px,py,pz,ph,pq⟩ wh=A at *;generalize eZ name=PE at *;generalize dx name=q at *;obtain⟨qs,qt,qn,qc⟩:=q;simp only at *;go_enter Tryz.func190,Tryz.ntmps190;go_wp2_with fail;obtain⟨W,hW⟩:∃W,W=(w.alloc (AT (eQ here (U ps ns cs) (U pm nm cm) px py pz ph pq (U pw nw cw)) 137)).alloc (AT #[I name,O J an] 40):=⟨_,rfl⟩;rw[<- hW];have ez:Below w.heap.size w W:=by rw[hW];exact((Ib _ _).alloc (Nat.le_refl _) _).alloc (by simp) _
 have hG0:W.heap[w.heap.size]?=Z (AT (eQ here (U ps ns cs) (U pm nm cm) px py pz ph pq (U pw nw cw)) 137 (0,0)):=by rw[hW,It _ _ _ (by simp)];exact Ie w _
 have kT:W.heap[w.heap.size+1]?=Z (AT #[I name,O J an] 40 (0,0)):=by
  rw[hW];have h:=Ie (w.alloc (AT (eQ here (U ps ns cs) (U pm nm cm) px py pz ph pq (U pw nw cw)) 137)) (AT #[I name,O J an] 40);simpa using h
 have oX:w.heap.size+2<=W.heap.size:=by rw[hW];simp
 clear hW;refine(HP.out W (Ve.out.below ez)).mono ?_;rintro e w1 ⟨rfl,al⟩;have gI:=al.size;have aR:Hid (Below w.heap.size w w1):=ez.trans (al.mono (by omega));have k0:w1.heap[w.heap.size]?=_:=(al.block _ (by omega)).trans hG0;have k1:w1.heap[w.heap.size+1]?=_:=(al.block _ (by omega)).trans kT;have lV:∀ob,(w1.alloc ob).heap[w.heap.size]?=Z (AT (eQ here (U ps ns cs) (U pm nm cm) px py pz ph pq (U pw nw cw)) 137 (0,0)):=λob=>by rw[It _ _ _ (by omega)];exact k0
 have nt:∀ob,(w1.alloc ob).heap[w.heap.size+1]?=Z (AT #[I name,O J an] 40 (0,0)):=λob=>by rw[It _ _ _ (by omega)];exact k1
 have d0:∀ob,(w1.alloc ob).cell? ⟨w.heap.size,0,Y⟩=Z (I here):=λob=>af (lV ob) 0;have d1:∀ob,(w1.alloc ob).cell? ⟨w.heap.size,1,Y⟩=Z (U ps ns cs):=λob=>af (lV ob) 1;have d2:∀ob,(w1.alloc ob).cell? ⟨w.heap.size,2,Y⟩=Z (U pm nm cm):=λob=>af (lV ob) 2;have d3:∀ob,(w1.alloc ob).cell? ⟨w.heap.size,3,Y⟩=Z (O J px):=λob=>af (lV ob) 3;have d4:∀ob,(w1.alloc ob).cell? ⟨w.heap.size,4,Y⟩=Z (O J py):=λob=>af (lV ob) 4;have d5:∀ob,(w1.alloc ob).cell? ⟨w.heap.size,5,Y⟩=Z (O J pz):=λob=>af (lV ob) 5;have d6:∀ob,(w1.alloc ob).cell? ⟨w.heap.size,6,Y⟩=Z (O J ph):=λob=>af (lV ob) 6;have d7:∀ob,(w1.alloc ob).cell? ⟨w.heap.size,7,Y⟩=Z (O J pq):=λob=>af (lV ob) 7;have d8:∀ob,(w1.alloc ob).cell? ⟨w.heap.size,8,Y⟩=Z (U pw nw cw):=λob=>af (lV ob) 8;have q0:∀ob,(w1.alloc ob).cell? ⟨w.heap.size+1,0,Y⟩=Z (I name):=λob=>af (nt ob) 0;have q1:∀ob,(w1.alloc ob).cell? ⟨w.heap.size+1,1,Y⟩=Z (O J an):=λob=>af (nt ob) 1;have mG:Hid (∀ob,Below w.heap.size w (w1.alloc ob)):=λob=>aR.out.alloc (by omega) ob;clear lV nt k0 k1 hG0 kT ez al;by_cases h8:PE=8
 .obtain⟨r1,r2⟩:=HA8.out h8
  have H1:Hid (AL=[]):=r1;have H2:Hid (AC=4):=r2;clear r1 r2 HA8 yU yT WW;subst h8;go_wp2_with fail;go_ret2;exact⟨U Y 0 0,by rw[H2.out];rfl,by rw[H1.out];exact Rc.bj _ _,mG.out _⟩
 .have g8:(PE==8)=false:=by simpa using h8
  by_cases h0:PE=0
  .have sD:Hid _:=yT.out h0
   have aaO:Hid _:=WW.out h0;clear HA8 yU yT WW g8 h8;subst h0;go_wp2_with fail;refine Calls.mono (HR.out _ (HS.out.below (mG.out _)) (HM.out.below (mG.out _)) (HW.out.below (mG.out _))) ?_;rintro e w2 ⟨v,rfl,ho,aC⟩;have bw:Hid (Below w.heap.size w w2):=(mG.out _).trans (aC.mono (by simp<;>omega));have gv:Hid (Rc.Own w.heap.size w2 v A.rs):=ho.mono (by simp<;>omega);clear ho aC;obtain⟨ars,acd,ae⟩:=A;simp only at *;by_cases he:ae=0
   .obtain⟨r1,r2⟩:=aaO.out he
    have H1:Hid (AL=ars):=r1;have H2:Hid (AC=acd):=r2;clear r1 r2 sD aaO;subst he;go_wp2_with fail;go_ret2;exact⟨v,by rw[H2.out];rfl,by rw[H1.out];exact gv.out,bw.out⟩
   .obtain⟨r1,r2⟩:=sD.out he
    have H1:Hid (AL=[]):=r1;have H2:Hid (AC=2):=r2;have ki:(ae !=0)=true:=by simpa using he
    clear r1 r2 sD aaO;go_wp2_with fail;go_ret2;exact⟨U Y 0 0,by rw[H2.out];rfl,by rw[H1.out];exact Rc.bj _ _,bw.out⟩
  .obtain⟨r1,r2⟩:=yU.out h8 h0
   have H1:Hid (AL=[]):=r1;have H2:Hid (AC=3):=r2;have g0:(PE !=0)=true:=by simpa using h0
   clear r1 r2 HA8 yU yT WW;go_wp2_with fail;go_ret2;exact⟨U Y 0 0,by rw[H2.out];rfl,by rw[H1.out];exact Rc.bj _ _,mG.out _⟩
theorem yX(here:ByteArray)(ps pm pw:Option Addr)(ns cs nm cm nw cw:Nat)(px py pz ph pq:Int)(s:ByteArray)(sv:List Sv.aI)(ms:List Mem)(wh:List Wh.bC)(w:World)(oA:ML w)(hk:uu here sv ms ⟨px,py,pz,ph,pq⟩ wh)(hs:Sv.Sl w (U ps ns cs) sv)(hm:Sl w (U pm nm cm) ms)(hw:Wh.Sl w (U pw nw cw) wh) :
 Calls Tryz.prog 136 #[Im (eQ here (U ps ns cs) (U pm nm cm) px py pz ph pq (U pw nw cw)),I s] w λe w'=>∃v,e=.returned (Im #[O J 0,AI false,AI false,O J (gn s here sv ms ⟨px,py,pz,ph,pq⟩ wh).code,I (gn s here sv ms ⟨px,py,pz,ph,pq⟩ wh).R,O J (gn s here sv ms ⟨px,py,pz,ph,pq⟩ wh).an,v])/\Rc.Own w.heap.size w' v (gn s here sv ms ⟨px,py,pz,ph,pq⟩ wh).rs/\Below w.heap.size w w':=by
 have HS:Hid (Sv.Sl w (U ps ns cs) sv):=hs;have HM:Hid (Sl w (U pm nm cm) ms):=hm;have HW:Hid (Wh.Sl w (U pw nw cw) wh):=hw;have SM:Hid (∀W,Calls Tryz.prog 19 #[I s] W (RdP s W)):=λW=>Pt s W;have hAT:=λ(name:ByteArray) (an:Int) (W:World) (h:ML W) (h2:name.size<=Ij) (a1:Sv.Sl W (U ps ns cs) sv) (a2:Sl W (U pm nm cm) ms) (a3:Wh.Sl W (U pw nw cw) wh)=>yW here ps pm pw ns cs nm cm nw cw px py pz ph pq name an sv ms wh W h h2 hk a1 a2 a3;have fw:Hid _:=hAT;have Ve:Hid (ML w):=oA;have HN:Hid (vH s=Y->gn s here sv ms ⟨px,py,pz,ph,pq⟩ wh=⟨1,1,⟨#[]⟩,[]⟩):=λh=>by unfold gn;rw[h]
 have HF:Hid (∀M,vH s=Z M->M.rs.length≠0->gn s here sv ms ⟨px,py,pz,ph,pq⟩ wh=⟨1,1,⟨#[]⟩,[]⟩):=λM h h2=>by unfold gn;rw[h];simp only;rw[if_neg h2]
 have HY:Hid (∀M,vH s=Z M->M.rs.length=0->gn s here sv ms ⟨px,py,pz,ph,pq⟩ wh=⟨lK M.R M.an here sv ms ⟨px,py,pz,ph,pq⟩ wh,M.an,M.R,jK M.R M.an here sv ms ⟨px,py,pz,ph,pq⟩ wh⟩):=λM h h2=>by unfold gn;rw[h];simp only;rw[if_pos h2]
 have HX:Hid (∀M,vH s=Z M->Cx s=0/\M.R.size<=Ij):=λM h=>by
  have hc:=Ba h;refine⟨?_,by have:=(gh (cX hc).2.1).1;unfold Ij;omega⟩;unfold vH at h;by_cases h2:s.size<=512/\pZ s=0
  .unfold Cx;rw[if_pos h2.1,if_pos h2.2]
  .rw[if_neg h2] at h;cases h
 have HXN:Hid (vH s=Y->Cx s≠0):=λh=>by
  unfold Cx;by_cases h1:s.size<=512
  .rw[if_pos h1]
   by_cases h2:pZ s=0
   .exfalso
    unfold vH at h;rw[if_pos ⟨h1,h2⟩] at h;unfold pZ at h2;rw[h] at h2;exact absurd h2 (by decide)
   .rw[if_neg h2];decide
  .rw[if_neg h1];decide
 clear hs hm hw hAT hk oA;generalize gn s here sv ms ⟨px,py,pz,ph,pq⟩ wh=WX at *;go_enter Tryz.func136,Tryz.ntmps136;go_wp2_with fail;obtain⟨W,hW⟩:∃W,W=(w.alloc (AT (eQ here (U ps ns cs) (U pm nm cm) px py pz ph pq (U pw nw cw)) 137)).alloc (AT #[O J 0,AI false,AI false,O J 0,I ⟨#[]⟩,O J 0,U Y 0 0] 43):=⟨_,rfl⟩;rw[<- hW];have ez:Below w.heap.size w W:=by rw[hW];exact((Ib _ _).alloc (Nat.le_refl _) _).alloc (by simp) _
 have wB:Hid (W.heap[w.heap.size]?=Z (AT (eQ here (U ps ns cs) (U pm nm cm) px py pz ph pq (U pw nw cw)) 137 (0,0))):=by rw[hW,It _ _ _ (by simp)];exact Ie w _
 have kT:W.heap[w.heap.size+1]?=Z (AT #[O J 0,AI false,AI false,O J 0,I ⟨#[]⟩,O J 0,U Y 0 0] 43 (0,0)):=by
  rw[hW];have h:=Ie (w.alloc (AT (eQ here (U ps ns cs) (U pm nm cm) px py pz ph pq (U pw nw cw)) 137)) (AT #[O J 0,AI false,AI false,O J 0,I ⟨#[]⟩,O J 0,U Y 0 0] 43);simpa using h
 have jo:Hid _:=kT;have oX:w.heap.size+2<=W.heap.size:=by rw[hW];simp
 clear hW kT;refine Calls.mono (SM.out W) ?_;intro e w1 Dx;obtain⟨i,a,c,o,r,y,p,l,k,rfl,hmv,al⟩:=Pv Dx;have gI:=al.size;have aR:Hid (Below w.heap.size w w1):=ez.trans (al.mono (by omega));have lV:∀ob,(w1.alloc ob).heap[w.heap.size]?=Z (AT (eQ here (U ps ns cs) (U pm nm cm) px py pz ph pq (U pw nw cw)) 137 (0,0)):=λob=>by rw[It _ _ _ (by omega),al.block _ (by omega)];exact wB.out
 have nt:∀ob,(w1.alloc ob).heap[w.heap.size+1]?=Z (AT #[O J 0,AI false,AI false,O J 0,I ⟨#[]⟩,O J 0,U Y 0 0] 43 (0,0)):=λob=>by rw[It _ _ _ (by omega),al.block _ (by omega)];exact jo.out
 have HD0:Hid _:=lV;have jF:Hid _:=nt;have d0:∀ob,(w1.alloc ob).cell? ⟨w.heap.size,0,Y⟩=Z (I here):=λob=>af (lV ob) 0;have d1:∀ob,(w1.alloc ob).cell? ⟨w.heap.size,1,Y⟩=Z (U ps ns cs):=λob=>af (lV ob) 1;have d2:∀ob,(w1.alloc ob).cell? ⟨w.heap.size,2,Y⟩=Z (U pm nm cm):=λob=>af (lV ob) 2;have d3:∀ob,(w1.alloc ob).cell? ⟨w.heap.size,3,Y⟩=Z (O J px):=λob=>af (lV ob) 3;have d4:∀ob,(w1.alloc ob).cell? ⟨w.heap.size,4,Y⟩=Z (O J py):=λob=>af (lV ob) 4;have d5:∀ob,(w1.alloc ob).cell? ⟨w.heap.size,5,Y⟩=Z (O J pz):=λob=>af (lV ob) 5;have d6:∀ob,(w1.alloc ob).cell? ⟨w.heap.size,6,Y⟩=Z (O J ph):=λob=>af (lV ob) 6;have d7:∀ob,(w1.alloc ob).cell? ⟨w.heap.size,7,Y⟩=Z (O J pq):=λob=>af (lV ob) 7;have d8:∀ob,(w1.alloc ob).cell? ⟨w.heap.size,8,Y⟩=Z (U pw nw cw):=λob=>af (lV ob) 8;have z0:∀ob,(w1.alloc ob).cell? ⟨w.heap.size+1,0,Y⟩=Z (O J 0):=λob=>af (nt ob) 0;have z1:∀ob,(w1.alloc ob).cell? ⟨w.heap.size+1,1,Y⟩=Z (AI false):=λob=>af (nt ob) 1;have z2:∀ob,(w1.alloc ob).cell? ⟨w.heap.size+1,2,Y⟩=Z (AI false):=λob=>af (nt ob) 2;have z3:∀ob,(w1.alloc ob).cell? ⟨w.heap.size+1,3,Y⟩=Z (O J 0):=λob=>af (nt ob) 3;have z4:∀ob,(w1.alloc ob).cell? ⟨w.heap.size+1,4,Y⟩=Z (I ⟨#[]⟩):=λob=>af (nt ob) 4;have z5:∀ob,(w1.alloc ob).cell? ⟨w.heap.size+1,5,Y⟩=Z (O J 0):=λob=>af (nt ob) 5;have z6:∀ob,(w1.alloc ob).cell? ⟨w.heap.size+1,6,Y⟩=Z (U Y 0 0):=λob=>af (nt ob) 6;have zz0:∀ob,(w1.alloc ob).frozen? ⟨w.heap.size+1,0,Y⟩=false:=λob=>by simp[Ig,nt ob]
 have zz1:∀ob,(w1.alloc ob).frozen? ⟨w.heap.size+1,1,Y⟩=false:=λob=>by simp[Ig,nt ob]
 have zz2:∀ob,(w1.alloc ob).frozen? ⟨w.heap.size+1,2,Y⟩=false:=λob=>by simp[Ig,nt ob]
 have zz3:∀ob,(w1.alloc ob).frozen? ⟨w.heap.size+1,3,Y⟩=false:=λob=>by simp[Ig,nt ob]
 have zz4:∀ob,(w1.alloc ob).frozen? ⟨w.heap.size+1,4,Y⟩=false:=λob=>by simp[Ig,nt ob]
 have zz5:∀ob,(w1.alloc ob).frozen? ⟨w.heap.size+1,5,Y⟩=false:=λob=>by simp[Ig,nt ob]
 have zz6:∀ob,(w1.alloc ob).frozen? ⟨w.heap.size+1,6,Y⟩=false:=λob=>by simp[Ig,nt ob]
 have mG:Hid (∀ob,Below w.heap.size w (w1.alloc ob)):=λob=>aR.out.alloc (by omega) ob;clear lV nt ez al Dx SM;have adq:(Cx s≠0/\WX=⟨1,1,⟨#[]⟩,[]⟩)\/(Cx s=0/\0<l/\WX=⟨1,1,⟨#[]⟩,[]⟩)\/(Cx s=0/\l=0/\WX=⟨lK r y here sv ms ⟨px,py,pz,ph,pq⟩ wh,y,r,jK r y here sv ms ⟨px,py,pz,ph,pq⟩ wh⟩/\r.size<=Ij):=by
  have hv:=hmv.out;cases h:vH s with
  |none=>exact .inl ⟨HXN.out h,HN.out h⟩
  |some M=>
   rw[h] at hv;obtain⟨v,L9,_,hx⟩:=hv;have hl:l=M.rs.length/\r=M.R/\y=M.an:=by
    obtain⟨_,_,he,_,_⟩:=L9;simp only[he,Array.mk.injEq,List.cons.injEq,Value.int.injEq,Value.string.injEq,Value.slice.injEq,true_and,and_true] at hx;obtain⟨_,_,_,_,h5,h6,_,h8,_⟩:=hx;exact⟨h8,h5,h6⟩
   obtain⟨e1,e2,e3⟩:=hl;obtain⟨x1,x2⟩:=HX.out M h;by_cases h0:M.rs.length=0
   .exact .inr (.inr ⟨x1,by omega,by rw[e2,e3];exact HY.out M h h0,by rw[e2];exact x2⟩)
   .exact .inr (.inl ⟨x1,by omega,HF.out M h h0⟩)
 clear hmv HN HF HY HX HXN;generalize Cx s=X at *;rcases adq with⟨h1,h2⟩|⟨h1,h3,h2⟩|⟨h1,h3,h2,h4⟩
 .have HP:Hid (WX=⟨1,1,⟨#[]⟩,[]⟩):=h2
  have CR:(X !=0)=true:=by simpa using h1
  clear h2;go_wp2_with fail;refine Ix (v:=Im #[O J 0,AI false,AI false,O J 1,I ⟨#[]⟩,O J 1,U Y 0 0]) ?_ rfl ⟨U Y 0 0,by rw[HP.out],by rw[HP.out];exact Rc.bj _ _,?_⟩
  .simp[results,Tryz.results136,go_sem,z0,z1,z2,z3,z4,z5,z6]
  .exact((((((((mG.out _).setCell (p:=⟨w.heap.size+1,0,Y⟩) (by simp<;>omega) _).setCell (p:=⟨w.heap.size+1,1,Y⟩) (by simp<;>omega) _).setCell (p:=⟨w.heap.size+1,2,Y⟩) (by simp<;>omega) _).setCell (p:=⟨w.heap.size+1,3,Y⟩) (by simp<;>omega) _).setCell (p:=⟨w.heap.size+1,4,Y⟩) (by simp<;>omega) _).setCell (p:=⟨w.heap.size+1,5,Y⟩) (by simp<;>omega) _).setCell (p:=⟨w.heap.size+1,6,Y⟩) (by simp<;>omega) _)
 .have HP:Hid (WX=⟨1,1,⟨#[]⟩,[]⟩):=h2
  clear h2;subst h1;go_wp2_with fail;refine Ix (v:=Im #[O J 0,AI false,AI false,O J 1,I ⟨#[]⟩,O J 1,U Y 0 0]) ?_ rfl ⟨U Y 0 0,by rw[HP.out],by rw[HP.out];exact Rc.bj _ _,?_⟩
  .simp[results,Tryz.results136,go_sem,z0,z1,z2,z3,z4,z5,z6]
  .exact((((((((mG.out _).setCell (p:=⟨w.heap.size+1,0,Y⟩) (by simp<;>omega) _).setCell (p:=⟨w.heap.size+1,1,Y⟩) (by simp<;>omega) _).setCell (p:=⟨w.heap.size+1,2,Y⟩) (by simp<;>omega) _).setCell (p:=⟨w.heap.size+1,3,Y⟩) (by simp<;>omega) _).setCell (p:=⟨w.heap.size+1,4,Y⟩) (by simp<;>omega) _).setCell (p:=⟨w.heap.size+1,5,Y⟩) (by simp<;>omega) _).setCell (p:=⟨w.heap.size+1,6,Y⟩) (by simp<;>omega) _)
 .have HP:Hid (WX=⟨lK r y here sv ms ⟨px,py,pz,ph,pq⟩ wh,y,r,jK r y here sv ms ⟨px,py,pz,ph,pq⟩ wh⟩):=h2
  have Fu:Hid (r.size<=Ij):=h4;clear h2 h4;subst h1 h3;go_wp2_with fail;refine Calls.mono (fw.out r y _ (Ve.out.below (mG.out _)) Fu.out (HS.out.below (mG.out _)) (HM.out.below (mG.out _)) (HW.out.below (mG.out _))) ?_;rintro e w2 ⟨v,rfl,ho,aC⟩;obtain⟨pv,cv,rfl⟩:=rR ho;have iZ:w1.heap.size+1<=w2.heap.size:=by have:=aC.size;simpa using this
  have bw:Hid (Below w.heap.size w w2):=(mG.out _).trans (aC.mono (by simp<;>omega));have gv:Hid (Rc.Own (w1.heap.size+1) w2 (U pv (jK r y here sv ms ⟨px,py,pz,ph,pq⟩ wh).length cv) (jK r y here sv ms ⟨px,py,pz,ph,pq⟩ wh)):=by
   have h:=ho;rw[show(w1.alloc (AT #[O J i,AI a,AI c,O J o,I r,O J y,U p 0 k] 43)).heap.size=w1.heap.size+1 by simp] at h;exact h
  have k1:w2.heap[w.heap.size+1]?=Z (AT #[O J 0,AI false,AI false,O J 0,I ⟨#[]⟩,O J 0,U Y 0 0] 43 (0,0)):=(aC.block _ (by simp<;>omega)).trans (jF.out _);have k9:w2.heap[w1.heap.size]?=Z (AT #[O J i,AI a,AI c,O J o,I r,O J y,U p 0 k] 43 (0,0)):=(aC.block _ (by simp)).trans (Ie w1 _);have x0:w2.cell? ⟨w.heap.size+1,0,Y⟩=Z (O J 0):=af k1 0;have xx0:w2.frozen? ⟨w.heap.size+1,0,Y⟩=false:=by simp[Ig,k1]
  have x1:w2.cell? ⟨w.heap.size+1,1,Y⟩=Z (AI false):=af k1 1;have xx1:w2.frozen? ⟨w.heap.size+1,1,Y⟩=false:=by simp[Ig,k1]
  have x2:w2.cell? ⟨w.heap.size+1,2,Y⟩=Z (AI false):=af k1 2;have xx2:w2.frozen? ⟨w.heap.size+1,2,Y⟩=false:=by simp[Ig,k1]
  have x3:w2.cell? ⟨w.heap.size+1,3,Y⟩=Z (O J 0):=af k1 3;have xx3:w2.frozen? ⟨w.heap.size+1,3,Y⟩=false:=by simp[Ig,k1]
  have x4:w2.cell? ⟨w.heap.size+1,4,Y⟩=Z (I ⟨#[]⟩):=af k1 4;have xx4:w2.frozen? ⟨w.heap.size+1,4,Y⟩=false:=by simp[Ig,k1]
  have x5:w2.cell? ⟨w.heap.size+1,5,Y⟩=Z (O J 0):=af k1 5;have xx5:w2.frozen? ⟨w.heap.size+1,5,Y⟩=false:=by simp[Ig,k1]
  have x6:w2.cell? ⟨w.heap.size+1,6,Y⟩=Z (U Y 0 0):=af k1 6;have xx6:w2.frozen? ⟨w.heap.size+1,6,Y⟩=false:=by simp[Ig,k1]
  have m4:w2.cell? ⟨w1.heap.size,4,Y⟩=Z (I r):=af k9 4;have m5:w2.cell? ⟨w1.heap.size,5,Y⟩=Z (O J y):=af k9 5;clear k1 k9 aC ho;generalize jK r y here sv ms ⟨px,py,pz,ph,pq⟩ wh=AL at *;generalize lK r y here sv ms ⟨px,py,pz,ph,pq⟩ wh=AC at *;have E9:Hid (∀g,(Value.slice pv AL.length cv).ownBlock=Z g->g≠w.heap.size+1):=λg h=>by have:=(World.ownsRow.lt gv.out g h).1;omega
  go_wp2_with fail;refine Ix (v:=Im #[O J 0,AI false,AI false,O J AC,I r,O J y,U pv AL.length cv]) ?_ rfl ⟨U pv AL.length cv,by rw[HP.out],?_,?_⟩
  .simp[results,Tryz.results136,go_sem,x0,x1,x2,x3,x4,x5,x6]
  .rw[HP.out]
   refine Rc.Own.mono (base:=w1.heap.size+1) ?_ (by omega);have h:=gv.out;rcases h.2 with⟨hv,h0⟩|⟨g,c',cur,hv,dQ,hg,adr⟩
   .exact⟨h.1,.inl ⟨hv,h0⟩⟩
   .refine⟨h.1,.inr ⟨g,c',cur,hv,dQ,?_,adr⟩⟩
    have bu:=E9.out g (by rw[hv];rfl);have Bd:g≠w.heap.size+1:=bu;rw[IB _ _ _ g Bd,IB _ _ _ g Bd,IB _ _ _ g Bd,IB _ _ _ g Bd,IB _ _ _ g Bd,IB _ _ _ g Bd,IB _ _ _ g Bd];exact hg
  .exact(((((((bw.out.setCell (p:=⟨w.heap.size+1,0,Y⟩) (by simp<;>omega) _).setCell (p:=⟨w.heap.size+1,1,Y⟩) (by simp<;>omega) _).setCell (p:=⟨w.heap.size+1,2,Y⟩) (by simp<;>omega) _).setCell (p:=⟨w.heap.size+1,3,Y⟩) (by simp<;>omega) _).setCell (p:=⟨w.heap.size+1,4,Y⟩) (by simp<;>omega) _).setCell (p:=⟨w.heap.size+1,5,Y⟩) (by simp<;>omega) _).setCell (p:=⟨w.heap.size+1,6,Y⟩) (by simp<;>omega) _)
end Go.Proofs.YtfidjlcdlakceaaGreatDoor
