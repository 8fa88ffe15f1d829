import Derived.Test.YtfidjlcdlakceaaGreatDoorrt3
set_option maxRecDepth 100000
open ByteArray renaming empty→If
open Go renaming maxLen→Ii,cell_regrown→Iq,MemPlace→OS
open Go.Value renaming string→I,int→O,bool→AT,slice→U
open Go.IntKind renaming i64→J
open Option renaming none→Y,some→Z
open List renaming length_append→Ij,getD→Io,getElem?_eq_getElem→Ic,range→JS,mem_map→Oo,mem_range→Qd
open Array renaming getElem?_eq_some_iff→Ib
open Go.DataW renaming trod→OT,trod_struct→OJ,trod_string→JD,trod_int→JR
open Go.Proofs.Tryz renaming prog→be,underlying9→Iv,underlying3→Iz,underlying4→Jg
open List.cons renaming injEq→Oy
open Go.Deep renaming open_slice→QD,add_add→Ub,choose_lt→QR
open Go.World renaming cells?_some→QQ,cell?_spot→QX,block_lt_of_cell?→IE
open Go.WideShapes renaming add_plain→O7
open Nat renaming add_assoc→QH
namespace Go.Proofs.YtfidjlcdlakceaaGreatDoor
namespace Sv
open Go.RowKit
structure ba where
 node:ByteArray
 cF:ByteArray
 name:ByteArray
 tag:ByteArray
 addr:Int
 port:Int
 aO:Bool
 version:Int
 gone:Bool
def dm:ba:=⟨If,If,If,If,0,0,false,0,false⟩
def ba.ok(m:ba):Prop:=m.node.size<=Ii/\m.cF.size<=Ii/\m.name.size<=Ii/\m.tag.size<=Ii
theorem nY:dm.ok:=by simp[ba.ok,dm]
abbrev As(w:World)(b o:Nat)(m:ba):Prop:=w.cell? ⟨b,o,Y⟩=Z (I m.node)/\w.cell? ⟨b,o+1,Y⟩=Z (I m.cF)/\w.cell? ⟨b,o+2,Y⟩=Z (I m.name)/\w.cell? ⟨b,o+3,Y⟩=Z (I m.tag)/\w.cell? ⟨b,o+4,Y⟩=Z (O J m.addr)/\w.cell? ⟨b,o+5,Y⟩=Z (O J m.port)/\w.cell? ⟨b,o+6,Y⟩=Z (AT m.aO)/\w.cell? ⟨b,o+7,Y⟩=Z (O J m.version)/\w.cell? ⟨b,o+8,Y⟩=Z (AT m.gone)
theorem As.re{w:World}{b o:Nat}{m:ba}(h:As w b o m):∀d os,As (Go.Sort.grow (redrawn w d) os) b o m:=λd os=>by
 obtain⟨c0,c1,c2,c3,c4,c5,c6,c7,c8⟩:=h;exact⟨Iq c0 d os,Iq c1 d os,Iq c2 d os,Iq c3 d os,Iq c4 d os,Iq c5 d os,Iq c6 d os,Iq c7 d os,Iq c8 d os⟩
theorem As.eq{w w':World}{b o:Nat}{m:ba}(h:As w b o m)(e:∀o,w'.cell? ⟨b,o,Y⟩=w.cell? ⟨b,o,Y⟩):As w' b o m:=by
 obtain⟨c0,c1,c2,c3,c4,c5,c6,c7,c8⟩:=h;exact⟨(e _).trans c0,(e _).trans c1,(e _).trans c2,(e _).trans c3,(e _).trans c4,(e _).trans c5,(e _).trans c6,(e _).trans c7,(e _).trans c8⟩
def Row(w:World)(b off:Nat)(ms:List ba):Prop:=∀j,j<ms.length->As w b (off+j*9) (ms.getD j dm)
def Sl(w:World)(v:Value)(ms:List ba):Prop:=
 ∃(a:Option Addr) (cap:Nat),v=U a ms.length cap/\(∀j,(ms.getD j dm).ok) /\
  (ms=[]\/∃b off,a=Z ⟨b,off,Y⟩/\b<w.heap.size/\Row w b off ms)
def ba.cs(m:ba):List Value:=[I m.node,I m.cF,I m.name,I m.tag,O J m.addr,O J m.port,AT m.aO,O J m.version,AT m.gone]
def fl(ms:List ba):List Value:=ms.flatMap ba.cs
theorem bL(m:ba):m.cs.length=9:=rfl
theorem bJ(m:ba)(r:List ba):fl (m::r)=m.cs++fl r:=by simp[fl]
theorem eA(a b:List ba):fl (a++b)=fl a++fl b:=by simp[fl]
theorem cS:∀ms:List ba,(fl ms).length=ms.length*9
 |[]=>rfl
 |m::r=>by rw[bJ,Ij,cS r,bL,List.length_cons];omega
theorem da(m:ba):∀v∈m.cs,v.oneCell'=true:=by
 intro v hv;simp[ba.cs] at hv;rcases hv with rfl|rfl|rfl|rfl|rfl|rfl|rfl|rfl|rfl<;>rfl
theorem fL(ms:List ba):∀v∈fl ms,v.oneCell'=true:=by
 intro v hv;obtain⟨m,_,h⟩:=List.mem_flatMap.1 hv;exact da m v h
theorem eD(ms:List ba)(j:Nat)(hj:j<ms.length)(t:Nat)(ht:t<9):(fl ms)[j*9+t]?=(ms.getD j dm).cs[t]?:=by
 induction ms generalizing j with
 |nil=>simp at hj
 |cons m r ih=>
  rw[bJ];cases j with
  |zero=>rw[List.getElem?_append_left (by rw[bL];omega)];simp
  |succ j=>
   rw[List.getElem?_append_right (by rw[bL];omega),bL,show(j+1)*9+t-9=j*9+t by omega,ih j (by simpa using hj)];simp
abbrev Own(base:Nat)(w:World)(v:Value)(ms:List ba):Prop:=w.ownsRow base 52 9 v ms.length (fl ms)
theorem Own.sl{base:Nat}{w:World}{v:Value}{ms:List ba}(h:Own base w v ms)(hs:∀j,(ms.getD j dm).ok):Sl w v ms:=by
 rcases h.2 with⟨rfl,h0⟩|⟨g,c,cur,rfl,dN,hg,fa,dO,cJ,aV⟩
 .exact⟨Y,0,by rw[h0],hs,.inl (List.eq_nil_of_length_eq_zero h0)⟩
 .refine⟨_,c,rfl,hs,.inr ⟨g,0,rfl,(Ib.1 hg).1,λj hj=>?_⟩⟩
  have hc:∀t,t<9->w.cell? ⟨g,0+j*9+t,Y⟩=(ms.getD j dm).cs[t]?:=λt ht=>by
   rw[af hg,<- eD ms j hj t ht,<- aV,List.getElem?_take_of_lt (by omega)];simp
  exact⟨hc 0 (by omega),hc 1 (by omega),hc 2 (by omega),hc 3 (by omega),hc 4 (by omega),hc 5 (by omega),hc 6 (by omega),hc 7 (by omega),hc 8 (by omega)⟩
theorem Own.below{base:Nat}{w w':World}{v:Value}{ms:List ba}(h:Own base w v ms)(hb:Below w.heap.size w w'):Own base w' v ms:=by
 rcases h.2 with⟨rfl,h0⟩|⟨g,c,cur,rfl,dN,hg,fa,dO,cJ,aV⟩
 .exact⟨h.1,.inl ⟨rfl,h0⟩⟩
 .have aB:=(Ib.1 hg).1
  exact⟨h.1,.inr ⟨g,c,cur,rfl,dN,(hb.block g aB).trans hg,fa,dO,cJ,aV⟩⟩
theorem Own.lt{base:Nat}{w:World}{v:Value}{ms:List ba}(h:Own base w v ms)(k:Nat)(hk:v.ownBlock=Z k):base<=k/\k<w.heap.size:=World.ownsRow.lt h k hk
theorem jG{base:Nat}{w:World}{v:Value}{ms:List ba}(h:Own base w v ms)(p:Nat)(hp:p<ms.length):∃g c,v=U (Z ⟨g,0,Y⟩) ms.length c:=by
 rcases h.2 with⟨_,h0⟩|⟨g,c,cur,h1,_⟩
 .omega
 .exact⟨g,c,h1⟩
theorem Sl.below{w w':World}{v:Value}{ms:List ba}(h:Sl w v ms)(hb:Below w.heap.size w w'):Sl w' v ms:=by
 obtain⟨a,cap,rfl,hs,h⟩:=h;refine⟨a,cap,rfl,hs,?_⟩;rcases h with h|⟨b,off,rfl,aB,hr⟩
 .exact .inl h
 .refine .inr ⟨b,off,rfl,Nat.lt_of_lt_of_le aB hb.size,λj hj=>?_⟩
  exact(hr j hj).eq (λo=>(cD hb).1 b o aB)
theorem Row.later{w w':World}{b off:Nat}{ms:List ba}(hr:Row w b off ms)(hb:Below w.heap.size w w')(aB:b<w.heap.size):Row w' b off ms:=λj hj=>(hr j hj).eq (λo=>(cD hb).1 b o aB)
theorem Own.mono{base jc:Nat}{w:World}{v:Value}{ms:List ba}(h:Own base w v ms)(hb:jc<=base):Own jc w v ms:=by
 rcases h.2 with⟨rfl,h0⟩|⟨g,c,cur,rfl,dN,hg,fa,dO,cJ,aV⟩
 .exact⟨h.1,.inl ⟨rfl,h0⟩⟩
 .exact⟨h.1,.inr ⟨g,c,cur,rfl,Nat.le_trans hb dN,hg,fa,dO,cJ,aV⟩⟩
theorem bz(base:Nat)(w:World):Own base w (U Y 0 0) []:=World.ownsRow_nil w base 52 9
theorem eK{ms:List ba}(h:∀j,(ms.getD j dm).ok):∀m∈ms,(m).ok:=by
 intro m hm;obtain⟨j,hj,rfl⟩:=List.getElem_of_mem hm;have:=h j;simpa[Io,Ic hj] using this
theorem bN{ms:List ba}(h:∀m∈ms,(m).ok):∀j,(ms.getD j dm).ok:=by
 intro j;by_cases hj:j<ms.length
 .have:=h ms[j] (List.getElem_mem hj)
  simpa[Io,Ic hj] using this
 .rw[Io,List.getElem?_eq_none (Nat.le_of_not_lt hj)];exact nY
theorem fE{base:Nat}{w:World}{v:Value}{ms:List ba}(h:Own base w v ms)(hs:∀m∈ms,(m).ok):Sl w v ms:=h.sl (bN hs)
theorem ew{base:Nat}{w:World}{v:Value}{L:List ba}{m:ba}(h:w.ownsRow base 52 9 v (L.length+1) (fl L++m.cs)):Own base w v (L++[m]):=by
 have e:fl (L++[m])=fl L++m.cs:=by rw[eA,bJ];simp[fl]
 show w.ownsRow base 52 9 v (L++[m]).length (fl (L++[m]));rw[e,Ij];exact h
end Sv
namespace Sv
open Go.RowKit
theorem Tryz.Le:(Tryz.prog.info? 52).map (λi=>(i.zero,i.size,i.bytes))=Z (Z (.agg #[I ⟨#[]⟩,I ⟨#[]⟩,I ⟨#[]⟩,I ⟨#[]⟩,O J 0,O J 0,AT false,O J 0,AT false]),9,104):=by kernel_rfl
end Sv
namespace Sv
open Go.ChangeShapes Go.WideShapes Go.ChangeAt Go.RowKit
section
variable {H:Type} {enc:TypeId × Value→H} {w:World} {base:Nat} {spare:Nat→Bool} {held:Bool}
theorem Tryz.MR:Tryz.prog.cellsOf 52=9:=by kernel_rfl
theorem Tryz.Ag:Tryz.prog.cellsOf 9=1:=by kernel_rfl
theorem Tryz.zh:Tryz.prog.cellsOf 3=1:=by kernel_rfl
theorem Tryz.kc4:Tryz.prog.cellsOf 4=1:=by kernel_rfl
theorem ed{fuel:Nat}{cs:List Value}{x:DataW H×List OS}(h:OT enc be w base spare held fuel 52 cs=Z x) :
 ∃m:ba,cs=[I m.node,I m.cF,I m.name,I m.tag,O J m.addr,O J m.port,AT m.aO,O J m.version,AT m.gone]/\(m).ok:=by
 obtain⟨xs,n,_,_,hl,hlen,hf⟩:=OJ Tryz.underlying52 h;rw[Tryz.MR] at hl
 match cs,hl with
 |[c0,c1,c2,c3,c4,c5,c6,c7,c8],_=>
  match xs,hlen with
  |[y0,y1,y2,y3,y4,y5,y6,y7,y8],_=>
   have h0:=hf 0 _ rfl;have h1:=hf 1 _ rfl;have h2:=hf 2 _ rfl;have h3:=hf 3 _ rfl;have h4:=hf 4 _ rfl;have h5:=hf 5 _ rfl;have h6:=hf 6 _ rfl;have h7:=hf 7 _ rfl;have h8:=hf 8 _ rfl;simp[Tryz.Ag] at h0;simp[Tryz.Ag] at h1;simp[Tryz.Ag] at h2;simp[Tryz.Ag] at h3;simp[Tryz.zh] at h4;simp[Tryz.zh] at h5;simp[Tryz.kc4] at h6;simp[Tryz.zh] at h7;simp[Tryz.kc4] at h8;obtain⟨z0,e0,_,g0⟩:=JD Iv h0;obtain⟨z1,e1,_,g1⟩:=JD Iv h1;obtain⟨z2,e2,_,g2⟩:=JD Iv h2;obtain⟨z3,e3,_,g3⟩:=JD Iv h3;obtain⟨z4,e4,_⟩:=JR Iz h4;obtain⟨z5,e5,_⟩:=JR Iz h5;obtain⟨z6,e6,_⟩:=DataW.trod_bool Jg h6;obtain⟨z7,e7,_⟩:=JR Iz h7;obtain⟨z8,e8,_⟩:=DataW.trod_bool Jg h8;simp only[Oy,and_true] at e0 e1 e2 e3 e4 e5 e6 e7 e8;subst e0 e1 e2 e3 e4 e5 e6 e7 e8;exact⟨⟨z0,z1,z2,z3,z4,z5,z6,z7,z8⟩,rfl,⟨g0,g1,g2,g3⟩⟩
theorem ej{fuel:Nat}{cs:List Value}{x:DataW H×List OS}(h:OT enc be w base spare held fuel 24 cs=Z x) :
 ∃(p:Option Addr) (n c:Nat) (ms:List ba),cs=[U p n c]/\Sl w (U p n c) ms/\ms.length<=Ii:=by
 rcases QD Tryz.underlying24 h with⟨cJ,_⟩|⟨x,len,cap,m,n,D,Pl,cJ,hb,hl,hm,oS,_,hx⟩
 .exact⟨Y,0,0,[],cJ,⟨Y,0,rfl,bN (by simp),.inl rfl⟩,by simp⟩
 .have Vw:len<=m:=by rw[oS];split<;>omega
  have cX:∀i,i<len->∃q:ba,(∀t,t<9->w.cell? (x.add (i*9+t))=q.cs[t]?)/\(q).ok:=λi hi=>by
   obtain⟨cs',h1,h2⟩:=hx i (by omega);obtain⟨q,hq,hs⟩:=ed h2;rw[Tryz.MR] at h1;obtain⟨_,_,h3⟩:=QQ h1;refine⟨q,λt ht=>?_,hs⟩;rw[<- Ub,h3 t ht,hq];rfl
  have L8:Inhabited ba:=⟨dm⟩;obtain⟨F,hF⟩:=QR (α:=ba) (p:=λi q=>(∀t,t<9->w.cell? (x.add (i*9+t))=q.cs[t]?)/\(q).ok) cX;have fT:∀j,j<len->((JS len).map F).getD j dm=F j:=λj hj=>by simp[Io,hj]
  refine⟨Z x,len,cap,(JS len).map F,cJ,⟨Z x,cap,by simp,bN (λq hq=>?_),?_⟩,by simp;omega⟩
  .obtain⟨j,hj,rfl⟩:=Oo.1 hq
   exact(hF j (Qd.1 hj)).2
  .by_cases h0:len=0
   .left;simp[h0]
   .right
    obtain⟨b,off,spot⟩:=x;have mJ:=(hF 0 (by omega)).1 0 (by omega);have oz:spot=Y:=by simpa[Addr.add] using QX mJ
    subst oz;have bj:∀j,j<len->∀t,t<9->w.cell? ⟨b,off+j*9+t,Y⟩=(F j).cs[t]?:=λj hj t ht=>by
     have:=(hF j hj).1 t ht
     rwa [O7,<- QH] at this
    refine⟨b,off,rfl,IE w ⟨b,off+0*9+0,Y⟩ (bj 0 (by omega) 0 (by omega)),λj hj=>?_⟩;have gd:j<len:=by simpa using hj
    rw[fT j gd];exact⟨bj j gd 0 (by omega),bj j gd 1 (by omega),bj j gd 2 (by omega),bj j gd 3 (by omega),bj j gd 4 (by omega),bj j gd 5 (by omega),bj j gd 6 (by omega),bj j gd 7 (by omega),bj j gd 8 (by omega)⟩
end
end Sv
end Go.Proofs.YtfidjlcdlakceaaGreatDoor
namespace Go.Proofs.YtfidjlcdlakceaaGreatDoor
open Go.ChangeShapes Go.WideShapes Go.ChangeAt Go.RowKit
section
variable {H:Type} {enc:TypeId × Value→H} {w:World} {base:Nat} {spare:Nat→Bool} {held:Bool}
theorem Tryz.MR:Tryz.prog.cellsOf 70=5:=by kernel_rfl
theorem Tryz.Ag:Tryz.prog.cellsOf 9=1:=by kernel_rfl
theorem Tryz.zh:Tryz.prog.cellsOf 3=1:=by kernel_rfl
theorem Tryz.kc4:Tryz.prog.cellsOf 4=1:=by kernel_rfl
theorem ed{fuel:Nat}{cs:List Value}{x:DataW H×List OS}(h:OT enc be w base spare held fuel 70 cs=Z x) :
 ∃m:Mem,cs=[I m.name,O J m.state,O J m.aP,O J m.addr,AT m.server]/\(m).name.size<=Ii:=by
 obtain⟨xs,n,_,_,hl,hlen,hf⟩:=OJ Tryz.underlying70 h;rw[Tryz.MR] at hl
 match cs,hl with
 |[c0,c1,c2,c3,c4],_=>
  match xs,hlen with
  |[y0,y1,y2,y3,y4],_=>
   have h0:=hf 0 _ rfl;have h1:=hf 1 _ rfl;have h2:=hf 2 _ rfl;have h3:=hf 3 _ rfl;have h4:=hf 4 _ rfl;simp[Tryz.Ag] at h0;simp[Tryz.zh] at h1;simp[Tryz.zh] at h2;simp[Tryz.zh] at h3;simp[Tryz.kc4] at h4;obtain⟨z0,e0,_,g0⟩:=JD Iv h0;obtain⟨z1,e1,_⟩:=JR Iz h1;obtain⟨z2,e2,_⟩:=JR Iz h2;obtain⟨z3,e3,_⟩:=JR Iz h3;obtain⟨z4,e4,_⟩:=DataW.trod_bool Jg h4;simp only[Oy,and_true] at e0 e1 e2 e3 e4;subst e0 e1 e2 e3 e4;exact⟨⟨z0,z1,z2,z3,z4⟩,rfl,g0⟩
theorem ej{fuel:Nat}{cs:List Value}{x:DataW H×List OS}(h:OT enc be w base spare held fuel 22 cs=Z x) :
 ∃(p:Option Addr) (n c:Nat) (ms:List Mem),cs=[U p n c]/\Sl w (U p n c) ms/\ms.length<=Ii:=by
 rcases QD Tryz.underlying22 h with⟨cJ,_⟩|⟨x,len,cap,m,n,D,Pl,cJ,hb,hl,hm,oS,_,hx⟩
 .exact⟨Y,0,0,[],cJ,⟨Y,0,rfl,bN (by simp),.inl rfl⟩,by simp⟩
 .have Vw:len<=m:=by rw[oS];split<;>omega
  have cX:∀i,i<len->∃q:Mem,(∀t,t<5->w.cell? (x.add (i*5+t))=q.cs[t]?)/\(q).name.size<=Ii:=λi hi=>by
   obtain⟨cs',h1,h2⟩:=hx i (by omega);obtain⟨q,hq,hs⟩:=ed h2;rw[Tryz.MR] at h1;obtain⟨_,_,h3⟩:=QQ h1;refine⟨q,λt ht=>?_,hs⟩;rw[<- Ub,h3 t ht,hq];rfl
  have L8:Inhabited Mem:=⟨dm⟩;obtain⟨F,hF⟩:=QR (α:=Mem) (p:=λi q=>(∀t,t<5->w.cell? (x.add (i*5+t))=q.cs[t]?)/\(q).name.size<=Ii) cX;have fT:∀j,j<len->((JS len).map F).getD j dm=F j:=λj hj=>by simp[Io,hj]
  refine⟨Z x,len,cap,(JS len).map F,cJ,⟨Z x,cap,by simp,bN (λq hq=>?_),?_⟩,by simp;omega⟩
  .obtain⟨j,hj,rfl⟩:=Oo.1 hq
   exact(hF j (Qd.1 hj)).2
  .by_cases h0:len=0
   .left;simp[h0]
   .right
    obtain⟨b,off,spot⟩:=x;have mJ:=(hF 0 (by omega)).1 0 (by omega);have oz:spot=Y:=by simpa[Addr.add] using QX mJ
    subst oz;have bj:∀j,j<len->∀t,t<5->w.cell? ⟨b,off+j*5+t,Y⟩=(F j).cs[t]?:=λj hj t ht=>by
     have:=(hF j hj).1 t ht
     rwa [O7,<- QH] at this
    refine⟨b,off,rfl,IE w ⟨b,off+0*5+0,Y⟩ (bj 0 (by omega) 0 (by omega)),λj hj=>?_⟩;have gd:j<len:=by simpa using hj
    rw[fT j gd];exact⟨bj j gd 0 (by omega),bj j gd 1 (by omega),bj j gd 2 (by omega),bj j gd 3 (by omega),bj j gd 4 (by omega)⟩
end
end Go.Proofs.YtfidjlcdlakceaaGreatDoor
namespace Go.Proofs.YtfidjlcdlakceaaGreatDoor
namespace Gw
open Go.ChangeShapes Go.WideShapes Go.ChangeAt Go.RowKit
section
variable {H:Type} {enc:TypeId × Value→H} {w:World} {base:Nat} {spare:Nat→Bool} {held:Bool}
theorem Tryz.MR:Tryz.prog.cellsOf 49=3:=by kernel_rfl
theorem Tryz.Ag:Tryz.prog.cellsOf 9=1:=by kernel_rfl
theorem Tryz.zh:Tryz.prog.cellsOf 3=1:=by kernel_rfl
theorem ed{fuel:Nat}{cs:List Value}{x:DataW H×List OS}(h:OT enc be w base spare held fuel 49 cs=Z x) :
 ∃m:cW,cs=[I m.ai,O J m.addr,O J m.version]/\(m).ok:=by
 obtain⟨xs,n,_,_,hl,hlen,hf⟩:=OJ Tryz.underlying49 h;rw[Tryz.MR] at hl
 match cs,hl with
 |[c0,c1,c2],_=>
  match xs,hlen with
  |[y0,y1,y2],_=>
   have h0:=hf 0 _ rfl;have h1:=hf 1 _ rfl;have h2:=hf 2 _ rfl;simp[Tryz.Ag] at h0;simp[Tryz.zh] at h1;simp[Tryz.zh] at h2;obtain⟨z0,e0,_,g0⟩:=JD Iv h0;obtain⟨z1,e1,_⟩:=JR Iz h1;obtain⟨z2,e2,_⟩:=JR Iz h2;simp only[Oy,and_true] at e0 e1 e2;subst e0 e1 e2;exact⟨⟨z0,z1,z2⟩,rfl,g0⟩
theorem ej{fuel:Nat}{cs:List Value}{x:DataW H×List OS}(h:OT enc be w base spare held fuel 25 cs=Z x) :
 ∃(p:Option Addr) (n c:Nat) (ms:List cW),cs=[U p n c]/\Sl w (U p n c) ms/\ms.length<=Ii:=by
 rcases QD Tryz.underlying25 h with⟨cJ,_⟩|⟨x,len,cap,m,n,D,Pl,cJ,hb,hl,hm,oS,_,hx⟩
 .exact⟨Y,0,0,[],cJ,⟨Y,0,rfl,bN (by simp),.inl rfl⟩,by simp⟩
 .have Vw:len<=m:=by rw[oS];split<;>omega
  have cX:∀i,i<len->∃q:cW,(∀t,t<3->w.cell? (x.add (i*3+t))=q.cs[t]?)/\(q).ok:=λi hi=>by
   obtain⟨cs',h1,h2⟩:=hx i (by omega);obtain⟨q,hq,hs⟩:=ed h2;rw[Tryz.MR] at h1;obtain⟨_,_,h3⟩:=QQ h1;refine⟨q,λt ht=>?_,hs⟩;rw[<- Ub,h3 t ht,hq];rfl
  have L8:Inhabited cW:=⟨dm⟩;obtain⟨F,hF⟩:=QR (α:=cW) (p:=λi q=>(∀t,t<3->w.cell? (x.add (i*3+t))=q.cs[t]?)/\(q).ok) cX;have fT:∀j,j<len->((JS len).map F).getD j dm=F j:=λj hj=>by simp[Io,hj]
  refine⟨Z x,len,cap,(JS len).map F,cJ,⟨Z x,cap,by simp,bN (λq hq=>?_),?_⟩,by simp;omega⟩
  .obtain⟨j,hj,rfl⟩:=Oo.1 hq
   exact(hF j (Qd.1 hj)).2
  .by_cases h0:len=0
   .left;simp[h0]
   .right
    obtain⟨b,off,spot⟩:=x;have mJ:=(hF 0 (by omega)).1 0 (by omega);have oz:spot=Y:=by simpa[Addr.add] using QX mJ
    subst oz;have bj:∀j,j<len->∀t,t<3->w.cell? ⟨b,off+j*3+t,Y⟩=(F j).cs[t]?:=λj hj t ht=>by
     have:=(hF j hj).1 t ht
     rwa [O7,<- QH] at this
    refine⟨b,off,rfl,IE w ⟨b,off+0*3+0,Y⟩ (bj 0 (by omega) 0 (by omega)),λj hj=>?_⟩;have gd:j<len:=by simpa using hj
    rw[fT j gd];exact⟨bj j gd 0 (by omega),bj j gd 1 (by omega),bj j gd 2 (by omega)⟩
end
end Gw
namespace Wh
open Go.ChangeShapes Go.WideShapes Go.ChangeAt Go.RowKit
section
variable {H:Type} {enc:TypeId × Value→H} {w:World} {base:Nat} {spare:Nat→Bool} {held:Bool}
theorem Tryz.MR:Tryz.prog.cellsOf 142=6:=by kernel_rfl
theorem Tryz.Ag:Tryz.prog.cellsOf 9=1:=by kernel_rfl
theorem Tryz.zh:Tryz.prog.cellsOf 3=1:=by kernel_rfl
theorem kcP:Tryz.prog.cellsOf 27=5:=by kernel_rfl
theorem qp{fuel:Nat}{cs:List Value}{x:DataW H×List OS}(h:OT enc be w base spare held fuel 27 cs=Z x) :
 ∃a b c d e:Int,cs=[O J a,O J b,O J c,O J d,O J e]:=by
 obtain⟨xs,n,_,_,hl,hlen,hf⟩:=OJ Tryz.underlying27 h;rw[kcP] at hl
 match cs,hl with
 |[c0,c1,c2,c3,c4],_=>
  match xs,hlen with
  |[y0,y1,y2,y3,y4],_=>
   have h0:=hf 0 _ rfl;have h1:=hf 1 _ rfl;have h2:=hf 2 _ rfl;have h3:=hf 3 _ rfl;have h4:=hf 4 _ rfl;simp[Tryz.zh] at h0;simp[Tryz.zh] at h1;simp[Tryz.zh] at h2;simp[Tryz.zh] at h3;simp[Tryz.zh] at h4;obtain⟨a,e0,_,_⟩:=JR Iz h0;obtain⟨b,e1,_,_⟩:=JR Iz h1;obtain⟨c,e2,_,_⟩:=JR Iz h2;obtain⟨d,e3,_,_⟩:=JR Iz h3;obtain⟨e,e4,_,_⟩:=JR Iz h4;simp only[Oy,and_true] at e0 e1 e2 e3 e4;subst e0 e1 e2 e3 e4;exact⟨a,b,c,d,e,rfl⟩
theorem ed{fuel:Nat}{cs:List Value}{x:DataW H×List OS}(h:OT enc be w base spare held fuel 142 cs=Z x) :
 ∃m:cd,cs=m.cs/\m.ok:=by
 obtain⟨xs,n,_,_,hl,hlen,hf⟩:=OJ Tryz.underlying142 h;rw[Tryz.MR] at hl
 match cs,hl with
 |[c0,c1,c2,c3,c4,c5],_=>
  match xs,hlen with
  |[y0,y1],_=>
   have h0:=hf 0 _ rfl;have h1:=hf 1 _ rfl;simp[Tryz.Ag] at h0;simp[kcP] at h1;obtain⟨s,e0,_,w0⟩:=JD Iv h0;obtain⟨a,b,c,d,e,e1⟩:=qp h1;simp only[Oy,and_true] at e0 e1;obtain⟨r1,r2,r3,r4,r5⟩:=e1;subst e0 r1 r2 r3 r4 r5;exact⟨⟨s,a,b,c,d,e⟩,rfl,w0⟩
theorem ej{fuel:Nat}{cs:List Value}{x:DataW H×List OS}(h:OT enc be w base spare held fuel 28 cs=Z x) :
 ∃(p:Option Addr) (n c:Nat) (ms:List cd),cs=[U p n c]/\Sl w (U p n c) ms/\ms.length<=Ii:=by
 rcases QD Tryz.underlying28 h with⟨cJ,_⟩|⟨x,len,cap,m,n,D,Pl,cJ,hb,hl,hm,oS,_,hx⟩
 .exact⟨Y,0,0,[],cJ,⟨Y,0,rfl,bN (by simp),.inl rfl⟩,by simp⟩
 .have Vw:len<=m:=by rw[oS];split<;>omega
  have cX:∀i,i<len->∃q:cd,(∀t,t<6->w.cell? (x.add (i*6+t))=q.cs[t]?)/\(q).ok:=λi hi=>by
   obtain⟨cs',h1,h2⟩:=hx i (by omega);obtain⟨q,hq,hs⟩:=ed h2;rw[Tryz.MR] at h1;obtain⟨_,_,h3⟩:=QQ h1;refine⟨q,λt ht=>?_,hs⟩;rw[<- Ub,h3 t ht,hq]
  have L8:Inhabited cd:=⟨dm⟩;obtain⟨F,hF⟩:=QR (α:=cd) (p:=λi q=>(∀t,t<6->w.cell? (x.add (i*6+t))=q.cs[t]?)/\(q).ok) cX;have fT:∀j,j<len->((JS len).map F).getD j dm=F j:=λj hj=>by simp[Io,hj]
  refine⟨Z x,len,cap,(JS len).map F,cJ,⟨Z x,cap,by simp,bN (λq hq=>?_),?_⟩,by simp;omega⟩
  .obtain⟨j,hj,rfl⟩:=Oo.1 hq
   exact(hF j (Qd.1 hj)).2
  .by_cases h0:len=0
   .left;simp[h0]
   .right
    obtain⟨b,off,spot⟩:=x;have mJ:=(hF 0 (by omega)).1 0 (by omega);have oz:spot=Y:=by simpa[Addr.add] using QX mJ
    subst oz;have bj:∀j,j<len->∀t,t<6->w.cell? ⟨b,off+j*6+t,Y⟩=(F j).cs[t]?:=λj hj t ht=>by
     have:=(hF j hj).1 t ht
     rwa [O7,<- QH] at this
    refine⟨b,off,rfl,IE w ⟨b,off+0*6+0,Y⟩ (bj 0 (by omega) 0 (by omega)),λj hj=>?_⟩;have gd:j<len:=by simpa using hj
    rw[fT j gd];exact⟨bj j gd 0 (by omega),bj j gd 1 (by omega),bj j gd 2 (by omega),bj j gd 3 (by omega),bj j gd 4 (by omega),bj j gd 5 (by omega)⟩
end
end Wh
theorem Tryz.kcS:Tryz.prog.cellsOf 24=1:=by kernel_rfl
theorem Tryz.kcM:Tryz.prog.cellsOf 22=1:=by kernel_rfl
theorem Tryz.kcW:Tryz.prog.cellsOf 28=1:=by kernel_rfl
theorem Tryz.kcG:Tryz.prog.cellsOf 25=1:=by kernel_rfl
end Go.Proofs.YtfidjlcdlakceaaGreatDoor
