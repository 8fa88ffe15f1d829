import Derived.Test.YtfidjlcdlakceaaGreatDoorrt17
import Derived.Deep.AppendLies
set_option maxHeartbeats 3200000
set_option maxRecDepth 100000
open Go.Proofs.Tryz renaming prog→be,func156→QW,ntmps156→QI,results156→Qp,underlying41→O2
open Option renaming some→Z,none→Y
open Go.Value renaming string→I,int→O,pointer→Ig,tuple→Il,bool→AT,slice→U
open Go.Ending renaming returned→sh
open Go.Obj renaming cells→AI
open Array renaming getElem?_eq_some_iff→Ib
open Nat renaming le_trans→Ir,lt_of_lt_of_le→Iu,le_refl→By
open Go.World renaming cell?_setCell_other→JC,frozen?→Ih,cell?_of_block→Oi,news_of_block→Ol
open Go.IntKind renaming i64→J,wrap_i64→IN
open Go renaming bodyPost→Ji,heap_alloc_new→Ie,bodyPost_ret→Iy,maxLen→Ii,wpAny_ready→I6,wp_append_own→Q1
open List renaming length_append→Ij,getD→Io,getElem?_eq_getElem→Ic,flatMap_append→Qx,take_succ_eq_append_getElem→Iw,take_length→OC
open ByteArray renaming size→JP
open Bool renaming and_eq_true→IJ,or_eq_true→OY
open Go.World.Extends renaming refl→IB
open Go.AllReady renaming cons→IM,nil→IZ
open Go.World.ownsRow renaming drew→Qi,alloc→J6
namespace Go.Proofs
open Go.Shelf
def Tryz.wF:Go.Shelf.Ren:=⟨fun|316=>252|n=>n,fun|9=>9|3=>3|4=>4|37=>127|0=>0|127=>186|5=>5|n=>n,fun|n=>n⟩
theorem Tryz.KL:Go.Proofs.LaysM.n316 be Tryz.wF:={
 mixed:=by kernel_rfl
 f316:=Tryz.func252.trans (congrArg Z (by kernel_rfl))
 t0:=Tryz.underlying0
 a0:=Tryz.isAgg0
 z0:=Tryz.sizeOf0
 v0:=Tryz.zeroValue0
 t3:=Tryz.underlying3
 a3:=Tryz.isAgg3
 z3:=Tryz.sizeOf3
 v3:=Tryz.zeroValue3
 t4:=Tryz.underlying4
 a4:=Tryz.isAgg4
 z4:=Tryz.sizeOf4
 v4:=Tryz.zeroValue4
 t9:=Tryz.underlying9
 a9:=Tryz.isAgg9
 z9:=Tryz.sizeOf9
 v9:=Tryz.zeroValue9
 t37:=Tryz.underlying127
 a37:=Tryz.isAgg127
 z37:=Tryz.sizeOf127
 v37:=Tryz.zeroValue127
 t127:=Tryz.underlying186
 a127:=Tryz.isAgg186
 z127:=Tryz.sizeOf186
 v127:=Tryz.zeroValue186
 t5:=Tryz.underlying5
 a5:=Tryz.isAgg5
 z5:=Tryz.sizeOf5
 v5:=Tryz.zeroValue5
 i0:=by kernel_rfl
 i3:=by kernel_rfl
 i4:=by kernel_rfl
 i5:=by kernel_rfl
 i9:=by kernel_rfl
 i37:=by kernel_rfl
 i127:=by kernel_rfl }
open Go.RowKit in
theorem Tryz.stringslite_Clone(s:ByteArray)(w:World)(ae5:s.size<=281474976710656) :
 Calls be 252 #[I s] w λe w'=>e=sh (I s)/\Below w.heap.size w w':=Any.stringslite_Clone Tryz.KL s w ae5
end Go.Proofs
namespace Go.Proofs.YtfidjlcdlakceaaGreatDoor
open Go.RowKit
structure Rx(g X:Nat)(t:ByteArray)(w:World)(a:Nat)(cs:Array Value)(W:World):Prop where
 di:dA g t a W
 bx:W.heap[X]?=Z (AI cs 64 (0,0))
 os:W.os=w.os
 tape:W.tape=w.tape
 output:W.output=w.output
 size:w.heap.size<=W.heap.size
 block:∀k:Nat,k<w.heap.size->k≠g->k≠X->W.heap[k]?=w.heap[k]?
 ne:g≠X
theorem Rx.call{g X a b:Nat}{t:ByteArray}{w W W':World}{cs:Array Value}(h:Rx g X t w a cs W)(h1:Hid (dA g t b W'))(h2:Hid (Rd g W W')):Rx g X t w b cs W':=
 ⟨h1.out,(h2.out.block X (Ib.1 h.bx).1 (Ne.symm h.ne)).trans h.bx,h2.out.os.trans h.os,h2.out.tape.trans h.tape,h2.out.output.trans h.output,Ir h.size h2.out.size,λk hk h3 h4=>(h2.out.block k (Iu hk h.size) h3).trans (h.block k hk h3 h4),h.ne⟩
theorem Rx.below{g X a:Nat}{t:ByteArray}{w W W':World}{cs:Array Value}(h:Rx g X t w a cs W)(hb:Below W.heap.size W W'):Rx g X t w a cs W':=
 h.call (h.di.below hb h.di.hg) (Rd.ff hb (By _):Rd g W W')
theorem Rx.store{g X a:Nat}{t:ByteArray}{w W:World}{cs:Array Value}(h:Rx g X t w a cs W)(i:Nat)(v:Value):Rx g X t w a (cs.setIfInBounds i v) (W.setCell ⟨X,i,Y⟩ v) where
 di:=⟨(JC _ _ _ _ (by have:=h.ne;intro e;simp at e)).trans h.di.c0,(JC _ _ _ _ (by have:=h.ne;intro e;simp at e)).trans h.di.c1,by simpa using h.di.hz,by simpa using h.di.hg⟩
 bx:=Joins.block_setCell h.bx v
 os:=h.os
 tape:=h.tape
 output:=h.output
 size:=by simpa using h.size
 block:=λk hk h3 h4=>(Below.heap_setCell W _ v k (by simpa using h4)).trans (h.block k hk h3 h4)
 ne:=h.ne
theorem Rx.cell{g X a:Nat}{t:ByteArray}{w W:World}{cs:Array Value}(h:Rx g X t w a cs W)(i:Nat):W.cell? ⟨X,i,Y⟩=cs[i]?:=af h.bx i
theorem Rx.free{g X a:Nat}{t:ByteArray}{w W:World}{cs:Array Value}(h:Rx g X t w a cs W)(i:Nat):W.frozen? ⟨X,i,Y⟩=false:=by simp[Ih,h.bx]
theorem sI(s:ByteArray)(w:World)(hs:s.size<=1000) :
 Calls be 214 #[I s] w λe w'=>e=sh (I s)/\Below w.heap.size w w':=by
 have HC:Hid (Calls be 252 #[I s] w λe w'=>e=sh (I s)/\Below w.heap.size w w'):=Tryz.stringslite_Clone s w (by omega);go_enter Tryz.func214,Tryz.ntmps214;go_wp2_with fail;refine HC.out.mono ?_;rintro e w1 ⟨rfl,hb⟩;go_wp2_with fail;go_ret;exact⟨rfl,hb⟩
theorem N8(g X a:Nat)(t nm:ByteArray)(la ad:Int)(w W:World)(h:Rx g X t w a #[I nm,O J 1,O J la,O J 0,I ⟨#[]⟩,O J 0,I ⟨#[]⟩] W)(hs:t.size<=1000)(h0:0<=ad)(h1:ad<256^4)(cG:pc t a (fe ad 4)) :
 Calls be 156 #[Ig (Z ⟨g,0,Y⟩),Ig (Z ⟨X,0,Y⟩)] W λe w'=>e=sh (Il #[])/\Rx g X t w (a+4) #[I nm,O J 1,O J la,O J ad,I ⟨#[]⟩,O J 0,I ⟨#[]⟩] w':=by
 have hr:=cR h0 h1 cG;have bb:=cG.size;rw[bA] at bb;have H:Hid (Rx g X t w a #[I nm,O J 1,O J la,O J 0,I ⟨#[]⟩,O J 0,I ⟨#[]⟩] W):=h;have HN:Hid (Calls be 99 #[Ig (Z ⟨g,0,Y⟩),O J 4] W λe w'=>e=sh (O J ad)/\Hid (dA g t (a+4) w')/\Hid (Rd g W w')):=(show Calls _ _ _ _ _ by
  have h:=cY g a 4 t W H.out.di hs bb (by omega);rw[hr] at h;exact h)
 have c1:W.cell? ⟨X,1,Y⟩=Z (O J 1):=h.cell 1;clear h cG hr h0 h1;go_enter QW,QI;go_wp2_with fail;refine HN.out.mono ?_;rintro e w1 ⟨rfl,h1,h2⟩;have H1:Hid (Rx g X t w (a+4) #[I nm,O J 1,O J la,O J 0,I ⟨#[]⟩,O J 0,I ⟨#[]⟩] w1):=H.out.call h1 h2;have c3:w1.cell? ⟨X,3,Y⟩=Z (O J 0):=H1.out.cell 3;have z3:=H1.out.free 3;clear h1 h2;go_wp2_with fail;simp[Ji,results,Qp];exact H1.out.store 3 (O J ad)
theorem KM(g X a:Nat)(t nm tx:ByteArray)(la:Int)(w W:World)(h:Rx g X t w a #[I nm,O J 16,O J la,O J 0,I ⟨#[]⟩,O J 0,I ⟨#[]⟩] W)(hs:t.size<=1000)(htx:tx.size<=200)(cG:pc t a (fe tx.size 1++tx.data.toList)) :
 Calls be 156 #[Ig (Z ⟨g,0,Y⟩),Ig (Z ⟨X,0,Y⟩)] W λe w'=>e=sh (Il #[])/\Rx g X t w (a+1+tx.size) #[I nm,O J 16,O J la,O J 0,I tx,O J 0,I ⟨#[]⟩] w':=by
 have hr:=cR (n:=tx.size) (by omega) (by omega) cG.left;have bb:=cG.size;have hl:tx.data.toList.length=tx.size:=by simp
 rw[Ij,bA,hl] at bb;have hex:t.extract (a+1) (a+1+tx.size)=tx:=by
  have h2:=cG.right;rw[bA] at h2;exact h2.extract
 have H:Hid (Rx g X t w a #[I nm,O J 16,O J la,O J 0,I ⟨#[]⟩,O J 0,I ⟨#[]⟩] W):=h;have HN:Hid (Calls be 155 #[Ig (Z ⟨g,0,Y⟩)] W λe w'=>e=sh (I tx)/\Hid (dA g t (a+1+tx.size) w')/\Hid (Rd g W w')):=o8 g a tx.size t tx W h.di hs (by omega) (by omega) hex;have Xw:Hid (∀W,Calls be 214 #[I tx] W λe w'=>e=sh (I tx)/\Below W.heap.size W w'):=λW=>sI tx W (by omega);have c1:W.cell? ⟨X,1,Y⟩=Z (O J 16):=h.cell 1;clear h cG hr hex;go_enter QW,QI;go_wp2_with fail;refine HN.out.mono ?_;rintro e w1 ⟨rfl,h1,h2⟩;have H1:Hid (Rx g X t w (a+1+tx.size) #[I nm,O J 16,O J la,O J 0,I ⟨#[]⟩,O J 0,I ⟨#[]⟩] w1):=H.out.call h1 h2;clear h1 h2;go_wp2_with fail;refine(Xw.out w1).mono ?_;rintro e w2 ⟨rfl,aD⟩;have H2:Hid (Rx g X t w (a+1+tx.size) #[I nm,O J 16,O J la,O J 0,I ⟨#[]⟩,O J 0,I ⟨#[]⟩] w2):=H1.out.below aD;have c4:w2.cell? ⟨X,4,Y⟩=Z (I ⟨#[]⟩):=H2.out.cell 4;have z4:=H2.out.free 4;clear aD;go_wp2_with fail;simp[Ji,results,Qp];exact H2.out.store 4 (I tx)
theorem KN(g X a:Nat)(t nm ta:ByteArray)(la po:Int)(w W:World)(h:Rx g X t w a #[I nm,O J 33,O J la,O J 0,I ⟨#[]⟩,O J 0,I ⟨#[]⟩] W)(hs:t.size<=1000)(h0:0<=po)(h1:po<256^2)(hn:bQ ta=0)(cG:pc t a (fe 0 2++(fe 0 2++(fe po 2++cH ta)))) :
 Calls be 156 #[Ig (Z ⟨g,0,Y⟩),Ig (Z ⟨X,0,Y⟩)] W λe w'=>e=sh (Il #[])/\Rx g X t w (a+6+(cH ta).length) #[I nm,O J 33,O J la,O J 0,I ⟨#[]⟩,O J po,I ta] w':=by
 have bb:=cG.size;simp only[Ij,bA] at bb;have a1:=cG.left;have a2:=cG.right;rw[bA] at a2;have a3:=a2.left;have a4:=a2.right;rw[bA] at a4;have a5:=a4.left;have a6:=a4.right;rw[bA] at a6;have r1:=cR (n:=0) (by omega) (by omega) a1;have r2:=cR (n:=0) (by omega) (by omega) a3;have r3:=cR h0 h1 a5;have H:Hid (Rx g X t w a #[I nm,O J 33,O J la,O J 0,I ⟨#[]⟩,O J 0,I ⟨#[]⟩] W):=h;have R1:Hid (au t a 2=0):=(show _=_ by omega);have R2:Hid (au t (a+2) 2=0):=(show _=_ by omega);have R3:Hid ((au t (a+2+2) 2:Int)=po):=r3;have A6:Hid (pc t (a+2+2+2) (cH ta)):=a6;have c1:W.cell? ⟨X,1,Y⟩=Z (O J 33):=h.cell 1;clear h cG a1 a2 a3 a4 a5 a6 r1 r2 r3;go_enter QW,QI;go_wp2_with fail;refine(ev g a 2 0 t W H.out.di hs (by omega) (by omega) R1.out).mono ?_;rintro e w1 ⟨rfl,h1,h2⟩;have H1:Hid (Rx g X t w (a+2) #[I nm,O J 33,O J la,O J 0,I ⟨#[]⟩,O J 0,I ⟨#[]⟩] w1):=H.out.call h1 h2;clear h1 h2;go_wp2_with fail;refine(ev g (a+2) 2 0 t w1 H1.out.di hs (by omega) (by omega) R2.out).mono ?_;rintro e w2 ⟨rfl,h1,h2⟩;have H2:Hid (Rx g X t w (a+2+2) #[I nm,O J 33,O J la,O J 0,I ⟨#[]⟩,O J 0,I ⟨#[]⟩] w2):=H1.out.call h1 h2;clear h1 h2;go_wp2_with fail;refine(cY g (a+2+2) 2 t w2 H2.out.di hs (by omega) (by omega)).mono ?_;rintro e w3 ⟨rfl,h1,h2⟩;rw[R3.out];have H3:Hid (Rx g X t w (a+2+2+2) #[I nm,O J 33,O J la,O J 0,I ⟨#[]⟩,O J 0,I ⟨#[]⟩] w3):=H2.out.call h1 h2;have c5:w3.cell? ⟨X,5,Y⟩=Z (O J 0):=H3.out.cell 5;have z5:=H3.out.free 5;clear h1 h2;go_wp2_with fail;have H4:Hid (Rx g X t w (a+2+2+2) #[I nm,O J 33,O J la,O J 0,I ⟨#[]⟩,O J po,I ⟨#[]⟩] (w3.setCell ⟨X,5,Y⟩ (O J po))):=H3.out.store 5 (O J po);refine(pd g (a+2+2+2) ta t _ H4.out.di hs hn A6.out).mono ?_;rintro e w4 ⟨rfl,h1,h2⟩;have H5:Hid (Rx g X t w (a+2+2+2+(cH ta).length) #[I nm,O J 33,O J la,O J 0,I ⟨#[]⟩,O J po,I ⟨#[]⟩] w4):=H4.out.call h1 h2;have c6:w4.cell? ⟨X,6,Y⟩=Z (I ⟨#[]⟩):=H5.out.cell 6;have z6:=H5.out.free 6;clear h1 h2 H4 c5 z5;go_wp2_with fail;simp[Ji,results,Qp];exact H5.out.store 6 (I ta)
def GO(t:ByteArray)(a:Nat):Option (ByteArray×Nat):=(ub t a a [] Y).map λx=>(mk (jn (x.1.map vc)),x.2)
theorem A2(g a:Nat)(t:ByteArray)(w:World)(h:dA g t a w)(hs:t.size<=1000)(ha:a<=t.size) :
 Calls be 102 #[Ig (Z ⟨g,0,Y⟩)] w λe w'=>Hid (Rd g w w')/\((∃s q,GO t a=Z (s,q)/\s.size<=1000/\q<=t.size/\e=sh (I s)/\Hid (dA g t q w'))\/(GO t a=Y/\e=dC 1)):=by
 refine(T2 g a t w h hs ha).mono ?_;rintro e w' ⟨h1,⟨ls,q,h2,⟨h3,h4⟩,h5,h6,h7⟩|⟨h2,h3⟩⟩
 .refine⟨h1,.inl ⟨_,q,by unfold GO;rw[h2];rfl,?_,h5,h6,h7⟩⟩
  rw[gB];have:=AP ls h4;omega
 .exact⟨h1,.inr ⟨by unfold GO;rw[h2];rfl,h3⟩⟩
def lz(t:ByteArray)(a:Nat)(nm:ByteArray)(ty la:Int):Option (Rc.Rec×Nat):=
 if ty=1 then(if a+4<=t.size then Z (⟨nm,ty,la,au t a 4,⟨#[]⟩,0,⟨#[]⟩⟩,a+4) else Y)
 else if ty=16 then(if a+1+au t a 1<=t.size then Z (⟨nm,ty,la,0,t.extract (a+1) (a+1+au t a 1),0,⟨#[]⟩⟩,a+1+au t a 1) else Y)
 else if ty=33 then
  (if a+2<=t.size/\(au t a 2:Int)=0 then
    if a+2+2<=t.size/\(au t (a+2) 2:Int)=0 then
     if a+2+2+2<=t.size then(GO t (a+2+2+2)).map λx=>(⟨nm,ty,la,0,⟨#[]⟩,au t (a+2+2) 2,x.1⟩,x.2) else Y
    else Y
  else Y)
 else Z (⟨nm,ty,la,0,⟨#[]⟩,0,⟨#[]⟩⟩,a)
structure Ry(g X:Nat)(w W:World):Prop where
 os:W.os=w.os
 tape:W.tape=w.tape
 output:W.output=w.output
 size:w.heap.size<=W.heap.size
 block:∀k:Nat,k<w.heap.size->k≠g->k≠X->W.heap[k]?=w.heap[k]?
theorem Rx.ry{g X a:Nat}{t:ByteArray}{w W:World}{cs:Array Value}(h:Rx g X t w a cs W):Ry g X w W:=⟨h.os,h.tape,h.output,h.size,h.block⟩
theorem Rx.gone{g X a:Nat}{t:ByteArray}{w W W':World}{cs:Array Value}(h:Rx g X t w a cs W)(h2:Hid (Rd g W W')):Ry g X w W':=
 ⟨h2.out.os.trans h.os,h2.out.tape.trans h.tape,h2.out.output.trans h.output,Ir h.size h2.out.size,λk hk h3 h4=>(h2.out.block k (Iu hk h.size) h3).trans (h.block k hk h3 h4)⟩
abbrev ae6(r:Rc.Rec):Array Value:=#[I r.name,O J r.al,O J r.aE,O J r.addr,I r.text,O J r.port,I r.target]
abbrev wG(g X a:Nat)(t nm:ByteArray)(ty la:Int)(w:World)(e:Ending)(w':World):Prop:=
 (∃r q,lz t a nm ty la=Z (r,q)/\q<=t.size/\(r.name=nm/\r.text.size<=1000/\r.target.size<=1000)/\e=sh (Il #[])/\Hid (Rx g X t w q (ae6 r) w'))\/(lz t a nm ty la=Y/\e=dC 1/\Hid (Ry g X w w'))
theorem N9(g X a:Nat)(t nm:ByteArray)(la:Int)(w W:World)(h:Rx g X t w a #[I nm,O J 1,O J la,O J 0,I ⟨#[]⟩,O J 0,I ⟨#[]⟩] W)(hs:t.size<=1000)(ha:a<=t.size) :
 Calls be 156 #[Ig (Z ⟨g,0,Y⟩),Ig (Z ⟨X,0,Y⟩)] W (wG g X a t nm 1 la w):=by
 have HF:Hid (lz t a nm 1 la=if a+4<=t.size then Z (⟨nm,1,la,au t a 4,⟨#[]⟩,0,⟨#[]⟩⟩,a+4) else Y):=if_pos rfl;have H:Hid (Rx g X t w a #[I nm,O J 1,O J la,O J 0,I ⟨#[]⟩,O J 0,I ⟨#[]⟩] W):=h;have HN:Hid (Calls be 99 #[Ig (Z ⟨g,0,Y⟩),O J 4] W λe w'=>Hid (Rd g W w')/\((a+4<=t.size/\e=sh (O J (au t a 4))/\Hid (dA g t (a+4) w'))\/(¬ a+4<=t.size/\e=dC 1))):=dR g a 4 t W h.di hs ha (by omega);have c1:W.cell? ⟨X,1,Y⟩=Z (O J 1):=h.cell 1;clear h;unfold wG;generalize lz t a nm 1 la=F at *;go_enter QW,QI;go_wp2_with fail;refine HN.out.mono ?_;rintro e w1 ⟨h2,⟨hle,rfl,h1⟩|⟨iA,rfl⟩⟩;rotate_left
 .exact⟨rfl,.inr ⟨HF.out.trans (if_neg iA),rfl,H.out.gone h2⟩⟩
 have H1:Hid (Rx g X t w (a+4) #[I nm,O J 1,O J la,O J 0,I ⟨#[]⟩,O J 0,I ⟨#[]⟩] w1):=H.out.call h1 h2;have c3:w1.cell? ⟨X,3,Y⟩=Z (O J 0):=H1.out.cell 3;have z3:=H1.out.free 3;have xp:Hid (F=Z (⟨nm,1,la,au t a 4,⟨#[]⟩,0,⟨#[]⟩⟩,a+4)):=HF.out.trans (if_pos hle);clear h1 h2 HF;generalize(au t a 4:Int)=x at *;go_wp2_with fail;simp only[Ji,results,Qp];exact⟨trivial,Il #[],by simp,.inl ⟨_,_,xp.out,hle,⟨rfl,by simp[JP],by simp[JP]⟩,rfl,H1.out.store 3 (O J x)⟩⟩
theorem KO(g X a:Nat)(t nm:ByteArray)(la:Int)(w W:World)(h:Rx g X t w a #[I nm,O J 16,O J la,O J 0,I ⟨#[]⟩,O J 0,I ⟨#[]⟩] W)(hs:t.size<=1000)(ha:a<=t.size) :
 Calls be 156 #[Ig (Z ⟨g,0,Y⟩),Ig (Z ⟨X,0,Y⟩)] W (wG g X a t nm 16 la w):=by
 have HF:Hid (lz t a nm 16 la=if a+1+au t a 1<=t.size then Z (⟨nm,16,la,0,t.extract (a+1) (a+1+au t a 1),0,⟨#[]⟩⟩,a+1+au t a 1) else Y):=rfl;have H:Hid (Rx g X t w a #[I nm,O J 16,O J la,O J 0,I ⟨#[]⟩,O J 0,I ⟨#[]⟩] W):=h;have HN:Hid (Calls be 155 #[Ig (Z ⟨g,0,Y⟩)] W λe w'=>Hid (Rd g W w')/\((a+1+au t a 1<=t.size/\e=sh (I (t.extract (a+1) (a+1+au t a 1)))/\Hid (dA g t (a+1+au t a 1) w'))\/(¬ a+1+au t a 1<=t.size/\e=dC 1))):=uZ g a t W h.di hs ha;have hxs:a+1+au t a 1<=t.size->(t.extract (a+1) (a+1+au t a 1)).size<=1000:=λhl=>by rw[CA t a _ hl];omega
 have c1:W.cell? ⟨X,1,Y⟩=Z (O J 16):=h.cell 1;clear h;unfold wG;generalize lz t a nm 16 la=F at *;generalize t.extract (a+1) (a+1+au t a 1)=x at *;generalize au t a 1=y at *;go_enter QW,QI;go_wp2_with fail;refine HN.out.mono ?_;rintro e w1 ⟨h2,⟨hle,rfl,h1⟩|⟨iA,rfl⟩⟩;rotate_left
 .exact⟨rfl,.inr ⟨HF.out.trans (if_neg iA),rfl,H.out.gone h2⟩⟩
 have H1:Hid (Rx g X t w (a+1+y) #[I nm,O J 16,O J la,O J 0,I ⟨#[]⟩,O J 0,I ⟨#[]⟩] w1):=H.out.call h1 h2;have xp:Hid (F=Z (⟨nm,16,la,0,x,0,⟨#[]⟩⟩,a+1+y)):=HF.out.trans (if_pos hle);have Xw:Hid (∀W,Calls be 214 #[I x] W λe w'=>e=sh (I x)/\Below W.heap.size W w'):=λW=>sI x W (hxs hle);have hx1:=hxs hle;clear h1 h2 HF hxs;go_wp2_with fail;refine(Xw.out w1).mono ?_;rintro e w2 ⟨rfl,aD⟩;have H2:Hid (Rx g X t w (a+1+y) #[I nm,O J 16,O J la,O J 0,I ⟨#[]⟩,O J 0,I ⟨#[]⟩] w2):=H1.out.below aD;have c4:w2.cell? ⟨X,4,Y⟩=Z (I ⟨#[]⟩):=H2.out.cell 4;have z4:=H2.out.free 4;clear aD;go_wp2_with fail;simp only[Ji,results,Qp];exact⟨trivial,Il #[],by simp,.inl ⟨_,_,xp.out,hle,⟨rfl,hx1,by simp[JP]⟩,rfl,H2.out.store 4 (I x)⟩⟩
theorem KP(g X a:Nat)(t nm:ByteArray)(la:Int)(w W:World)(h:Rx g X t w a #[I nm,O J 33,O J la,O J 0,I ⟨#[]⟩,O J 0,I ⟨#[]⟩] W)(hs:t.size<=1000)(ha:a<=t.size) :
 Calls be 156 #[Ig (Z ⟨g,0,Y⟩),Ig (Z ⟨X,0,Y⟩)] W (wG g X a t nm 33 la w):=by
 have HF:Hid (lz t a nm 33 la=if a+2<=t.size/\(au t a 2:Int)=0 then
  if a+2+2<=t.size/\(au t (a+2) 2:Int)=0 then
   if a+2+2+2<=t.size then(GO t (a+2+2+2)).map λx=>(⟨nm,33,la,0,⟨#[]⟩,au t (a+2+2) 2,x.1⟩,x.2) else Y
  else Y
  else Y):=rfl
 have H:Hid (Rx g X t w a #[I nm,O J 33,O J la,O J 0,I ⟨#[]⟩,O J 0,I ⟨#[]⟩] W):=h;have c1:W.cell? ⟨X,1,Y⟩=Z (O J 33):=h.cell 1;clear h;unfold wG;generalize lz t a nm 33 la=F at *;go_enter QW,QI;go_wp2_with fail;refine(gM g a 2 0 t W H.out.di hs ha (by omega)).mono ?_;rintro e w1 ⟨h2,⟨hle,rfl,h1⟩|⟨iA,rfl⟩⟩;rotate_left
 .exact⟨rfl,.inr ⟨HF.out.trans (if_neg iA),rfl,H.out.gone h2⟩⟩
 have H1:Hid (Rx g X t w (a+2) #[I nm,O J 33,O J la,O J 0,I ⟨#[]⟩,O J 0,I ⟨#[]⟩] w1):=H.out.call h1 h2;have xp:Hid _:=HF.out.trans (if_pos hle);have dX:=hle.1;clear h1 h2 HF hle;go_wp2_with fail;refine(gM g (a+2) 2 0 t w1 H1.out.di hs dX (by omega)).mono ?_;rintro e w2 ⟨h2,⟨hle,rfl,h1⟩|⟨iA,rfl⟩⟩;rotate_left
 .exact⟨rfl,.inr ⟨xp.out.trans (if_neg iA),rfl,H1.out.gone h2⟩⟩
 have H2:Hid (Rx g X t w (a+2+2) #[I nm,O J 33,O J la,O J 0,I ⟨#[]⟩,O J 0,I ⟨#[]⟩] w2):=H1.out.call h1 h2;have qV:Hid _:=xp.out.trans (if_pos hle);have dK:=hle.1;clear h1 h2 xp hle;go_wp2_with fail;refine(dR g (a+2+2) 2 t w2 H2.out.di hs dK (by omega)).mono ?_;rintro e w3 ⟨h2,⟨hle,rfl,h1⟩|⟨iA,rfl⟩⟩;rotate_left
 .exact⟨rfl,.inr ⟨qV.out.trans (if_neg iA),rfl,H2.out.gone h2⟩⟩
 have H3:Hid (Rx g X t w (a+2+2+2) #[I nm,O J 33,O J la,O J 0,I ⟨#[]⟩,O J 0,I ⟨#[]⟩] w3):=H2.out.call h1 h2;have xv:Hid (F=(GO t (a+2+2+2)).map λx=>(⟨nm,33,la,0,⟨#[]⟩,au t (a+2+2) 2,x.1⟩,x.2)):=qV.out.trans (if_pos hle);have c5:w3.cell? ⟨X,5,Y⟩=Z (O J 0):=H3.out.cell 5;have z5:=H3.out.free 5;clear h1 h2 qV;generalize(au t (a+2+2) 2:Int)=po at *;go_wp2_with fail;have H4:Hid (Rx g X t w (a+2+2+2) #[I nm,O J 33,O J la,O J 0,I ⟨#[]⟩,O J po,I ⟨#[]⟩] (w3.setCell ⟨X,5,Y⟩ (O J po))):=H3.out.store 5 (O J po);refine(A2 g (a+2+2+2) t _ H4.out.di hs hle).mono ?_;rintro e w4 ⟨h2,⟨ta,q,h3,h4,h5,rfl,h1⟩|⟨h3,rfl⟩⟩;rotate_left
 .exact⟨rfl,.inr ⟨by rw[xv.out,h3];rfl,rfl,H4.out.gone h2⟩⟩
 have H5:Hid (Rx g X t w q #[I nm,O J 33,O J la,O J 0,I ⟨#[]⟩,O J po,I ⟨#[]⟩] w4):=H4.out.call h1 h2;have Pa:Hid (F=Z (⟨nm,33,la,0,⟨#[]⟩,po,ta⟩,q)):=(show _=_ by rw[xv.out,h3];rfl);have c6:w4.cell? ⟨X,6,Y⟩=Z (I ⟨#[]⟩):=H5.out.cell 6;have z6:=H5.out.free 6;clear h1 h2 h3 xv H4 c5 z5;go_wp2_with fail;simp only[Ji,results,Qp];exact⟨trivial,Il #[],by simp,.inl ⟨_,_,Pa.out,h5,⟨rfl,by simp[JP],h4⟩,rfl,H5.out.store 6 (I ta)⟩⟩
theorem A3(g X a:Nat)(t nm:ByteArray)(ty la:Int)(w W:World)(h:Rx g X t w a #[I nm,O J ty,O J la,O J 0,I ⟨#[]⟩,O J 0,I ⟨#[]⟩] W)(ha:a<=t.size)(h1:ty≠1)(h2:ty≠16)(h3:ty≠33) :
 Calls be 156 #[Ig (Z ⟨g,0,Y⟩),Ig (Z ⟨X,0,Y⟩)] W (wG g X a t nm ty la w):=by
 have HF:Hid (lz t a nm ty la=Z (⟨nm,ty,la,0,⟨#[]⟩,0,⟨#[]⟩⟩,a)):=(show _=_ by unfold lz;rw[if_neg h1,if_neg h2,if_neg h3]);have H:Hid (Rx g X t w a #[I nm,O J ty,O J la,O J 0,I ⟨#[]⟩,O J 0,I ⟨#[]⟩] W):=h;have c1:W.cell? ⟨X,1,Y⟩=Z (O J ty):=h.cell 1;have e1:(ty==1)=false:=by simpa using h1
 have e2:(ty==16)=false:=by simpa using h2
 have e3:(ty==33)=false:=by simpa using h3
 clear h;unfold wG;generalize lz t a nm ty la=F at *;go_enter QW,QI;go_wp2_with fail;simp only[Ji,results,Qp];exact⟨trivial,Il #[],by simp,.inl ⟨_,_,HF.out,ha,⟨rfl,by simp[JP],by simp[JP]⟩,rfl,H.out⟩⟩
theorem Vb(g X a:Nat)(t nm:ByteArray)(ty la:Int)(w W:World)(h:Rx g X t w a #[I nm,O J ty,O J la,O J 0,I ⟨#[]⟩,O J 0,I ⟨#[]⟩] W)(hs:t.size<=1000)(ha:a<=t.size) :
 Calls be 156 #[Ig (Z ⟨g,0,Y⟩),Ig (Z ⟨X,0,Y⟩)] W (wG g X a t nm ty la w):=by
 by_cases h1:ty=1
 .subst h1;exact N9 g X a t nm la w W h hs ha
 by_cases h2:ty=16
 .subst h2;exact KO g X a t nm la w W h hs ha
 by_cases h3:ty=33
 .subst h3;exact KP g X a t nm la w W h hs ha
 exact A3 g X a t nm ty la w W h ha h1 h2 h3
theorem dA.put{g a b:Nat}{t:ByteArray}{W:World}(h:dA g t a W)(i:Nat)(v:Value)(hb:b≠g):dA g t a (W.setCell ⟨b,i,Y⟩ v):=
 ⟨(JC _ _ _ _ (by intro e;simp at e)).trans h.c0,(JC _ _ _ _ (by intro e;simp at e)).trans h.c1,by simpa using h.hz,by simpa using h.hg⟩
theorem A4{r:Rc.Rec}(h:bC r=0):qS r=true:=by
 unfold bC at h;split at h
 .omega
 split at h
 .omega
 split at h
 .omega
 split at h
 .omega
 rename_i h4;simpa using h4
theorem CD{r:Rc.Rec}(h:bC r=0):(0<=r.aE/\r.aE<256^4)/\(0<=r.addr/\r.addr<256^4)/\(0<=r.port/\r.port<256^2)/\(0<=r.al/\r.al<256^2):=by
 have h2:=(eS h).2.1;unfold bC at h;split at h
 .omega
 split at h
 .omega
 split at h
 .omega
 rename_i h3;split at h
 .omega
 split at h
 .omega
 rename_i h5;have Vc:within r.aE 0 2147483647=true:=by simpa using h3
 have h5':(within r.addr 0 4294967295&&within r.port 0 65535)=true:=by simpa using h5
 simp only[within,IJ,decide_eq_true_eq] at Vc h5';simp only[gZ,OY,decide_eq_true_eq] at h2;refine⟨⟨Vc.1,by omega⟩,⟨h5'.1.1,by omega⟩,⟨h5'.2.1,by omega⟩,by omega,by omega⟩
theorem EI(g X a:Nat)(t:ByteArray)(r:Rc.Rec)(w W:World)(h:Rx g X t w a #[I r.name,O J r.al,O J r.aE,O J 0,I ⟨#[]⟩,O J 0,I ⟨#[]⟩] W)(hs:t.size<=1000)(hc:bC r=0)(cG:pc t a (eY r)) :
 Calls be 156 #[Ig (Z ⟨g,0,Y⟩),Ig (Z ⟨X,0,Y⟩)] W λe w'=>e=sh (Il #[])/\Rx g X t w (a+(eY r).length) #[I r.name,O J r.al,O J r.aE,O J r.addr,I r.text,O J r.port,I r.target] w':=by
 have ho:=A4 hc;obtain⟨n1,n2,n3,n4⟩:=eS hc;obtain⟨_,⟨m3,m4⟩,⟨m5,m6⟩,_⟩:=CD hc;obtain⟨name,al,aE,addr,text,port,target⟩:=r;simp only at *;have EJ:al=1\/al=16\/al=33:=by
  simp only[gZ,OY,decide_eq_true_eq,or_assoc] at n2;exact n2
 simp only[qS,IJ,OY,decide_eq_true_eq] at ho;obtain⟨o1,o2,o3⟩:=ho;have htl:text.data.toList.length=text.size:=by simp
 rcases EJ with rfl|rfl|rfl
 .have e2:=cx (by omega:text.size=0)
  have e3:port=0:=by omega
  have e4:=cx (by omega:target.size=0);subst e2 e3 e4;have hw:eY ⟨name,1,aE,addr,⟨#[]⟩,0,⟨#[]⟩⟩=fe addr 4:=rfl;rw[hw] at cG ⊢;rw[bA];exact N8 g X a t name aE addr w W h hs m3 m4 cG
 .have e1:addr=0:=by omega
  have e3:port=0:=by omega
  have e4:=cx (by omega:target.size=0);subst e1 e3 e4;have hw:eY ⟨name,16,aE,0,text,0,⟨#[]⟩⟩=fe text.size 1++text.data.toList:=rfl;rw[hw] at cG ⊢;rw[Ij,bA,htl,<- Nat.add_assoc];exact KM g X a t name text aE w W h hs n3 cG
 .have e1:addr=0:=by omega
  have e2:=cx (by omega:text.size=0);subst e1 e2;have hw:eY ⟨name,33,aE,0,⟨#[]⟩,port,target⟩=fe 0 2++(fe 0 2++(fe port 2++cH target)):=rfl;rw[hw] at cG ⊢;have hl:a+(fe 0 2++(fe 0 2++(fe port 2++cH target))).length=a+6+(cH target).length:=by
   simp only[Ij,bA];omega
  rw[hl];exact KN g X a t name target aE port w W h hs m5 m6 n4 cG
theorem KQ(g a:Nat)(r:Rc.Rec)(t:ByteArray)(w:World)(h:dA g t a w)(hs:t.size<=1000)(hc:bC r=0)(cG:pc t a (dj r)) :
 Calls be 103 #[Ig (Z ⟨g,0,Y⟩)] w λe w'=>e=sh (ln r)/\Hid (dA g t (a+(dj r).length) w')/\Hid (Rd g w w'):=by
 have HI:Hid (dA g t a w):=h;have hg:=h.hg;obtain⟨n1,n2,n3,n4⟩:=eS hc;obtain⟨⟨m1,m2⟩,_,_,m7,m8⟩:=CD hc;have XZ:=sF n3 n4;rw[nj,Lib.byteCells_length] at XZ;have bb:=cG.size;unfold dj at cG bb ⊢;have a1:=cG.left;have a2:=cG.right;have a3:=a2.left;have a4:=a2.right;rw[bA] at a4;have a5:=a4.left;have a6:=a4.right;rw[bA] at a6;have a7:=a6.left;have a8:=a6.right;rw[bA] at a8;have a9:=a8.left;have a10:=a8.right;rw[bA] at a10;have r3:=cR m7 m8 a3;have r5:=cR (n:=1) (by omega) (by omega) a5;have r7:=cR m1 m2 a7;have r9:=cR (n:=(eY r).length) (by omega) (by omega) a9;simp only[Ij,bA] at bb ⊢;have A1:Hid (pc t a (cH r.name)):=a1;have R3:Hid ((au t (a+(cH r.name).length) 2:Int)=r.al):=r3;have R5:Hid (au t (a+(cH r.name).length+2) 2=1):=(show _=_ by omega);have R7:Hid ((au t (a+(cH r.name).length+2+2) 4:Int)=r.aE):=r7;have R9:Hid ((au t (a+(cH r.name).length+2+2+4) 2:Int)=((eY r).length:Int)):=r9;have HDA:Hid (∀wb X W,Rx g X t wb (a+(cH r.name).length+2+2+4+2) #[I r.name,O J r.al,O J r.aE,O J 0,I ⟨#[]⟩,O J 0,I ⟨#[]⟩] W->Calls be 156 #[Ig (Z ⟨g,0,Y⟩),Ig (Z ⟨X,0,Y⟩)] W λe w'=>e=sh (Il #[])/\Rx g X t wb (a+(cH r.name).length+2+2+4+2+(eY r).length) #[I r.name,O J r.al,O J r.aE,O J r.addr,I r.text,O J r.port,I r.target] w'):=λwb X W hX=>EI g X _ t r wb W hX hs hc a10;clear h cG a1 a2 a3 a4 a5 a6 a7 a8 a9 a10 r3 r5 r7 r9 n2 n3 n4 m1 m2 m7 m8 hc;generalize(eY r).length=dn at *;generalize Xq:(cH r.name).length=nl at *;have TF:Hid ((cH r.name).length=nl):=Xq;clear Xq;go_enter Tryz.func103,Tryz.ntmps103;go_wp2_with fail;obtain⟨wq,uR⟩:∃wq,wq=w.alloc (AI #[I ⟨#[]⟩,O J 0,O J 0,O J 0,I ⟨#[]⟩,O J 0,I ⟨#[]⟩] 64):=⟨_,rfl⟩;have hnq:wq.heap.size=w.heap.size+1:=by rw[uR];simp
 have Pb:w.Extends wq:=by rw[uR];exact(IB w).alloc _
 have Ad:wq.heap[w.heap.size]?=Z (AI #[I ⟨#[]⟩,O J 0,O J 0,O J 0,I ⟨#[]⟩,O J 0,I ⟨#[]⟩] 64 (0,0)):=by rw[uR];exact Ie w _
 rw[<- uR];clear uR;have H0:Hid (Rx g (w.heap.size+1) t wq a #[I ⟨#[]⟩,O J 0,O J 0,O J 0,I ⟨#[]⟩,O J 0,I ⟨#[]⟩] (wq.alloc (AI #[I ⟨#[]⟩,O J 0,O J 0,O J 0,I ⟨#[]⟩,O J 0,I ⟨#[]⟩] 64))):=(show Rx _ _ _ _ _ _ _ by
  have hx:wq.Extends (wq.alloc (AI #[I ⟨#[]⟩,O J 0,O J 0,O J 0,I ⟨#[]⟩,O J 0,I ⟨#[]⟩] 64)):=(IB wq).alloc _;have hn:=Ie wq (AI #[I ⟨#[]⟩,O J 0,O J 0,O J 0,I ⟨#[]⟩,O J 0,I ⟨#[]⟩] 64);rw[hnq] at hn;exact⟨(HI.out.ext Pb).ext hx,hn,rfl,rfl,rfl,hx.size,λk hk _ _=>hx.block k hk,by omega⟩)
 refine(pd g a r.name t _ H0.out.di hs n1 A1.out).mono ?_;rintro e w1 ⟨rfl,h1,h2⟩;rw[TF.out] at h1;have H1:Hid (Rx g (w.heap.size+1) t wq (a+nl) #[I ⟨#[]⟩,O J 0,O J 0,O J 0,I ⟨#[]⟩,O J 0,I ⟨#[]⟩] w1):=H0.out.call h1 h2;have c0:w1.cell? ⟨w.heap.size+1,0,Y⟩=Z (I ⟨#[]⟩):=H1.out.cell 0;have z0:=H1.out.free 0;clear h1 h2 H0;go_wp2_with fail;have H2:Hid (Rx g (w.heap.size+1) t wq (a+nl) #[I r.name,O J 0,O J 0,O J 0,I ⟨#[]⟩,O J 0,I ⟨#[]⟩] (w1.setCell ⟨w.heap.size+1,0,Y⟩ (I r.name))):=H1.out.store 0 (I r.name);refine(cY g (a+nl) 2 t _ H2.out.di hs (by omega) (by omega)).mono ?_;rintro e w2 ⟨rfl,h1,h2⟩;rw[R3.out];have H3:Hid (Rx g (w.heap.size+1) t wq (a+nl+2) #[I r.name,O J 0,O J 0,O J 0,I ⟨#[]⟩,O J 0,I ⟨#[]⟩] w2):=H2.out.call h1 h2;have c1:w2.cell? ⟨w.heap.size+1,1,Y⟩=Z (O J 0):=H3.out.cell 1;have z1:=H3.out.free 1;clear h1 h2 H1 H2 c0 z0;go_wp2_with fail;have H4:Hid (Rx g (w.heap.size+1) t wq (a+nl+2) #[I r.name,O J r.al,O J 0,O J 0,I ⟨#[]⟩,O J 0,I ⟨#[]⟩] (w2.setCell ⟨w.heap.size+1,1,Y⟩ (O J r.al))):=H3.out.store 1 (O J r.al);refine(ev g (a+nl+2) 2 1 t _ H4.out.di hs (by omega) (by omega) R5.out).mono ?_;rintro e w3 ⟨rfl,h1,h2⟩;have H5:Hid (Rx g (w.heap.size+1) t wq (a+nl+2+2) #[I r.name,O J r.al,O J 0,O J 0,I ⟨#[]⟩,O J 0,I ⟨#[]⟩] w3):=H4.out.call h1 h2;clear h1 h2 H3 H4 c1 z1;go_wp2_with fail;refine(cY g (a+nl+2+2) 4 t _ H5.out.di hs (by omega) (by omega)).mono ?_;rintro e w4 ⟨rfl,h1,h2⟩;rw[R7.out];have H6:Hid (Rx g (w.heap.size+1) t wq (a+nl+2+2+4) #[I r.name,O J r.al,O J 0,O J 0,I ⟨#[]⟩,O J 0,I ⟨#[]⟩] w4):=H5.out.call h1 h2;have c2:w4.cell? ⟨w.heap.size+1,2,Y⟩=Z (O J 0):=H6.out.cell 2;have z2:=H6.out.free 2;clear h1 h2 H5;go_wp2_with fail;have H7:Hid (Rx g (w.heap.size+1) t wq (a+nl+2+2+4) #[I r.name,O J r.al,O J r.aE,O J 0,I ⟨#[]⟩,O J 0,I ⟨#[]⟩] (w4.setCell ⟨w.heap.size+1,2,Y⟩ (O J r.aE))):=H6.out.store 2 (O J r.aE);refine(cY g (a+nl+2+2+4) 2 t _ H7.out.di hs (by omega) (by omega)).mono ?_;rintro e w5 ⟨rfl,h1,h2⟩;rw[R9.out];have H8:Hid (Rx g (w.heap.size+1) t wq (a+nl+2+2+4+2) #[I r.name,O J r.al,O J r.aE,O J 0,I ⟨#[]⟩,O J 0,I ⟨#[]⟩] w5):=H7.out.call h1 h2;have ca:w5.cell? ⟨g,1,Y⟩=Z (O J ((a+nl+2+2+4+2:Nat):Int)):=H8.out.di.c1;clear h1 h2 H6 H7 c2 z2;go_wp2_with fail;refine(HDA.out wq _ w5 H8.out).mono ?_;rintro e w9 ⟨rfl,h9⟩;have H9:Hid (Rx g (w.heap.size+1) t wq (a+nl+2+2+4+2+dn) #[I r.name,O J r.al,O J r.aE,O J r.addr,I r.text,O J r.port,I r.target] w9):=h9;have nX:Hid (w9.heap[w.heap.size]?=Z (AI #[I ⟨#[]⟩,O J 0,O J 0,O J 0,I ⟨#[]⟩,O J 0,I ⟨#[]⟩] 64 (0,0))):=(h9.block _ (by omega) (by omega) (by omega)).trans Ad;have cb:w9.cell? ⟨g,1,Y⟩=Z (O J ((a+nl+2+2+4+2+dn:Nat):Int)):=h9.di.c1;clear h9 H8 ca;have m0:w9.cell? ⟨w.heap.size+1,0,Y⟩=Z (I r.name):=H9.out.cell 0;have q0:w9.cell? ⟨w.heap.size,0,Y⟩=Z (I ⟨#[]⟩):=af nX.out 0;have y0:w9.frozen? ⟨w.heap.size,0,Y⟩=false:=by simp[Ih,nX.out]
 have m1:w9.cell? ⟨w.heap.size+1,1,Y⟩=Z (O J r.al):=H9.out.cell 1;have q1:w9.cell? ⟨w.heap.size,1,Y⟩=Z (O J 0):=af nX.out 1;have y1:w9.frozen? ⟨w.heap.size,1,Y⟩=false:=by simp[Ih,nX.out]
 have m2:w9.cell? ⟨w.heap.size+1,2,Y⟩=Z (O J r.aE):=H9.out.cell 2;have q2:w9.cell? ⟨w.heap.size,2,Y⟩=Z (O J 0):=af nX.out 2;have y2:w9.frozen? ⟨w.heap.size,2,Y⟩=false:=by simp[Ih,nX.out]
 have m3:w9.cell? ⟨w.heap.size+1,3,Y⟩=Z (O J r.addr):=H9.out.cell 3;have q3:w9.cell? ⟨w.heap.size,3,Y⟩=Z (O J 0):=af nX.out 3;have y3:w9.frozen? ⟨w.heap.size,3,Y⟩=false:=by simp[Ih,nX.out]
 have m4:w9.cell? ⟨w.heap.size+1,4,Y⟩=Z (I r.text):=H9.out.cell 4;have q4:w9.cell? ⟨w.heap.size,4,Y⟩=Z (I ⟨#[]⟩):=af nX.out 4;have y4:w9.frozen? ⟨w.heap.size,4,Y⟩=false:=by simp[Ih,nX.out]
 have m5:w9.cell? ⟨w.heap.size+1,5,Y⟩=Z (O J r.port):=H9.out.cell 5;have q5:w9.cell? ⟨w.heap.size,5,Y⟩=Z (O J 0):=af nX.out 5;have y5:w9.frozen? ⟨w.heap.size,5,Y⟩=false:=by simp[Ih,nX.out]
 have m6:w9.cell? ⟨w.heap.size+1,6,Y⟩=Z (I r.target):=H9.out.cell 6;have q6:w9.cell? ⟨w.heap.size,6,Y⟩=Z (I ⟨#[]⟩):=af nX.out 6;have y6:w9.frozen? ⟨w.heap.size,6,Y⟩=false:=by simp[Ih,nX.out]
 have N7:((a+nl+2+2+4+2+dn:Nat):Int)-((a+nl+2+2+4+2:Nat):Int)=(dn:Int):=by omega
 have Se:IntKind.i64.wrap (((a+nl+2+2+4+2+dn:Nat):Int)-((a+nl+2+2+4+2:Nat):Int))=(dn:Int):=by rw[N7,IN];omega
 have Vd:((a:Int)+(nl:Int)+2+2+4+2+(dn:Int)-((a:Int)+(nl:Int)+2+2+4+2)==(dn:Int))=true:=by rw[beq_iff_eq];omega
 have gC:Hid (((a:Int)+(nl:Int)+2+2+4+2+(dn:Int)-((a:Int)+(nl:Int)+2+2+4+2)==(dn:Int))=true):=Vd;clear Vd N7 Se;go_wp2_with fail;rw[gC.out];refine(bZ _ _).mono ?_;rintro e w10 ⟨rfl,KR⟩;subst KR;go_wp2_with fail;refine Iy (v:=ln r) ?_ rfl ⟨rfl,?_,?_⟩
 .simp[results,Tryz.results103,go_sem,q0,q1,q2,q3,q4,q5,q6]
 .have he:a+(nl+(2+(2+(4+(2+dn)))))=a+nl+2+2+4+2+dn:=by omega
  rw[he];exact((((((((H9.out.di).put 0 _ (by omega)).put 1 _ (by omega)).put 2 _ (by omega)).put 3 _ (by omega)).put 4 _ (by omega)).put 5 _ (by omega)).put 6 _ (by omega))
 .have GP:Rd g w w10:=⟨H9.out.os.trans Pb.os,H9.out.tape.trans Pb.tape,H9.out.output.trans Pb.output,by have:=H9.out.size;omega,λk hk Ve=>(H9.out.block k (by omega) Ve (by omega)).trans (Pb.block k hk)⟩
  exact(((((((GP.put 0 _ (By _)).put 1 _ (By _)).put 2 _ (By _)).put 3 _ (By _)).put 4 _ (By _)).put 5 _ (By _)).put 6 _ (By _))
def yi(t:ByteArray)(p:Nat)(o:Option (Rc.Rec×Nat)):Option (Rc.Rec×Nat):=
 match o with
 |none=>Y
 |some (r,q)=>if(q:Int)-((p+2+2+4+2:Nat):Int)=(au t (p+2+2+4) 2:Int) then Z (r,q) else Y
def Vf(t nm:ByteArray)(p:Nat):Option (Rc.Rec×Nat):=
 if p+2<=t.size then
  if p+2+2<=t.size/\(au t (p+2) 2:Int)=1 then
   if p+2+2+4<=t.size then
    if p+2+2+4+2<=t.size then yi t p (lz t (p+2+2+4+2) nm (au t p 2) (au t (p+2+2) 4)) else Y
   else Y
  else Y
 else Y
def qW(t:ByteArray)(a:Nat):Option (Rc.Rec×Nat):=
 match GO t a with
 |none=>Y
 |some (nm,p)=>Vf t nm p
theorem Ry.rd{g X:Nat}{w wq W:World}(h:Ry g X wq W)(hx:w.Extends wq)(hX:w.heap.size<=X):Rd g w W:=
 ⟨h.os.trans hx.os,h.tape.trans hx.tape,h.output.trans hx.output,Ir hx.size h.size,λk hk hg=>(h.block k (Iu hk hx.size) hg (by omega)).trans (hx.block k hk)⟩
theorem Vg(g a:Nat)(t:ByteArray)(w:World)(h:dA g t a w)(hs:t.size<=1000)(ha:a<=t.size) :
 Calls be 103 #[Ig (Z ⟨g,0,Y⟩)] w λe w'=>Hid (Rd g w w')/\((∃r q,qW t a=Z (r,q)/\q<=t.size/\r.ok/\e=sh (ln r)/\Hid (dA g t q w'))\/(qW t a=Y/\e=dC 1)):=by
 have HI:Hid (dA g t a w):=h;have hg:=h.hg;have HF:Hid (qW t a=match GO t a with|none=>Y|some (nm,p)=>Vf t nm p):=rfl;clear h;generalize qW t a=F at *;go_enter Tryz.func103,Tryz.ntmps103;go_wp2_with fail;obtain⟨wq,uR⟩:∃wq,wq=w.alloc (AI #[I ⟨#[]⟩,O J 0,O J 0,O J 0,I ⟨#[]⟩,O J 0,I ⟨#[]⟩] 64):=⟨_,rfl⟩;have hnq:wq.heap.size=w.heap.size+1:=by rw[uR];simp
 have Pb:w.Extends wq:=by rw[uR];exact(IB w).alloc _
 have Ad:wq.heap[w.heap.size]?=Z (AI #[I ⟨#[]⟩,O J 0,O J 0,O J 0,I ⟨#[]⟩,O J 0,I ⟨#[]⟩] 64 (0,0)):=by rw[uR];exact Ie w _
 rw[<- uR];clear uR;have Sm:Hid (w.Extends wq):=Pb;have HGQ:Hid (wq.heap[w.heap.size]?=Z (AI #[I ⟨#[]⟩,O J 0,O J 0,O J 0,I ⟨#[]⟩,O J 0,I ⟨#[]⟩] 64 (0,0))):=Ad;have H0:Hid (Rx g (w.heap.size+1) t wq a #[I ⟨#[]⟩,O J 0,O J 0,O J 0,I ⟨#[]⟩,O J 0,I ⟨#[]⟩] (wq.alloc (AI #[I ⟨#[]⟩,O J 0,O J 0,O J 0,I ⟨#[]⟩,O J 0,I ⟨#[]⟩] 64))):=(show Rx _ _ _ _ _ _ _ by
  have hx:wq.Extends (wq.alloc (AI #[I ⟨#[]⟩,O J 0,O J 0,O J 0,I ⟨#[]⟩,O J 0,I ⟨#[]⟩] 64)):=(IB wq).alloc _;have hn:=Ie wq (AI #[I ⟨#[]⟩,O J 0,O J 0,O J 0,I ⟨#[]⟩,O J 0,I ⟨#[]⟩] 64);rw[hnq] at hn;exact⟨(HI.out.ext Pb).ext hx,hn,rfl,rfl,rfl,hx.size,λk hk _ _=>hx.block k hk,by omega⟩)
 clear Pb Ad;refine(A2 g a t _ H0.out.di hs ha).mono ?_;rintro e w1 ⟨h2,⟨nm,p,h3,h4,h5,rfl,h1⟩|⟨h3,rfl⟩⟩;rotate_left
 .exact⟨rfl,(H0.out.gone h2).rd Sm.out (by omega),.inr ⟨by rw[HF.out,h3],rfl⟩⟩
 have xp:Hid (F=Vf t nm p):=(show _=_ by rw[HF.out,h3]);have qV:Hid (F=if p+2<=t.size then
  if p+2+2<=t.size/\(au t (p+2) 2:Int)=1 then
   if p+2+2+4<=t.size then
    if p+2+2+4+2<=t.size then yi t p (lz t (p+2+2+4+2) nm (au t p 2) (au t (p+2+2) 4)) else Y
   else Y
  else Y
  else Y):=xp
 have H1:Hid (Rx g (w.heap.size+1) t wq p #[I ⟨#[]⟩,O J 0,O J 0,O J 0,I ⟨#[]⟩,O J 0,I ⟨#[]⟩] w1):=H0.out.call h1 h2;have c0:w1.cell? ⟨w.heap.size+1,0,Y⟩=Z (I ⟨#[]⟩):=H1.out.cell 0;have z0:=H1.out.free 0;clear h1 h2 h3 H0 HF xp;go_wp2_with fail;have H2:Hid (Rx g (w.heap.size+1) t wq p #[I nm,O J 0,O J 0,O J 0,I ⟨#[]⟩,O J 0,I ⟨#[]⟩] (w1.setCell ⟨w.heap.size+1,0,Y⟩ (I nm))):=H1.out.store 0 (I nm);refine(dR g p 2 t _ H2.out.di hs h5 (by omega)).mono ?_;rintro e w2 ⟨h2,⟨hle,rfl,h1⟩|⟨iA,rfl⟩⟩;rotate_left
 .exact⟨rfl,(H2.out.gone h2).rd Sm.out (by omega),.inr ⟨qV.out.trans (if_neg iA),rfl⟩⟩
 have xv:Hid (F=if p+2+2<=t.size/\(au t (p+2) 2:Int)=1 then
  if p+2+2+4<=t.size then
   if p+2+2+4+2<=t.size then yi t p (lz t (p+2+2+4+2) nm (au t p 2) (au t (p+2+2) 4)) else Y
  else Y
  else Y):=qV.out.trans (if_pos hle)
 have H3:Hid (Rx g (w.heap.size+1) t wq (p+2) #[I nm,O J 0,O J 0,O J 0,I ⟨#[]⟩,O J 0,I ⟨#[]⟩] w2):=H2.out.call h1 h2;have c1:w2.cell? ⟨w.heap.size+1,1,Y⟩=Z (O J 0):=H3.out.cell 1;have z1:=H3.out.free 1;clear h1 h2 H1 H2 c0 z0 qV;generalize(au t p 2:Int)=ty at *;go_wp2_with fail;have H4:Hid (Rx g (w.heap.size+1) t wq (p+2) #[I nm,O J ty,O J 0,O J 0,I ⟨#[]⟩,O J 0,I ⟨#[]⟩] (w2.setCell ⟨w.heap.size+1,1,Y⟩ (O J ty))):=H3.out.store 1 (O J ty);refine(gM g (p+2) 2 1 t _ H4.out.di hs hle (by omega)).mono ?_;rintro e w3 ⟨h2,⟨Vh,rfl,h1⟩|⟨iA,rfl⟩⟩;rotate_left
 .exact⟨rfl,(H4.out.gone h2).rd Sm.out (by omega),.inr ⟨xv.out.trans (if_neg iA),rfl⟩⟩
 have Pa:Hid (F=if p+2+2+4<=t.size then
  if p+2+2+4+2<=t.size then yi t p (lz t (p+2+2+4+2) nm ty (au t (p+2+2) 4)) else Y
  else Y):=xv.out.trans (if_pos Vh)
 have H5:Hid (Rx g (w.heap.size+1) t wq (p+2+2) #[I nm,O J ty,O J 0,O J 0,I ⟨#[]⟩,O J 0,I ⟨#[]⟩] w3):=H4.out.call h1 h2;have afa:=Vh.1;clear h1 h2 H3 H4 c1 z1 xv Vh;go_wp2_with fail;refine(dR g (p+2+2) 4 t _ H5.out.di hs afa (by omega)).mono ?_;rintro e w4 ⟨h2,⟨aad,rfl,h1⟩|⟨iA,rfl⟩⟩;rotate_left
 .exact⟨rfl,(H5.out.gone h2).rd Sm.out (by omega),.inr ⟨Pa.out.trans (if_neg iA),rfl⟩⟩
 have Vi:Hid (F=if p+2+2+4+2<=t.size then yi t p (lz t (p+2+2+4+2) nm ty (au t (p+2+2) 4)) else Y):=Pa.out.trans (if_pos aad);have H6:Hid (Rx g (w.heap.size+1) t wq (p+2+2+4) #[I nm,O J ty,O J 0,O J 0,I ⟨#[]⟩,O J 0,I ⟨#[]⟩] w4):=H5.out.call h1 h2;have c2:w4.cell? ⟨w.heap.size+1,2,Y⟩=Z (O J 0):=H6.out.cell 2;have z2:=H6.out.free 2;clear h1 h2 H5 Pa;generalize(au t (p+2+2) 4:Int)=la at *;go_wp2_with fail;have H7:Hid (Rx g (w.heap.size+1) t wq (p+2+2+4) #[I nm,O J ty,O J la,O J 0,I ⟨#[]⟩,O J 0,I ⟨#[]⟩] (w4.setCell ⟨w.heap.size+1,2,Y⟩ (O J la))):=H6.out.store 2 (O J la);refine(dR g (p+2+2+4) 2 t _ H7.out.di hs aad (by omega)).mono ?_;rintro e w5 ⟨h2,⟨aae,rfl,h1⟩|⟨iA,rfl⟩⟩;rotate_left
 .exact⟨rfl,(H7.out.gone h2).rd Sm.out (by omega),.inr ⟨Vi.out.trans (if_neg iA),rfl⟩⟩
 have Vj:Hid (F=yi t p (lz t (p+2+2+4+2) nm ty la)):=Vi.out.trans (if_pos aae);have H8:Hid (Rx g (w.heap.size+1) t wq (p+2+2+4+2) #[I nm,O J ty,O J la,O J 0,I ⟨#[]⟩,O J 0,I ⟨#[]⟩] w5):=H7.out.call h1 h2;clear h1 h2 H6 H7 c2 z2 Vi;have HRH:Hid (∀r q,yi t p (Z (r,q))=if(q:Int)-((p+2+2+4+2:Nat):Int)=(au t (p+2+2+4) 2:Int) then Z (r,q) else Y):=λr q=>rfl;have HRN:Hid (yi t p Y=Y):=rfl;generalize(au t (p+2+2+4) 2:Int)=sz at *;generalize hB:p+2+2+4+2=B at *;clear hB;have ca:w5.cell? ⟨g,1,Y⟩=Z (O J (B:Int)):=H8.out.di.c1;go_wp2_with fail;refine(Vb g (w.heap.size+1) B t nm ty la wq w5 H8.out hs aae).mono ?_;rintro e w9 (⟨r,q,h3,hq,⟨k1,k2,k3⟩,rfl,H9⟩|⟨h3,rfl,h9⟩);rotate_left
 .exact⟨rfl,h9.out.rd Sm.out (by omega),.inr ⟨by rw[Vj.out,h3,HRN.out],rfl⟩⟩
 have Sn:Hid (F=if(q:Int)-(B:Int)=sz then Z (r,q) else Y):=(show _=_ by rw[Vj.out,h3,HRH.out]);have yj:r.ok:=⟨by rw[k1];unfold Ii;omega,by unfold Ii;omega,by unfold Ii;omega⟩;have nX:Hid (w9.heap[w.heap.size]?=Z (AI #[I ⟨#[]⟩,O J 0,O J 0,O J 0,I ⟨#[]⟩,O J 0,I ⟨#[]⟩] 64 (0,0))):=(H9.out.block _ (by omega) (by omega) (by omega)).trans HGQ.out;have cb:w9.cell? ⟨g,1,Y⟩=Z (O J (q:Int)):=H9.out.di.c1;clear H8 ca Vj h3 HRH HRN k1 k2 k3;have afb:Hid r.ok:=yj;clear yj;have m0:w9.cell? ⟨w.heap.size+1,0,Y⟩=Z (I r.name):=H9.out.cell 0;have q0:w9.cell? ⟨w.heap.size,0,Y⟩=Z (I ⟨#[]⟩):=af nX.out 0;have y0:w9.frozen? ⟨w.heap.size,0,Y⟩=false:=by simp[Ih,nX.out]
 have m1:w9.cell? ⟨w.heap.size+1,1,Y⟩=Z (O J r.al):=H9.out.cell 1;have q1:w9.cell? ⟨w.heap.size,1,Y⟩=Z (O J 0):=af nX.out 1;have y1:w9.frozen? ⟨w.heap.size,1,Y⟩=false:=by simp[Ih,nX.out]
 have m2:w9.cell? ⟨w.heap.size+1,2,Y⟩=Z (O J r.aE):=H9.out.cell 2;have q2:w9.cell? ⟨w.heap.size,2,Y⟩=Z (O J 0):=af nX.out 2;have y2:w9.frozen? ⟨w.heap.size,2,Y⟩=false:=by simp[Ih,nX.out]
 have m3:w9.cell? ⟨w.heap.size+1,3,Y⟩=Z (O J r.addr):=H9.out.cell 3;have q3:w9.cell? ⟨w.heap.size,3,Y⟩=Z (O J 0):=af nX.out 3;have y3:w9.frozen? ⟨w.heap.size,3,Y⟩=false:=by simp[Ih,nX.out]
 have m4:w9.cell? ⟨w.heap.size+1,4,Y⟩=Z (I r.text):=H9.out.cell 4;have q4:w9.cell? ⟨w.heap.size,4,Y⟩=Z (I ⟨#[]⟩):=af nX.out 4;have y4:w9.frozen? ⟨w.heap.size,4,Y⟩=false:=by simp[Ih,nX.out]
 have m5:w9.cell? ⟨w.heap.size+1,5,Y⟩=Z (O J r.port):=H9.out.cell 5;have q5:w9.cell? ⟨w.heap.size,5,Y⟩=Z (O J 0):=af nX.out 5;have y5:w9.frozen? ⟨w.heap.size,5,Y⟩=false:=by simp[Ih,nX.out]
 have m6:w9.cell? ⟨w.heap.size+1,6,Y⟩=Z (I r.target):=H9.out.cell 6;have q6:w9.cell? ⟨w.heap.size,6,Y⟩=Z (I ⟨#[]⟩):=af nX.out 6;have y6:w9.frozen? ⟨w.heap.size,6,Y⟩=false:=by simp[Ih,nX.out]
 have Se:IntKind.i64.wrap ((q:Int)-(B:Int))=(q:Int)-(B:Int):=by rw[IN];omega
 by_cases bb:(q:Int)-(B:Int)=sz
 .have Vd:((q:Int)-(B:Int)==sz)=true:=by simpa using bb
  have Vk:Hid (F=Z (r,q)):=Sn.out.trans (if_pos bb);clear bb Sn;go_wp2_with fail;refine(bZ _ _).mono ?_;rintro e w10 ⟨rfl,KR⟩;subst KR;go_wp2_with fail;refine Iy (v:=ln r) ?_ rfl ⟨?_,.inl ⟨r,q,Vk.out,hq,afb.out,rfl,?_⟩⟩
  .simp[results,Tryz.results103,go_sem,q0,q1,q2,q3,q4,q5,q6]
  .have GP:Rd g w w10:=H9.out.ry.rd Sm.out (by omega)
   exact(((((((GP.put 0 _ (By _)).put 1 _ (By _)).put 2 _ (By _)).put 3 _ (By _)).put 4 _ (By _)).put 5 _ (By _)).put 6 _ (By _))
  .exact((((((((H9.out.di).put 0 _ (by omega)).put 1 _ (by omega)).put 2 _ (by omega)).put 3 _ (by omega)).put 4 _ (by omega)).put 5 _ (by omega)).put 6 _ (by omega))
 .have Vd:((q:Int)-(B:Int)==sz)=false:=by simpa using bb
  have Vk:Hid (F=Y):=Sn.out.trans (if_neg bb);clear bb Sn;go_wp2_with fail;refine(cQ _ _).mono ?_;rintro e w10 ⟨rfl,KR⟩;subst KR;exact⟨rfl,H9.out.ry.rd Sm.out (by omega),.inr ⟨Vk.out,rfl⟩⟩
theorem Tryz.CE:(Tryz.prog.info? 64).map (λi=>(i.zero,i.size,i.bytes))=Z (Z (.agg #[I ⟨#[]⟩,O J 0,O J 0,O J 0,I ⟨#[]⟩,O J 0,I ⟨#[]⟩]),7,80):=by kernel_rfl
theorem Rd.Pd{g base:Nat}{w w':World}{v:Value}{l:List Rc.Rec}(h:Rd g w w')(ho:Rc.Own base w v l)(hg:g<base):Rc.Own base w' v l:=by
 rcases ho.2 with⟨rfl,h0⟩|⟨k,c,cur,rfl,dN,hk,fa,dO,cJ,aV⟩
 .exact⟨ho.1,.inl ⟨rfl,h0⟩⟩
 .have aB:k<w.heap.size:=(Ib.1 hk).1
  exact⟨ho.1,.inr ⟨k,c,cur,rfl,dN,(h.block k aB (by omega)).trans hk,fa,dO,cJ,aV⟩⟩
theorem KS(ay cut:Bool):(bits .and J (o7 ay cut) 128 !=0)=ay/\(bits .and J (o7 ay cut) 2 !=0)=cut/\0<=o7 ay cut/\o7 ay cut<256^1:=by
 cases ay<;>cases cut<;>decide
theorem St.grown{g a:Nat}{t:ByteArray}{w W W':World}{T:TypeId}{zs cs:Array Value}{row:Option Nat}(h:St g t w T zs a cs W)(hg:W.grownBy W' row)(bE:∀q,q<w.heap.size+2->Z q≠row):St g t w T zs a cs W':=by
 have hl:=h.lt;have an:w.heap.size+1<W.heap.size:=(Ib.1 h.bx).1;have hblk:∀q,q<w.heap.size+2->W'.heap[q]?=W.heap[q]?:=λq hq=>hg.block q (by omega) (bE q hq);refine⟨⟨?_,?_,?_,?_⟩,⟨hg.os.trans h.rd.os,hg.tape.trans h.rd.tape,hg.output.trans h.rd.output,Ir h.rd.size hg.size,λq hq hqg=>(hblk q (by omega)).trans (h.rd.block q hq hqg)⟩,(hblk _ (by omega)).trans h.qx,(hblk _ (by omega)).trans h.bx,hl⟩
 .exact(Oi (a:=⟨g,0,Y⟩) (hblk g (by omega))).trans h.di.c0
 .exact(Oi (a:=⟨g,1,Y⟩) (hblk g (by omega))).trans h.di.c1
 .exact(World.frozen?_of_block (a:=⟨g,1,Y⟩) (hblk g (by omega))).trans h.di.hz
 .exact Iu h.di.hg hg.size
theorem aU{base b i:Nat}{u v:Value}{l:List Rc.Rec}{W:World}(h:Rc.Own base W v l)(hb:b<base):Rc.Own base (W.setCell ⟨b,i,Y⟩ u) v l:=by
 rcases h.2 with⟨rfl,h0⟩|⟨k,c,cur,rfl,dN,hk,r⟩
 .exact⟨h.1,.inl ⟨rfl,h0⟩⟩
 .exact⟨h.1,.inr ⟨k,c,cur,rfl,dN,(Below.heap_setCell W _ u k (by simp;omega)).trans hk,r⟩⟩
theorem KT(g:Nat)(id code al:Int)(ay cut:Bool)(R:ByteArray)(rs:List Rc.Rec)(t:ByteArray)(w:World)(h:dA g t 0 w)(hs:t.size<=1000)(hc:bc id code al R rs=0)(ht:t.data.toList=dI id code al ay cut R rs)(afc:(0<=id/\id<256^2)/\(0<=code/\code<256^1)/\(0<=al/\al<256^2)) :
 Calls be 52 #[Ig (Z ⟨g,0,Y⟩)] w λe w'=>∃v,e=sh (.agg #[O J id,AT ay,AT cut,O J code,I R,O J al,v])/\Hid (Rd g w w')/\Hid (Rc.Own (w.heap.size+2) w' v rs):=by
 obtain⟨h20,eX,oQ⟩:=cL hc;obtain⟨⟨q1,q2⟩,⟨q3,q4⟩,q5,q6⟩:=afc;obtain⟨hfa,hfc,hf0,hf1⟩:=KS ay cut;have cG:pc t 0 (dI id code al ay cut R rs):=⟨[],[],by simpa using ht,rfl⟩;have aag:t.size=(dI id code al ay cut R rs).length:=by rw[<- ht];simp
 unfold dI o9 at cG aag;simp only[List.append_assoc] at cG;have a0:=cG.left;have b0:=cG.right;rw[bA] at b0;have a2:=b0.left;have b2:=b0.right;rw[bA] at b2;have a3:=b2.left;have b3:=b2.right;rw[bA] at b3;have a4:=b3.left;have b4:=b3.right;rw[bA] at b4;have a6:=b4.left;have b6:=b4.right;rw[bA] at b6;have a8:=b6.left;have b8:=b6.right;rw[bA] at b8;have a10:=b8.left;have b10:=b8.right;rw[bA] at b10;have a12:=b10.left;have b12:=b10.right;have ap:=b12.left;have bp:=b12.right;rw[bA] at bp;have aq:=bp.left;have bq:=bp.right;rw[bA] at bq;have e0:=cR q1 q2 a0;have e2:=cR hf0 hf1 a2;have e3:=cR q3 q4 a3;have e4:=cR (n:=1) (by omega) (by omega) a4;have e6:=cR (n:=rs.length) (by omega) (by omega) a6;have e8:=cR (n:=0) (by omega) (by omega) a8;have e10:=cR (n:=0) (by omega) (by omega) a10;have ep:=cR q5 q6 ap;have eq:=cR (n:=1) (by omega) (by omega) aq;simp only[Ij,bA,Nat.zero_add] at *;obtain⟨p,hp⟩:∃p,p=12+(cH R).length:=⟨_,rfl⟩;have hpp:2+1+1+2+2+2+2+(cH R).length=p:=by omega
 rw[hpp] at ap aq ep eq bp bq;have h12:12<=p:=by omega
 have hZ:p+4<=t.size:=by omega
 have mG:∀k,k<rs.length->pc t (p+4+((rs.take k).flatMap dj).length) (dj (rs.getD k Rc.dm)):=λk hk=>by
  have e:rs.flatMap dj=(rs.take k).flatMap dj++(dj (rs.getD k Rc.dm)++(rs.drop (k+1)).flatMap dj):=by
   have h1:rs=rs.take k++(rs[k]::rs.drop (k+1)):=by rw[<- List.drop_eq_getElem_cons hk,List.take_append_drop]
   have h2:rs.getD k Rc.dm=rs[k]:=by simp[Io,Ic hk]
   rw[h2]
   calc rs.flatMap dj=(rs.take k++(rs[k]::rs.drop (k+1))).flatMap dj:=by rw[<- h1]
    _=_:=by rw[Qx,List.flatMap_cons]
  rw[e] at bq;exact bq.right.left
 have Vl:Hid (∀k,k<rs.length->p+4+((rs.take (k+1)).flatMap dj).length=p+4+((rs.take k).flatMap dj).length+(dj (rs.getD k Rc.dm)).length):=λk hk=>by
  rw[Iw hk,Qx,Ij];simp[Io,hk];omega
 have Vm:Hid (∀k,k<rs.length->∀W,dA g t (p+4+((rs.take k).flatMap dj).length) W->Calls be 103 #[Ig (Z ⟨g,0,Y⟩)] W λe w'=>e=sh (ln (rs.getD k Rc.dm))/\Hid (dA g t (p+4+((rs.take (k+1)).flatMap dj).length) w')/\Hid (Rd g W w')):=λk hk W hW=>by
  rw[Vl.out k hk];exact KQ g _ _ t W hW hs (oQ _ (by simp[Io,Ic hk])) (mG k hk)
 have HTK:Hid (∀k,k<rs.length->rs.take (k+1)=rs.take k++[rs.getD k Rc.dm]):=λk hk=>by
  rw[Iw hk];simp[Io,hk]
 have afd:Hid (p+4+((rs.take rs.length).flatMap dj).length=t.size):=(show _=_ by rw[OC];omega);have HTL:Hid (∀k,k<=rs.length->(rs.take k).length=k):=λk hk=>by rw[List.length_take];omega
 have KE:Hid (rs.take rs.length=rs):=OC;have HN:Hid (∀W,dA g t 12 W->Calls be 102 #[Ig (Z ⟨g,0,Y⟩)] W λe w'=>e=sh (I R)/\Hid (dA g t p w')/\Hid (Rd g W w')):=λW hW=>by
  have h:=pd g 12 R t W hW hs eX a12;rw[<- hp] at h;exact h
 have HI:Hid (dA g t 0 w):=h;have hg:=h.hg;have E0:Hid ((au t 0 2:Int)=id):=e0;have E2:Hid ((au t 2 1:Int)=o7 ay cut):=e2;have E3:Hid ((au t 3 1:Int)=code):=e3;have e4:((au t 4 2:Nat):Int)=1:=e4;have e8:((au t 8 2:Nat):Int)=0:=e8;have e10:((au t 10 2:Nat):Int)=0:=e10;have E4:Hid (au t 4 2=1):=(show _=_ by omega);have E6:Hid ((au t 6 2:Int)=(rs.length:Int)):=e6;have E8:Hid (au t 8 2=0):=(show _=_ by omega);have E10:Hid (au t 10 2=0):=(show _=_ by omega);have EP:Hid ((au t p 2:Int)=al):=ep;have EQ:Hid (au t (p+2) 2=1):=(show _=_ by omega);have A5:Hid ((bits .and J (o7 ay cut) 128 !=0)=ay):=hfa;have Nb:Hid ((bits .and J (o7 ay cut) 2 !=0)=cut):=hfc;clear h ht hc aag cG a0 b0 a2 b2 a3 b3 a4 b4 a6 b6 a8 b8 a10 b10 a12 b12 ap bp aq bq e0 e2 e3 e4 e6 e8 e10 ep eq hpp hp mG oQ eX hfa hfc hf0 hf1 q1 q2 q3 q4 q5 q6;obtain⟨F,hF⟩:∃F,F=o7 ay cut:=⟨_,rfl⟩;rw[<- hF] at E2 A5 Nb;have Es:Hid (o7 ay cut=F):=hF.symm;clear hF;generalize Kn:rs.length=n at *;have tW:Hid (rs.length=n):=Kn;clear Kn;go_enter Tryz.func52,Tryz.ntmps52;go_wp2_with fail;obtain⟨w0,du⟩:∃w0,w0=(w.alloc (AI aJ 43)).alloc (AI aJ 43):=⟨_,rfl⟩;rw[<- du];have S0:Hid (St g t w 43 aJ 0 aJ w0):=(show St _ _ _ _ _ _ _ _ by
  have hx:w.Extends w0:=by rw[du];exact((IB w).alloc _).alloc _
  refine⟨HI.out.ext hx,Rd.ext hx,?_,?_,hg⟩
  .rw[du]
   exact(Lib.alloc_old _ _ _ (by simp)).trans (Ie w _)
  .rw[du]
   have:=Ie (w.alloc (AI aJ 43)) (AI aJ 43);simpa using this)
 clear du;refine(cY g 0 2 t w0 S0.out.di hs (by omega) (by omega)).mono ?_;rintro e w1 ⟨rfl,h1,h2⟩;rw[E0.out];have S1:Hid (St g t w 43 aJ 2 aJ w1):=S0.out.call h1 h2;have z1:=S1.out.free 0;have c1:w1.cell? ⟨w.heap.size+1,0,Y⟩=Z (O J 0):=S1.out.cell 0;clear h1 h2 S0;go_wp2_with fail;have S2:Hid (St g t w 43 aJ 2 #[O J id,AT false,AT false,O J 0,I ⟨#[]⟩,O J 0,U Y 0 0] (w1.setCell ⟨w.heap.size+1,0,Y⟩ (O J id))):=S1.out.store 0 (O J id);refine(cY g 2 1 t _ S2.out.di hs (by omega) (by omega)).mono ?_;rintro e w2 ⟨rfl,h1,h2⟩;rw[E2.out];have S3:Hid (St g t w 43 aJ 3 #[O J id,AT false,AT false,O J 0,I ⟨#[]⟩,O J 0,U Y 0 0] w2):=S2.out.call h1 h2;have z1:=S3.out.free 1;have z2:=S3.out.free 2;have c0:w2.cell? ⟨w.heap.size+1,0,Y⟩=Z (O J id):=S3.out.cell 0;have c1:w2.cell? ⟨w.heap.size+1,1,Y⟩=Z (AT false):=S3.out.cell 1;have c2:w2.cell? ⟨w.heap.size+1,2,Y⟩=Z (AT false):=S3.out.cell 2;have c3:w2.cell? ⟨w.heap.size+1,3,Y⟩=Z (O J 0):=S3.out.cell 3;have c4:w2.cell? ⟨w.heap.size+1,4,Y⟩=Z (I ⟨#[]⟩):=S3.out.cell 4;have c5:w2.cell? ⟨w.heap.size+1,5,Y⟩=Z (O J 0):=S3.out.cell 5;have c6:w2.cell? ⟨w.heap.size+1,6,Y⟩=Z (U Y 0 0):=S3.out.cell 6;have an:=A5.out;have aD:=Nb.out;clear h1 h2 S1 S2;go_wp2_with fail;have S4:Hid (St g t w 43 aJ 3 #[O J id,AT ay,AT cut,O J 0,I ⟨#[]⟩,O J 0,U Y 0 0] ((w2.setCell ⟨w.heap.size+1,1,Y⟩ (AT ay)).setCell ⟨w.heap.size+1,2,Y⟩ (AT cut))):=(S3.out.store 1 (AT ay)).store 2 (AT cut);refine(ma id 0 0 ay cut ⟨#[]⟩ _).mono ?_;rintro e w3 ⟨rfl,o,xu⟩;rw[Es.out];have S5:Hid (St g t w 43 aJ 3 #[O J id,AT ay,AT cut,O J 0,I ⟨#[]⟩,O J 0,U Y 0 0] w3):=(show St _ _ _ _ _ _ _ _ by rw[xu];exact S4.out.keep ((IB _).alloc _));clear xu z1 z2 c0 c1 c2 c3 c4 c5 c6 S3 S4;go_wp2_with fail;refine(bZ _ _).mono ?_;rintro e w4 ⟨rfl,wB⟩;subst wB;go_wp2_with fail;refine(cY g 3 1 t _ S5.out.di hs (by omega) (by omega)).mono ?_;rintro e w5 ⟨rfl,h1,h2⟩;rw[E3.out];have S6:Hid (St g t w 43 aJ 4 #[O J id,AT ay,AT cut,O J 0,I ⟨#[]⟩,O J 0,U Y 0 0] w5):=S5.out.call h1 h2;have z3:=S6.out.free 3;have c3:w5.cell? ⟨w.heap.size+1,3,Y⟩=Z (O J 0):=S6.out.cell 3;clear h1 h2 S5;go_wp2_with fail;have S7:Hid (St g t w 43 aJ 4 #[O J id,AT ay,AT cut,O J code,I ⟨#[]⟩,O J 0,U Y 0 0] (w5.setCell ⟨w.heap.size+1,3,Y⟩ (O J code))):=S6.out.store 3 (O J code);refine(ev g 4 2 1 t _ S7.out.di hs (by omega) (by omega) E4.out).mono ?_;rintro e w6 ⟨rfl,h1,h2⟩;have S8:Hid (St g t w 43 aJ 6 #[O J id,AT ay,AT cut,O J code,I ⟨#[]⟩,O J 0,U Y 0 0] w6):=S7.out.call h1 h2;clear h1 h2 S6 S7 z3 c3;go_wp2_with fail;refine(cY g 6 2 t _ S8.out.di hs (by omega) (by omega)).mono ?_;rintro e w7 ⟨rfl,h1,h2⟩;rw[E6.out];have S9:Hid (St g t w 43 aJ 8 #[O J id,AT ay,AT cut,O J code,I ⟨#[]⟩,O J 0,U Y 0 0] w7):=S8.out.call h1 h2;clear h1 h2 S8;go_wp2_with fail;refine(ev g 8 2 0 t _ S9.out.di hs (by omega) (by omega) E8.out).mono ?_;rintro e w8 ⟨rfl,h1,h2⟩;have SA:Hid (St g t w 43 aJ 10 #[O J id,AT ay,AT cut,O J code,I ⟨#[]⟩,O J 0,U Y 0 0] w8):=S9.out.call h1 h2;clear h1 h2 S9;go_wp2_with fail;refine(ev g 10 2 0 t _ SA.out.di hs (by omega) (by omega) E10.out).mono ?_;rintro e w9 ⟨rfl,h1,h2⟩;have SB:Hid (St g t w 43 aJ 12 #[O J id,AT ay,AT cut,O J code,I ⟨#[]⟩,O J 0,U Y 0 0] w9):=SA.out.call h1 h2;clear h1 h2 SA;go_wp2_with fail;refine(HN.out _ SB.out.di).mono ?_;rintro e wa ⟨rfl,h1,h2⟩;have SC:Hid (St g t w 43 aJ p #[O J id,AT ay,AT cut,O J code,I ⟨#[]⟩,O J 0,U Y 0 0] wa):=SB.out.call h1 h2;have z4:=SC.out.free 4;have c4:wa.cell? ⟨w.heap.size+1,4,Y⟩=Z (I ⟨#[]⟩):=SC.out.cell 4;clear h1 h2 SB;go_wp2_with fail;have SD:Hid (St g t w 43 aJ p #[O J id,AT ay,AT cut,O J code,I R,O J 0,U Y 0 0] (wa.setCell ⟨w.heap.size+1,4,Y⟩ (I R))):=SC.out.store 4 (I R);refine(cY g p 2 t _ SD.out.di hs (by omega) (by omega)).mono ?_;rintro e wb ⟨rfl,h1,h2⟩;rw[EP.out];have SE:Hid (St g t w 43 aJ (p+2) #[O J id,AT ay,AT cut,O J code,I R,O J 0,U Y 0 0] wb):=SD.out.call h1 h2;have z5:=SE.out.free 5;have c5:wb.cell? ⟨w.heap.size+1,5,Y⟩=Z (O J 0):=SE.out.cell 5;clear h1 h2 SC SD z4 c4;go_wp2_with fail;have SF:Hid (St g t w 43 aJ (p+2) #[O J id,AT ay,AT cut,O J code,I R,O J al,U Y 0 0] (wb.setCell ⟨w.heap.size+1,5,Y⟩ (O J al))):=SE.out.store 5 (O J al);refine(ev g (p+2) 2 1 t _ SF.out.di hs (by omega) (by omega) EQ.out).mono ?_;rintro e wc ⟨rfl,h1,h2⟩;have SG:Hid (St g t w 43 aJ (p+4) #[O J id,AT ay,AT cut,O J code,I R,O J al,U Y 0 0] wc):=SF.out.call h1 h2;clear h1 h2 SE SF z5 c5;go_wp2_with fail;have SG0:Hid (St g t w 43 aJ (p+4+((rs.take 0).flatMap dj).length) #[O J id,AT ay,AT cut,O J code,I R,O J al,(U Y 0 0)] wc):=(show St _ _ _ _ _ _ _ _ by simpa using SG.out);have hzw:w.heap.size+2<=wc.heap.size:=(Ib.1 SG.out.bx).1;obtain⟨i0,eP,cE,gn,ga⟩:=info_parts Tryz.CE;clear SG;go_loopw [46] (λi wr=>∃(k:Nat) (v:Value),k<=n/\i=O J k/\Hid (St g t w 43 aJ (p+4+((rs.take k).flatMap dj).length) #[O J id,AT ay,AT cut,O J code,I R,O J al,v] wr)/\Hid (Rc.Own (w.heap.size+2) wr v (rs.take k))/\w.heap.size+2<=wr.heap.size) (λi _=>n-(intOf i).toNat)
 case atStart=>exact⟨0,U Y 0 0,Nat.zero_le _,rfl,SG0,World.ownsRow_nil _ _ _ _,hzw⟩
 case round=>
  obtain⟨k,v,hk,rfl,HS,HO,bb⟩:=hrel;by_cases aB:k<n
  .have hd:decide ((k:Int)<(n:Int))=true:=by simp;omega
   have HRK:=Vm.out k aB wr.drew (HS.out.di.ext (IB _).drew);have A7:Hid (Calls be 103 #[Ig (Z ⟨g,0,Y⟩)] wr.drew λe w'=>e=sh (ln (rs.getD k Rc.dm))/\Hid (dA g t (p+4+((rs.take (k+1)).flatMap dj).length) w')/\Hid (Rd g wr.drew w')):=HRK;have Nc:=HTK.out k aB;have xI:Hid (rs.take (k+1)=rs.take k++[rs.getD k Rc.dm]):=Nc;have HLk:=HTL.out k hk;clear HRK Nc;generalize rs.getD k Rc.dm=r at *;have hvw:wr.cell? ⟨w.heap.size+1,6,Y⟩=Z v:=HS.out.cell 6;go_wp2_with fail;refine wp_region_any (by kernel_rfl) ?_;refine wpAny_take (i:=0) (v:=Ig (Z ⟨w.heap.size+1,6,Y⟩)) rfl (by kernel_rfl) (by kernel_rfl) (by kernel_rfl) (λ_ _ _ h=>h) (Or.inl ⟨by rfl,?_⟩) ?_
   .intro W
    go_simp
   refine wpAny_take (i:=2) (v:=Ig (Z ⟨g,0,Y⟩)) rfl (by kernel_rfl) (by kernel_rfl) (by kernel_rfl) (λ_ _ _ h=>h) (Or.inl ⟨by rfl,?_⟩) ?_
   .intro W
    go_simp
   refine I6 (rs:=[1,3]) (by kernel_rfl) (by simp) ?_;refine IM rfl (λK hK=>?_) (IM rfl (λK hK=>?_) IZ)
   .have HK:Hid _:=hK
    clear hK;go_simp;refine HK.out _ _ ?_;clear HK K;refine I6 (rs:=[3]) (by kernel_rfl) (by simp) ?_;refine IM rfl (λK hK=>?_) IZ;have HK:Hid _:=hK;clear hK;go_simp;refine A7.out.mono ?_;rintro e w5 ⟨rfl,h1,h2⟩;have ux:Hid (St g t w 43 aJ (p+4+((rs.take (k+1)).flatMap dj).length) #[O J id,AT ay,AT cut,O J code,I R,O J al,v] w5):=(HS.out.keep (IB _).drew).call h1 h2;have mM:Hid (Rc.Own (w.heap.size+2) w5 v (rs.take k)):=h2.out.Pd (Qi HO.out) (by omega);have fW:w.heap.size+2<=w5.heap.size:=Ir bb h2.out.size;have KU:w5.cell? ⟨w.heap.size+1,6,Y⟩=Z v:=ux.out.cell 6;clear h1 h2;refine HK.out _ _ ?_;clear HK K;refine I6 (rs:=[4]) (by kernel_rfl) (by simp) ?_;refine IM rfl (λK hK=>?_) IZ;have HK:Hid _:=hK;clear hK;go_simp;refine HK.out _ _ ?_;clear HK K;refine I6 (rs:=[5]) (by kernel_rfl) (by simp) ?_;refine IM rfl (λK hK=>?_) IZ;have HK:Hid _:=hK;clear hK;rw[if_pos (by rfl)];refine Q1 _ _ _ 41 rfl (w.heap.size+2) 64 i0 _ 7 80 O2 eP cE gn ga rfl (by omega) v (rs.take k).length (Rc.fl (rs.take k)) rfl (J6 mM.out _) ⟨w5.heap.size,0,Y⟩ 1 1 r.cs rfl rfl (Ol (cs:=#[I r.name,O J r.al,O J r.aE,O J r.addr,I r.text,O J r.port,I r.target]) (t:=64) (fr:=(0,0)) (Ie w5 _)) (Rc.da r) (by unfold Ii;omega) (by omega) (by simp;omega) ?_;intro v' w6 r1 r2 r3;obtain⟨ao,l',c',qf⟩:∃ao l' c',v'=U ao l' c':=by
     rcases r1.2 with⟨hv,_⟩|⟨gq,cq,_,hv,_⟩
     .exact⟨_,_,_,hv⟩
     .exact⟨_,_,_,hv⟩
    subst qf;have lA:w5.Extends (w5.alloc (AI #[I r.name,O J r.al,O J r.aE,O J r.addr,I r.text,O J r.port,I r.target] 64)):=(IB w5).alloc _;have lB:∀q,q<w.heap.size+2->Z q≠v.ownBlock:=λq hq e=>by have:=(mM.out.lt q e.symm).1;omega
    have mN:Hid (St g t w 43 aJ (p+4+((rs.take (k+1)).flatMap dj).length) #[O J id,AT ay,AT cut,O J code,I R,O J al,v] w6):=(show St _ _ _ _ _ _ _ _ from(ux.out.keep lA).grown r2 (λq hq=>lB q hq));have nG:Hid (Rc.Own (w.heap.size+2) w6 (U ao l' c') (rs.take (k+1))):=(show Rc.Own _ _ _ _ by rw[xI.out];exact Rc.ew r1);have sG:w.heap.size+2<=w6.heap.size:=by have:=r2.size;simp at this;omega
    have KV:w6.cell? ⟨w.heap.size+1,6,Y⟩=Z v:=mN.out.cell 6;have CF:=mN.out.free 6;clear r1 r2 r3 lA lB ux mM fW KU;refine HK.out _ _ ?_;clear HK K;refine I6 (rs:=[6]) (by kernel_rfl) (by simp) ?_;refine IM rfl (λK hK=>?_) IZ;have HK:Hid _:=hK;clear hK;go_simp;refine HK.out _ _ ?_;clear HK K;refine I6 (rs:=[7]) (by kernel_rfl) (by simp) ?_;refine IM rfl (λK hK=>?_) IZ;have HK:Hid _:=hK;clear hK;go_simp;refine HK.out _ _ ?_;clear HK K;refine wpAny_done (by kernel_rfl) ?_ _;have A8:Hid (St g t w 43 aJ (p+4+((rs.take (k+1)).flatMap dj).length) #[O J id,AT ay,AT cut,O J code,I R,O J al,U ao l' c'] (w6.setCell ⟨w.heap.size+1,6,Y⟩ (U ao l' c'))):=mN.out.store 6 (U ao l' c');have KW:Hid (Rc.Own (w.heap.size+2) (w6.setCell ⟨w.heap.size+1,6,Y⟩ (U ao l' c')) (U ao l' c') (rs.take (k+1))):=aU nG.out (by omega);have Ae:w.heap.size+2<=(w6.setCell ⟨w.heap.size+1,6,Y⟩ (U ao l' c')).heap.size:=by simpa using sG
    clear mN nG sG KV CF;go_wp2_with fail;exact⟨⟨k+1,U ao l' c',by omega,by go_num,A8,KW,Ae⟩,by simp[intOf];omega⟩
   .have HK:Hid _:=hK
    clear hK;go_simp;refine A7.out.mono ?_;rintro e w5 ⟨rfl,h1,h2⟩;have ux:Hid (St g t w 43 aJ (p+4+((rs.take (k+1)).flatMap dj).length) #[O J id,AT ay,AT cut,O J code,I R,O J al,v] w5):=(HS.out.keep (IB _).drew).call h1 h2;have mM:Hid (Rc.Own (w.heap.size+2) w5 v (rs.take k)):=h2.out.Pd (Qi HO.out) (by omega);have fW:w.heap.size+2<=w5.heap.size:=Ir bb h2.out.size;have KU:w5.cell? ⟨w.heap.size+1,6,Y⟩=Z v:=ux.out.cell 6;clear h1 h2;refine HK.out _ _ ?_;clear HK K;refine I6 (rs:=[1,4]) (by kernel_rfl) (by simp) ?_;refine IM rfl (λK hK=>?_) (IM rfl (λK hK=>?_) IZ)
    .have HK:Hid _:=hK
     clear hK;go_simp;refine HK.out _ _ ?_;clear HK K;refine I6 (rs:=[4]) (by kernel_rfl) (by simp) ?_;refine IM rfl (λK hK=>?_) IZ;have HK:Hid _:=hK;clear hK;go_simp;refine HK.out _ _ ?_;clear HK K;refine I6 (rs:=[5]) (by kernel_rfl) (by simp) ?_;refine IM rfl (λK hK=>?_) IZ;have HK:Hid _:=hK;clear hK;rw[if_pos (by rfl)];refine Q1 _ _ _ 41 rfl (w.heap.size+2) 64 i0 _ 7 80 O2 eP cE gn ga rfl (by omega) v (rs.take k).length (Rc.fl (rs.take k)) rfl (J6 mM.out _) ⟨w5.heap.size,0,Y⟩ 1 1 r.cs rfl rfl (Ol (cs:=#[I r.name,O J r.al,O J r.aE,O J r.addr,I r.text,O J r.port,I r.target]) (t:=64) (fr:=(0,0)) (Ie w5 _)) (Rc.da r) (by unfold Ii;omega) (by omega) (by simp;omega) ?_;intro v' w6 r1 r2 r3;obtain⟨ao,l',c',qf⟩:∃ao l' c',v'=U ao l' c':=by
      rcases r1.2 with⟨hv,_⟩|⟨gq,cq,_,hv,_⟩
      .exact⟨_,_,_,hv⟩
      .exact⟨_,_,_,hv⟩
     subst qf;have lA:w5.Extends (w5.alloc (AI #[I r.name,O J r.al,O J r.aE,O J r.addr,I r.text,O J r.port,I r.target] 64)):=(IB w5).alloc _;have lB:∀q,q<w.heap.size+2->Z q≠v.ownBlock:=λq hq e=>by have:=(mM.out.lt q e.symm).1;omega
     have mN:Hid (St g t w 43 aJ (p+4+((rs.take (k+1)).flatMap dj).length) #[O J id,AT ay,AT cut,O J code,I R,O J al,v] w6):=(show St _ _ _ _ _ _ _ _ from(ux.out.keep lA).grown r2 (λq hq=>lB q hq));have nG:Hid (Rc.Own (w.heap.size+2) w6 (U ao l' c') (rs.take (k+1))):=(show Rc.Own _ _ _ _ by rw[xI.out];exact Rc.ew r1);have sG:w.heap.size+2<=w6.heap.size:=by have:=r2.size;simp at this;omega
     have KV:w6.cell? ⟨w.heap.size+1,6,Y⟩=Z v:=mN.out.cell 6;have CF:=mN.out.free 6;clear r1 r2 r3 lA lB ux mM fW KU;refine HK.out _ _ ?_;clear HK K;refine I6 (rs:=[6]) (by kernel_rfl) (by simp) ?_;refine IM rfl (λK hK=>?_) IZ;have HK:Hid _:=hK;clear hK;go_simp;refine HK.out _ _ ?_;clear HK K;refine I6 (rs:=[7]) (by kernel_rfl) (by simp) ?_;refine IM rfl (λK hK=>?_) IZ;have HK:Hid _:=hK;clear hK;go_simp;refine HK.out _ _ ?_;clear HK K;refine wpAny_done (by kernel_rfl) ?_ _;have A8:Hid (St g t w 43 aJ (p+4+((rs.take (k+1)).flatMap dj).length) #[O J id,AT ay,AT cut,O J code,I R,O J al,U ao l' c'] (w6.setCell ⟨w.heap.size+1,6,Y⟩ (U ao l' c'))):=mN.out.store 6 (U ao l' c');have KW:Hid (Rc.Own (w.heap.size+2) (w6.setCell ⟨w.heap.size+1,6,Y⟩ (U ao l' c')) (U ao l' c') (rs.take (k+1))):=aU nG.out (by omega);have Ae:w.heap.size+2<=(w6.setCell ⟨w.heap.size+1,6,Y⟩ (U ao l' c')).heap.size:=by simpa using sG
     clear mN nG sG KV CF;go_wp2_with fail;exact⟨⟨k+1,U ao l' c',by omega,by go_num,A8,KW,Ae⟩,by simp[intOf];omega⟩
    .have HK:Hid _:=hK
     clear hK;go_simp;refine HK.out _ _ ?_;clear HK K;have Nf:(w5.alloc (AI #[I r.name,O J r.al,O J r.aE,O J r.addr,I r.text,O J r.port,I r.target] 64)).cell? ⟨w.heap.size+1,6,Y⟩=Z v:=((IB w5).alloc _).cell_of KU;refine I6 (rs:=[1]) (by kernel_rfl) (by simp) ?_;refine IM rfl (λK hK=>?_) IZ;have HK:Hid _:=hK;clear hK;go_simp;refine HK.out _ _ ?_;clear HK K;refine I6 (rs:=[5]) (by kernel_rfl) (by simp) ?_;refine IM rfl (λK hK=>?_) IZ;have HK:Hid _:=hK;clear hK;rw[if_pos (by rfl)];refine Q1 _ _ _ 41 rfl (w.heap.size+2) 64 i0 _ 7 80 O2 eP cE gn ga rfl (by omega) v (rs.take k).length (Rc.fl (rs.take k)) rfl (J6 mM.out _) ⟨w5.heap.size,0,Y⟩ 1 1 r.cs rfl rfl (Ol (cs:=#[I r.name,O J r.al,O J r.aE,O J r.addr,I r.text,O J r.port,I r.target]) (t:=64) (fr:=(0,0)) (Ie w5 _)) (Rc.da r) (by unfold Ii;omega) (by omega) (by simp;omega) ?_;intro v' w6 r1 r2 r3;obtain⟨ao,l',c',qf⟩:∃ao l' c',v'=U ao l' c':=by
      rcases r1.2 with⟨hv,_⟩|⟨gq,cq,_,hv,_⟩
      .exact⟨_,_,_,hv⟩
      .exact⟨_,_,_,hv⟩
     subst qf;have lA:w5.Extends (w5.alloc (AI #[I r.name,O J r.al,O J r.aE,O J r.addr,I r.text,O J r.port,I r.target] 64)):=(IB w5).alloc _;have lB:∀q,q<w.heap.size+2->Z q≠v.ownBlock:=λq hq e=>by have:=(mM.out.lt q e.symm).1;omega
     have mN:Hid (St g t w 43 aJ (p+4+((rs.take (k+1)).flatMap dj).length) #[O J id,AT ay,AT cut,O J code,I R,O J al,v] w6):=(show St _ _ _ _ _ _ _ _ from(ux.out.keep lA).grown r2 (λq hq=>lB q hq));have nG:Hid (Rc.Own (w.heap.size+2) w6 (U ao l' c') (rs.take (k+1))):=(show Rc.Own _ _ _ _ by rw[xI.out];exact Rc.ew r1);have sG:w.heap.size+2<=w6.heap.size:=by have:=r2.size;simp at this;omega
     have KV:w6.cell? ⟨w.heap.size+1,6,Y⟩=Z v:=mN.out.cell 6;have CF:=mN.out.free 6;clear r1 r2 r3 lA lB ux mM fW KU;refine HK.out _ _ ?_;clear HK K;refine I6 (rs:=[6]) (by kernel_rfl) (by simp) ?_;refine IM rfl (λK hK=>?_) IZ;have HK:Hid _:=hK;clear hK;go_simp;refine HK.out _ _ ?_;clear HK K;refine I6 (rs:=[7]) (by kernel_rfl) (by simp) ?_;refine IM rfl (λK hK=>?_) IZ;have HK:Hid _:=hK;clear hK;go_simp;refine HK.out _ _ ?_;clear HK K;refine wpAny_done (by kernel_rfl) ?_ _;have A8:Hid (St g t w 43 aJ (p+4+((rs.take (k+1)).flatMap dj).length) #[O J id,AT ay,AT cut,O J code,I R,O J al,U ao l' c'] (w6.setCell ⟨w.heap.size+1,6,Y⟩ (U ao l' c'))):=mN.out.store 6 (U ao l' c');have KW:Hid (Rc.Own (w.heap.size+2) (w6.setCell ⟨w.heap.size+1,6,Y⟩ (U ao l' c')) (U ao l' c') (rs.take (k+1))):=aU nG.out (by omega);have Ae:w.heap.size+2<=(w6.setCell ⟨w.heap.size+1,6,Y⟩ (U ao l' c')).heap.size:=by simpa using sG
     clear mN nG sG KV CF;go_wp2_with fail;exact⟨⟨k+1,U ao l' c',by omega,by go_num,A8,KW,Ae⟩,by simp[intOf];omega⟩
  .have gj:k=n:=by omega
   have hd:decide ((k:Int)<(n:Int))=false:=by simp;omega
   have ct:wr.cell? ⟨g,0,Y⟩=Z (I t):=HS.out.di.c0;have ca:wr.cell? ⟨g,1,Y⟩=Z (O J t.size):=(show wr.cell? ⟨g,1,Y⟩=Z (O J t.size) by
    rw[<- afd.out,<- gj];exact HS.out.di.c1)
   have HOF:Hid (Rc.Own (w.heap.size+2) wr v rs):=(show Rc.Own _ _ _ _ by
    have h:=HO.out;rw[gj,KE.out] at h;exact h)
   obtain⟨av,lv,cv,oR⟩:∃a l c,v=U a l c:=by
    rcases HO.out.2 with⟨hv,_⟩|⟨gq,cq,_,hv,_⟩
    .exact⟨_,_,_,hv⟩
    .exact⟨_,_,_,hv⟩
   subst oR;have m0:wr.cell? ⟨w.heap.size+1,0,Y⟩=Z (O J id):=HS.out.cell 0;have q0:wr.cell? ⟨w.heap.size,0,Y⟩=Z (O J 0):=HS.out.fh 0;have y0:=HS.out.fi 0;have m1:wr.cell? ⟨w.heap.size+1,1,Y⟩=Z (AT ay):=HS.out.cell 1;have q1:wr.cell? ⟨w.heap.size,1,Y⟩=Z (AT false):=HS.out.fh 1;have y1:=HS.out.fi 1;have m2:wr.cell? ⟨w.heap.size+1,2,Y⟩=Z (AT cut):=HS.out.cell 2;have q2:wr.cell? ⟨w.heap.size,2,Y⟩=Z (AT false):=HS.out.fh 2;have y2:=HS.out.fi 2;have m3:wr.cell? ⟨w.heap.size+1,3,Y⟩=Z (O J code):=HS.out.cell 3;have q3:wr.cell? ⟨w.heap.size,3,Y⟩=Z (O J 0):=HS.out.fh 3;have y3:=HS.out.fi 3;have m4:wr.cell? ⟨w.heap.size+1,4,Y⟩=Z (I R):=HS.out.cell 4;have q4:wr.cell? ⟨w.heap.size,4,Y⟩=Z (I ⟨#[]⟩):=HS.out.fh 4;have y4:=HS.out.fi 4;have m5:wr.cell? ⟨w.heap.size+1,5,Y⟩=Z (O J al):=HS.out.cell 5;have q5:wr.cell? ⟨w.heap.size,5,Y⟩=Z (O J 0):=HS.out.fh 5;have y5:=HS.out.fi 5;have m6:wr.cell? ⟨w.heap.size+1,6,Y⟩=Z (U av lv cv):=HS.out.cell 6;have q6:wr.cell? ⟨w.heap.size,6,Y⟩=Z (U Y 0 0):=HS.out.fh 6;have y6:=HS.out.fi 6;clear gj;go_wp2_with fail;go_region_held3 (λw'=>w'.cell? ⟨g,0,Y⟩=Z (I t)/\w'.cell? ⟨g,1,Y⟩=Z (O J t.size)) (go_keep) (first|(go_at_call 69;refine(bZ _ _).mono ?_;rintro e w5 ⟨rfl,rfl⟩)|fail)
   go_wp2_with fail;refine Iy (v:=.agg #[O J id,AT ay,AT cut,O J code,I R,O J al,U av lv cv]) ?_ rfl ⟨U av lv cv,rfl,?_,?_⟩
   .simp[results,Tryz.results52,go_sem,q0,q1,q2,q3,q4,q5,q6]
   .exact(Rd.trans (((((((HS.out.rd.put 0 _ (By _)).put 1 _ (By _)).put 2 _ (By _)).put 3 _ (By _)).put 4 _ (By _)).put 5 _ (By _)).put 6 _ (By _)) (Rd.ext (IB _).drew):Rd g w _)
   .exact Qi (aU (i:=6) (aU (i:=5) (aU (i:=4) (aU (i:=3) (aU (i:=2) (aU (i:=1) (aU (i:=0) HOF.out (by omega)) (by omega)) (by omega)) (by omega)) (by omega)) (by omega)) (by omega))
end Go.Proofs.YtfidjlcdlakceaaGreatDoor
