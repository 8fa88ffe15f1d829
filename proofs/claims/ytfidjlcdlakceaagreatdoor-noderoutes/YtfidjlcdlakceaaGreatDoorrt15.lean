import Derived.Test.YtfidjlcdlakceaaGreatDoorrt14
import Derived.Shelf.RegionOpen
set_option maxHeartbeats 2000000
set_option maxRecDepth 100000
open Go.Value renaming int→O,pointer→Ig,ownBlock→I2,tuple→Il,slice→U,string→I,bool→AT
open Option renaming some→Z,none→Y
open Go.Proofs.Tryz renaming prog→be,underlying126→Ug,underlying127→JK
open Nat renaming lt_of_lt_of_le→Iu,le_trans→Ir,le_refl→By
open Go.RowKit.Below renaming refl→Ia,heap_setCell→IH
open Go.Obj renaming cells→AI
open Go renaming TypeId→I8,bodyPost→Ji,maxLen→Ii,heap_alloc_new→Ie
open Go.Ending renaming returned→sh
open Array renaming getElem?_eq_some_iff→Ib
open Go.Lib renaming alloc_old→I0,strCells→Of,byteCells→I1
open Go.IntKind renaming i64→J
open List renaming append_assoc→Jf,length_append→Ij,flatMap_cons→OH,getD→Io,take_of_length_le→IW
open ByteArray renaming empty→If
namespace Go.Proofs
open Go.Shelf
end Go.Proofs
namespace Go.Proofs.YtfidjlcdlakceaaGreatDoor
open Go.RowKit
theorem Tryz.infoByte:(Tryz.prog.info? 5).map (λi=>(i.zero,i.size,i.bytes))=Z (Z (O .u8 0),1,1):=by kernel_rfl
theorem Tryz.sizeBuilder:(Tryz.prog.info? 129).map (·.size)=Z 2:=by kernel_rfl
theorem Tryz.AE:liesAt be Tryz.prog.depth 131 (2/Tryz.prog.cellsOf 131) 0 129 1=true:=by kernel_rfl
abbrev Ab(B b:Nat)(p:Value)(bs:List Value)(w:World):Prop:=Lib.BuilderAt 131 5 B b p bs w
def bY(B b:Nat)(bs:List Value)(w:World):Prop:=Ab B b (Ig Y) bs w\/Ab B b (Ig (Z ⟨b,0,Y⟩)) bs w
def cB(w:World)(b:Nat):Option Nat:=(w.cell? ⟨b,1,Y⟩).bind I2
def Kq(b:Nat)(w w':World):Prop:=b<w.heap.size->(∀k,k<w.heap.size->k≠b->Z k≠cB w b->w'.heap[k]?=w.heap[k]?)/\(cB w' b=cB w b\/∀k,cB w' b=Z k->w.heap.size<=k)
structure Kp(B b:Nat)(w w':World):Prop where
 uM:Below B w w'
 Eo:Lib.OthersKept 5 (Z b) w w'
 kq:Kq b w w'
theorem Kq.refl(b:Nat)(w:World):Kq b w w:=λ_=>⟨λ_ _ _ _=>rfl,.inl rfl⟩
theorem Kq.trans{b:Nat}{w w1 w2:World}(h:Kq b w w1)(k:Kq b w1 w2)(hs:w.heap.size<=w1.heap.size):Kq b w w2:=λhb=>by
 obtain⟨h1,h2⟩:=h hb;obtain⟨k1,k2⟩:=k (Iu hb hs);refine⟨λj hj hjb RX=>?_,?_⟩
 .refine(k1 j (Iu hj hs) hjb λe=>?_).trans (h1 j hj hjb RX)
  rcases h2 with h2|h2
  .exact RX (e.trans h2)
  .have:=h2 j e.symm;omega
 .rcases k2 with k2|k2
  .rcases h2 with h2|h2
   .exact .inl (k2.trans h2)
   .exact .inr λj hj=>h2 j (k2▸hj)
  .exact .inr λj hj=>Ir hs (k2 j hj)
theorem Kp.refl(B b:Nat)(w:World):Kp B b w w:=⟨Ia _ _,Lib.OthersKept.refl _ _ _,Kq.refl b w⟩
theorem Kp.trans{B b:Nat}{w w1 w2:World}(h:Kp B b w w1)(k:Kp B b w1 w2):Kp B b w w2:=⟨h.uM.trans k.uM,h.Eo.trans k.Eo,h.kq.trans k.kq h.uM.size⟩
theorem Kp.drew{B b:Nat}{w w1:World}(h:Kp B b w w1):Kp B b w w1.drew:=⟨h.uM.drew,h.Eo.drew,h.kq⟩
theorem Kp.size{B b:Nat}{w w1:World}(h:Kp B b w w1):w.heap.size<=w1.heap.size:=h.uM.size
theorem Kq.step{b:Nat}{w1 w2:World}{p v v':Value}{T:I8}(an:w1.heap[b]?=Z (AI #[p,v] T (0,0)))(aD:w2.heap[b]?=Z (AI #[p,v] T (0,0)))(hg:∀k,k<w1.heap.size->Z k≠v.ownBlock->w2.heap[k]?=w1.heap[k]?)(cG:v'.ownBlock=v.ownBlock\/∀k,v'.ownBlock=Z k->w1.heap.size<=k):Kq b w1 (w2.setCell ⟨b,1,Y⟩ v'):=λ_=>by
 have e1:cB w1 b=v.ownBlock:=by unfold cB;rw[af an 1];rfl
 have e2:cB (w2.setCell ⟨b,1,Y⟩ v') b=v'.ownBlock:=by unfold cB;rw[World.cell?_setCell_same _ _ _ (af aD 1:w2.cell? ⟨b,1,Y⟩=Z v)];rfl
 rw[e1,e2];exact⟨λk hk NK gj=>(IH w2 _ v' k NK).trans (hg k hk gj),cG⟩
theorem sq{B n:Nat}{w:World}{v:Value}{xs:List Value}(h:w.ownsRow B 5 1 v n xs):∀g,v.ownBlock=Z g->∃c fz,w.heap[g]?=Z (AI c 5 fz):=by
 intro g hg;rcases h.2 with⟨rfl,_⟩|⟨g',cap,cur,rfl,_,hgg,_⟩
 .simp[I2] at hg
 .simp[I2] at hg
  subst hg;exact⟨cur,_,hgg⟩
theorem AF(b:Nat)(w:World)(h0:w.cell? ⟨b,0,Y⟩=Z (Ig Y))(rV:w.shape? b=Z (131,2))(iz:w.frozen? ⟨b,0,Y⟩=false) :
 Calls be 167 #[Ig (Z ⟨b,0,Y⟩)] w λe w'=>e=sh (Il #[])/\w'=w.setCell ⟨b,0,Y⟩ (Ig (Z ⟨b,0,Y⟩)):=by
 obtain⟨j,hj,hjs⟩:=Option.map_eq_some_iff.1 Tryz.sizeBuilder;go_enter Tryz.func167,Tryz.ntmps167;go_wp2_with fail;rw[Lib.run_to_unsafe w ⟨b,0,Y⟩ Ug Tryz.underlying274 hj (by rw[hjs];decide) rV (Nat.zero_lt_succ 1)];simp only[Result.andThen];rw[Oper.upon_value];go_wp2_with fail;rw[run_callFunc_extern Tryz.func231 (by kernel_rfl) (by kernel_rfl) (by kernel_rfl) (e:=Extern.AbiNoEscape.same) (by kernel_rfl)];rw[Lib.run_noEscape];simp only[Result.andThen];rw[Oper.upon_value];go_wp2_with fail;rw[Lib.run_from_unsafe w ⟨b,0,Y⟩ Tryz.underlying274 Ug hj rV Tryz.AE];simp only[Result.andThen];rw[Oper.upon_value];go_wp2_with fail;simp[Ji,results,Tryz.results167]
theorem Ep(b:Nat)(w:World)(h0:w.cell? ⟨b,0,Y⟩=Z (Ig (Z ⟨b,0,Y⟩))) :
 Calls be 167 #[Ig (Z ⟨b,0,Y⟩)] w λe w'=>e=sh (Il #[])/\w'=w:=by
 obtain⟨j,hj,_⟩:=Option.map_eq_some_iff.1 Tryz.sizeBuilder;go_enter Tryz.func167,Tryz.ntmps167;go_wp2_with fail;rw[Lib.run_neq_ptr_same w _ Ug hj];go_wp2_with fail;simp[Ji,results,Tryz.results167]
theorem xS(B b:Nat)(bs:List Value)(w:World)(h:bY B b bs w) :
 Calls be 167 #[Ig (Z ⟨b,0,Y⟩)] w λe w'=>e=sh (Il #[])/\Ab B b (Ig (Z ⟨b,0,Y⟩)) bs w'/\Kp B b w w':=by
 rcases h with h|h
 .refine(AF b w h.cell0 h.shape h.frozen0).mono ?_
  rintro e w' ⟨rfl,rfl⟩;exact⟨rfl,h.used _,(Ia B w).setCell (p:=⟨b,0,Y⟩) h.1 _,(Lib.OthersKept.refl _ _ w).setCell ⟨b,0,Y⟩ rfl _,λ_=>⟨λk _ NK _=>IH w _ _ k NK,.inl (by unfold cB;rw[World.cell?_setCell_other _ _ _ _ (by simp)])⟩⟩
 .refine(Ep b w h.cell0).mono ?_
  rintro e w' ⟨rfl,rfl⟩;exact⟨rfl,h,Kp.refl B b _⟩
theorem mK(B b:Nat)(bs:List Value)(c:Int)(w:World)(h:bY B b bs w)(hlen:bs.length+1<=1000000)(qO:B<=w.heap.size) :
 Calls be 171 #[Ig (Z ⟨b,0,Y⟩),O .u8 c] w λe w'=>e=sh .nilIface/\Ab B b (Ig (Z ⟨b,0,Y⟩)) (bs++[O .u8 c]) w'/\Kp B b w w':=by
 obtain⟨i0,hi,cE,cP,jD⟩:=info_parts Tryz.infoByte;have HC:Hid (Calls be 167 #[Ig (Z ⟨b,0,Y⟩)] w λe w'=>e=sh (Il #[])/\Ab B b (Ig (Z ⟨b,0,Y⟩)) bs w'/\Kp B b w w'):=xS B b bs w h;clear h;go_enter Tryz.func171,Tryz.ntmps171;go_wp2_with fail;refine HC.out.mono ?_;rintro e w1 ⟨rfl,h1,an⟩;obtain⟨hB,v,uh,hown,bE⟩:=h1;have c0:w1.cell? ⟨b,0,Y⟩=Z (Ig (Z ⟨b,0,Y⟩)):=af uh 0;have c1:w1.cell? ⟨b,1,Y⟩=Z v:=af uh 1;have Er:=an.size;have HO:Hid (w1.ownsRow B 5 1 v bs.length bs):=hown;have HK:Hid (w1.heap[b]?=Z (AI #[Ig (Z ⟨b,0,Y⟩),v] 131 (0,0))):=uh;clear hown uh;go_wp2_with (at_builtin;refine wpList_append_own_at _ rfl _ _ 127 rfl B 5 i0 (O .u8 0) 1 1 JK hi cE cP jD rfl (by decide) _ bs.length bs rfl (HO.out.alloc _) ⟨w1.heap.size,0,Y⟩ 1 1 [O .u8 c] rfl rfl ?c1 ?c2 ?c3 ?c4 ?c5 ?_)
 case c1=>(intro j u hj;rw[Addr.add_lit];exact(dF (by simp)).trans (by simpa using hj))
 case c2=>(intro u hu;simp at hu;subst hu;rfl)
 case c3=>(unfold Ii;omega)
 case c4=>omega
 case c5=>(simp;omega)
 intro v' w2 sr bU _ cG;have aB:b<w1.heap.size:=(Ib.1 HK.out).1;have aD:w2.heap[b]?=Z (AI #[Ig (Z ⟨b,0,Y⟩),v] 131 (0,0)):=by
  rw[bU.block b (by simp;omega) (λe=>bE e.symm),I0 w1 _ b aB];exact HK.out
 have d0:w2.cell? ⟨b,0,Y⟩=Z (Ig (Z ⟨b,0,Y⟩)):=af aD 0;have d1:w2.cell? ⟨b,1,Y⟩=Z v:=af aD 1;have f1:w2.frozen? ⟨b,1,Y⟩=false:=Lib.frozen_of_heap aD 1;have bD:Hid (Below B w w2/\Lib.OthersKept 5 (Z b) w w2):=(show _/\_ from⟨(an.uM.alloc (by omega) _).grown bU (by simp;omega) (λk hk=>(HO.out.lt k hk).1),(an.Eo.alloc _).grown bU (sq (HO.out.alloc _))⟩);have HKQ:Hid (Kq b w (w2.setCell ⟨b,1,Y⟩ v')):=an.kq.trans (Kq.step HK.out aD (λk hk gj=>(bU.block k (by simp;omega) gj).trans (I0 w1 _ k hk)) (cG.imp id (λe k hk=>by rw[e] at hk;simp at hk;omega))) Er;have jY:Hid (w2.heap[b]?=Z (AI #[Ig (Z ⟨b,0,Y⟩),v] 131 (0,0))):=aD;have jF:Hid (w2.ownsRow B 5 1 v' (bs.length+1) (bs++[O .u8 c])):=sr;obtain⟨g,cap,hv⟩:∃g cap,v'=U (Z ⟨g,0,Y⟩) (bs.length+1) cap:=by
  rcases sr.2 with⟨_,h0⟩|⟨g,cap,cur,hv,_⟩
  .omega
  .exact⟨g,cap,hv⟩
 subst hv;clear sr bU aD c0 c1 an cG;go_wp2_with fail;go_ret;refine⟨rfl,?_,?_⟩
 .exact Lib.BuilderAt.put (T:=131) (e:=5) hB jY.out (bs':=bs++[O .u8 c]) (by simpa using jF.out) (by decide)
 .exact⟨bD.out.1.setCell (p:=⟨b,1,Y⟩) hB _,bD.out.2.setCell ⟨b,1,Y⟩ rfl _,HKQ.out⟩
def bt(n:Int)(m:Nat):Int:=IntKind.u8.wrap (n/2^(8*(m:Int)).toNat)
def cz(n:Int):Nat->List Value
 |0=>[]
 |k+1=>.int .u8 (bt n k)::cz n k
theorem aF(B b nb:Nat)(n:Int)(bs:List Value)(w:World)(h:bY B b bs w)(hnb:nb<=8)(hlen:bs.length<=100000)(qO:B<=w.heap.size) :
 Calls be 124 #[Ig (Z ⟨b,0,Y⟩),O J nb,O J n] w λe w'=>e=sh (Il #[])/\bY B b (bs++cz n nb) w'/\Kp B b w w':=by
 have HI:Hid (bY B b bs w):=h;clear h;go_enter Tryz.func124,Tryz.ntmps124;go_wp2_with fail;go_loopw [6] (λi wr=>∃(k:Nat) (D:List Value),k<=nb/\i=O J ((k:Int)-1)/\D.length+k<=200000/\Hid (D++cz n k=bs++cz n nb)/\Hid (bY B b D wr)/\Hid (Kp B b w wr)) (λi _=>(intOf i+1).toNat)
 case atStart=>exact⟨nb,bs,By _,by go_num,by omega,rfl,HI,Kp.refl _ _ _⟩
 case round=>
  obtain⟨k,D,hk,rfl,hD,HN,HW,HB⟩:=hrel;cases k with
  |zero=>
   have M0:Hid (bY B b (bs++cz n nb) wr):=(show bY _ _ _ _ by rw[<- HN.out,show cz n 0=[] from rfl,List.append_nil];exact HW.out);go_wp2_with fail;simp[Ji,results,Tryz.results124];exact⟨M0.out,HB.out⟩
  |succ m=>
   have e1:(((m+1:Nat):Int)-1)=(m:Int):=by omega
   rw[e1];have hm0:(0:Int)<=(m:Int):=by omega
   have hmul:IntKind.i64.wrap (8*(m:Int))=8*(m:Int):=by rw[IntKind.wrap_i64];omega
   have M1:B<=wr.heap.size:=Ir qO HB.out.size;have HWd:Hid (bY B b D wr.drew):=HW.out;go_wp2_with fail;go_region_held3 (λ_=>True) (trivial) (first
    |(go_at_call 171;refine(mK B b D _ _ HW.out (by omega) M1).mono ?_;rintro e w5 ⟨rfl,uo,jI⟩)
    |(go_at_call 171;refine(mK B b D _ _ HWd.out (by omega) M1).mono ?_;rintro e w5 ⟨rfl,uo,jI⟩))
   have HW6:Hid (bY B b (D++[O .u8 (bt n m)]) w5):=(show bY _ _ _ _ from .inr uo);have iW:Hid (Kp B b w w5):=HB.out.drew.trans jI;have HN6:Hid ((D++[O .u8 (bt n m)])++cz n m=bs++cz n nb):=(show _=_ by rw[<- HN.out,Jf];rfl);clear uo jI;go_wp2_with fail;exact⟨⟨m,D++[O .u8 (bt n m)],by omega,by go_num,by simp;omega,HN6,HW6,iW⟩,by simp[intOf]⟩
theorem su{P:Program}{w W:World}{base n:Nat}{t u ty e:I8}{i:TypeInfo}{v v':Value}{xs:List Value}{s:ByteArray}(ht:P.underlying t=Z (.slice e))(hu:P.underlying u=Z .string)(hi:P.info? e=Z i)(hz:i.zero=Z (O .u8 0))(mL:i.size=1)(XR:i.bytes=1)(hown:w.ownsRow base e 1 v n xs)(h63:n+s.size<=Ii)(hbytes:n+s.size<=140737488355328)(hr:(Builtin.append_ #[t,u] ty #[v,I s]).run P w=.ok v' W)(gY:v'=U Y 0 0↔v=U Y 0 0/\s.size=0):v'.ownBlock=v.ownBlock\/v'.ownBlock=Z w.heap.size:=by
 have hm:n+s.size<=9223372036854775807:=by simp only[Ii] at h63;omega
 have hxl:xs.length=n:=by simpa using hown.1
 rcases hown.2 with⟨rfl,rfl⟩|⟨g,cap,cur,rfl,_,hg,_,_,cJ,_⟩
 .by_cases h0:s.size=0
  .exact .inl (by rw[gY.2 ⟨rfl,h0⟩])
  .rw[run_append_nil_string (P:=P) w t u ty e i (O .u8 0) ht hu hi hz s (by omega) (by omega) (by rw[XR];omega)] at hr
   injection hr with h1 _;exact .inr (by rw[<- h1];rfl)
 .by_cases gG:n+s.size<=cap
  .rw[Lib.run_append_room_string (P:=P) w t u ty e i ht hu hi mL g n cap cur hg s gG (by have:=cJ;omega)] at hr
   injection hr with h1 _;exact .inl (by rw[<- h1];rfl)
  .rw[Lib.run_append_grow_string (P:=P) w t u ty e i (O .u8 0) ht hu hi hz ⟨g,0,Y⟩ n cap xs (by rw[mL];simpa using hxl) (hown.cells (g:=g) rfl) s (by omega) (by omega) (by rw[XR];exact growslice_fits (by omega) (by omega))] at hr
   injection hr with h1 _;exact .inr (by rw[<- h1];rfl)
theorem ni{P:Program}(w:World){ops:Array Oper}{rest:List Oper}{o:Oper}{a:Act}{Q:Exit->Act->World->Prop}(hgd:o.guard=Y)(sl x:Operand)(t u:I8)(ho:o.op=.call { callee:=.builtin .append,args:=#[sl,x],argTypes:=#[t,u] })(base:Nat)(e:I8)(i:TypeInfo)(ht:P.underlying t=Z (.slice e))(hu:P.underlying u=Z .string)(hi:P.info? e=Z i)(hz:i.zero=Z (O .u8 0))(mL:i.size=1)(XR:i.bytes=1)
 (v:Value) (n:Nat) (xs:List Value) (hs:a.eval sl=v) (hown:w.ownsRow base e 1 v n xs) (s:ByteArray) (hx:a.eval x=I s) (h63:n+s.size<=Ii) (hbytes:n+s.size<=140737488355328) (hbase:base<=w.heap.size)
 (h:∀v' w',w'.ownsRow base e 1 v' (n+s.size) (xs++Of s)->w.grownBy w' v.ownBlock->(v'.ownBlock=v.ownBlock\/v'.ownBlock=Z w.heap.size)->wpList P ops Q rest (a.put o.dst v') w'):wpList P ops Q (o::rest) a w:=by
 obtain⟨v',w',hr,h2,h3,h4⟩:=Lib.run_append_own_string (P:=P) w base t u o.type e i ht hu hi hz mL XR v n xs hown s h63 hbytes hbase;have h5:=su ht hu hi hz mL XR hown h63 hbytes hr h4;refine wpList_plain hgd λK hK=>?_;have hgo:K (a.put o.dst v') w':=hK _ _ (h v' w' h2 h3 h5);simp only[Oper.wp,execOp,ho,resolve,invoke,builtin,Sem.run_bind,Sem.run_pure,Result.andThen_ok,List.map_toArray,List.map_cons,List.map_nil,hs,hx,hr];exact hgo
theorem kz(B b:Nat)(bs:List Value)(s:ByteArray)(w:World)(h:bY B b bs w)(hlen:bs.length+s.size<=1000000)(qO:B<=w.heap.size) :
 Calls be 117 #[Ig (Z ⟨b,0,Y⟩),I s] w λe w'=>e=sh (Il #[O J s.size,.nilIface])/\Ab B b (Ig (Z ⟨b,0,Y⟩)) (bs++Of s) w'/\Kp B b w w':=by
 obtain⟨i0,hi,cE,cP,jD⟩:=info_parts Tryz.infoByte;have HC:Hid (Calls be 167 #[Ig (Z ⟨b,0,Y⟩)] w λe w'=>e=sh (Il #[])/\Ab B b (Ig (Z ⟨b,0,Y⟩)) bs w'/\Kp B b w w'):=xS B b bs w h;clear h;go_enter Tryz.func117,Tryz.ntmps117;go_wp2_with fail;refine HC.out.mono ?_;rintro e w1 ⟨rfl,h1,an⟩;obtain⟨hB,v,uh,hown,bE⟩:=h1;have c0:w1.cell? ⟨b,0,Y⟩=Z (Ig (Z ⟨b,0,Y⟩)):=af uh 0;have c1:w1.cell? ⟨b,1,Y⟩=Z v:=af uh 1;have Er:=an.size;have HO:Hid (w1.ownsRow B 5 1 v bs.length bs):=hown;have HK:Hid (w1.heap[b]?=Z (AI #[Ig (Z ⟨b,0,Y⟩),v] 131 (0,0))):=uh;clear hown uh;go_wp2_with (at_builtin;refine ni _ rfl _ _ 127 9 rfl B 5 i0 JK Tryz.underlying9 hi cE cP jD _ bs.length bs rfl HO.out s rfl ?c3 ?c4 ?c5 ?_)
 case c3=>(unfold Ii;omega)
 case c4=>omega
 case c5=>omega
 intro v' w2 sr bU cG;have aB:b<w1.heap.size:=(Ib.1 HK.out).1;have aD:w2.heap[b]?=Z (AI #[Ig (Z ⟨b,0,Y⟩),v] 131 (0,0)):=by
  rw[bU.block b aB (λe=>bE e.symm)];exact HK.out
 have d0:w2.cell? ⟨b,0,Y⟩=Z (Ig (Z ⟨b,0,Y⟩)):=af aD 0;have d1:w2.cell? ⟨b,1,Y⟩=Z v:=af aD 1;have f1:w2.frozen? ⟨b,1,Y⟩=false:=Lib.frozen_of_heap aD 1;have bD:Hid (Below B w w2/\Lib.OthersKept 5 (Z b) w w2):=(show _/\_ from⟨an.uM.grown bU (by omega) (λk hk=>(HO.out.lt k hk).1),an.Eo.grown bU (sq HO.out)⟩);have HKQ:Hid (Kq b w (w2.setCell ⟨b,1,Y⟩ v')):=an.kq.trans (Kq.step HK.out aD (λk hk gj=>bU.block k hk gj) (cG.imp id (λe k hk=>by rw[e] at hk;simp at hk;omega))) Er;have jY:Hid (w2.heap[b]?=Z (AI #[Ig (Z ⟨b,0,Y⟩),v] 131 (0,0))):=aD;have jF:Hid (w2.ownsRow B 5 1 v' (bs++Of s).length (bs++Of s)):=(show World.ownsRow _ _ _ _ _ _ _ by simpa[Lib.strCells_length] using sr);obtain⟨ao,n',cap,hv⟩:∃ao n' cap,v'=U ao n' cap:=by
  rcases sr.2 with⟨hv,_⟩|⟨g,cap,cur,hv,_⟩
  .exact⟨_,_,_,hv⟩
  .exact⟨_,_,_,hv⟩
 subst hv;clear sr bU aD c0 c1 an cG;go_wp2_with fail;go_ret2;refine⟨rfl,?_,?_⟩
 .exact Lib.BuilderAt.put (T:=131) (e:=5) hB jY.out (bs':=bs++Of s) jF.out (by decide)
 .exact⟨bD.out.1.setCell (p:=⟨b,1,Y⟩) hB _,bD.out.2.setCell ⟨b,1,Y⟩ rfl _,HKQ.out⟩
theorem bo(n:Int):∀k,(cz n k).length=k
 |0=>rfl
 |k+1=>by simp[cz,bo n k]
theorem qa(B b:Nat)(bs:List Value)(s:ByteArray)(w:World)(h:bY B b bs w)(hlen:bs.length<=90000)(hs:s.size<=1000)(qO:B<=w.heap.size) :
 Calls be 172 #[Ig (Z ⟨b,0,Y⟩),I s] w λe w'=>e=sh (Il #[])/\bY B b (bs++(cz s.size 1++Of s)) w'/\Kp B b w w':=by
 have HI:Hid (bY B b bs w):=h;clear h;go_enter Tryz.func172,Tryz.ntmps172;go_wp2_with fail;refine(aF B b 1 s.size bs w HI.out (by omega) (by omega) qO).mono ?_;rintro e w1 ⟨rfl,h1,an⟩;have cP:=an.size;go_wp2_with fail;refine(kz B b _ s w1 h1 (by rw[Ij,bo];omega) (by omega)).mono ?_;rintro e w2 ⟨rfl,h2,aD⟩;have M0:Hid (bY B b (bs++(cz s.size 1++Of s)) w2):=(show bY _ _ _ _ by rw[<- Jf];exact .inr h2);have bD:Hid (Kp B b w w2):=an.trans aD;clear h1 an h2 aD;go_wp2_with fail;simp[Ji,results,Tryz.results172];exact⟨M0.out,bD.out⟩
def kG(l:ByteArray):List Value:=cz l.size 1++Of l
def dh(s:ByteArray):List Value:=(fY s).flatMap kG++cz 0 1
theorem bY.alloc{B b:Nat}{bs:List Value}{w:World}(h:bY B b bs w)(o:Obj):bY B b bs (w.alloc o):=by
 have go:∀p,Ab B b p bs w->Ab B b p bs (w.alloc o):=λp ⟨hB,v,hb,ho,bE⟩=>
  ⟨hB,v,(I0 w o b (Ib.1 hb).1).trans hb,ho.alloc o,bE⟩
 rcases h with h|h
 .exact .inl (go _ h)
 .exact .inr (go _ h)
theorem bY.lt{B b:Nat}{bs:List Value}{w:World}(h:bY B b bs w):b<w.heap.size:=by
 rcases h with h|h
 .exact h.lt
 .exact h.lt
theorem Kl(l:ByteArray):(kG l).length=1+l.size:=by
 unfold kG;rw[Ij,bo,Lib.strCells_length]
theorem lr:∀(L:List ByteArray),(∀x∈L,x.size<=30)->(L.flatMap kG).length<=31*L.length
 |[],_=>by simp
 |x::r,h=>by
  have h1:=h x List.mem_cons_self;have h2:=lr r (λy hy=>h y (List.mem_cons_of_mem _ hy));rw[OH,Ij,Kl,List.length_cons];omega
theorem jJ{s:ByteArray}(h:bQ s=0):(fY s).length<=8/\∀x∈fY s,x.size<=30:=by
 rw[uV] at h;split at h
 .omega
 .rename_i h1
  split at h
  .omega
  .rename_i h2
   refine⟨by omega,λx hx=>?_⟩;have h3:(fY s).all aA=true:=by simpa using h1
   have h4:=List.all_eq_true.1 h3 x hx;unfold aA at h4;simp only[Bool.and_eq_true,decide_eq_true_eq] at h4;exact h4.1.2
theorem Kp.alloc{B b:Nat}{w:World}(o:Obj)(hB:B<=w.heap.size):Kp B b w (w.alloc o):=⟨(Ia _ _).alloc hB _,(Lib.OthersKept.refl _ _ _).alloc _,λhb=>⟨λk hk _ _=>I0 w o k hk,.inl (by unfold cB;rw[World.cell?_of_block (w:=w) (I0 w o b hb)])⟩⟩
theorem lZ(B b:Nat)(bs:List Value)(s:ByteArray)(w:World)(hm:ML w)(h:bY B b bs w)(hlen:bs.length<=50000)(hn:bQ s=0)(qO:B<=w.heap.size) :
 Calls be 125 #[Ig (Z ⟨b,0,Y⟩),I s] w λe w'=>e=sh (Il #[])/\bY B b (bs++dh s) w'/\Kp B b w w':=by
 have HI:Hid (bY B b bs w):=h;clear h;by_cases h0:s.size=0
 .have HE:Hid (dh s=cz 0 1):=(show dh s=cz 0 1 by unfold dh fY;rw[if_pos h0];rfl)
  rw[HE.out];have:=cx h0;subst this;clear HE h0 hn;go_enter Tryz.func125,Tryz.ntmps125;go_wp2_with fail;refine(aF B b 1 0 bs w HI.out (by omega) (by omega) qO).mono ?_;rintro e w1 ⟨rfl,h1,an⟩;have tU:Hid (bY B b (bs++cz 0 1) w1):=h1;have aK:Hid (Kp B b w w1):=an;clear h1 an;go_wp2_with fail;simp[Ji,results,Tryz.results125];exact⟨tU.out,aK.out⟩
 .obtain⟨n1,n2⟩:=gr h0
  have bb:s.size<=1000:=by
   unfold bQ at hn;rw[if_neg h0] at hn;split at hn
   .omega
   .split at hn<;>omega
  have hl:fY s=(gH s.data.toList).map mk:=if_neg h0;have Xs:(fY s).length=(gH s.data.toList).length:=by rw[hl,List.length_map]
  have Km:Hid (Calls be 57 #[I s,I ⟨#[46]⟩] w λe w'=>e=sh (U (Z ⟨w.heap.size,0,Y⟩) (fY s).length (fY s).length)/\w'=w.alloc (AI ((fY s).map I).toArray 9)):=(show Calls _ _ _ _ _ by
   have h:=uQ s w hm bb;rw[<- hl,<- Xs] at h;exact h)
  obtain⟨XS,sw⟩:=jJ hn;have HE:Hid (bs++dh s=(bs++(fY s).flatMap kG)++cz 0 1):=(show _=_ by unfold dh;rw[Jf]);rw[HE.out];clear HE hl Xs hm hn h0;generalize fY s=L at *;have aL:=HI.out.lt;go_enter Tryz.func125,Tryz.ntmps125;go_wp2_with fail;refine Km.out.mono ?_;rintro e w1 ⟨rfl,NM⟩;have oU:w1.heap[w.heap.size]?=Z (AI (L.map I).toArray 9 (0,0)):=by rw[NM];exact Ie w _
  have mD:Hid (Kp B b w w1):=(show Kp B b w w1 by rw[NM];exact Kp.alloc _ qO);have tV:Hid (bY B b bs w1):=(show bY B b bs w1 by rw[NM];exact HI.out.alloc _);have hB1:B<=w1.heap.size:=Ir qO mD.out.size;have HC:Hid (∀W,Kp B b w1 W->∀j,j<L.length->W.cell? ⟨w.heap.size,j,Y⟩=Z (I (L.getD j If))):=λW hW j hj=>by
   have iQ:W.heap[w.heap.size]?=Z (AI (L.map I).toArray 9 (0,0)):=hW.Eo _ _ oU (by simp;omega) (by simp);rw[af iQ];simp[Io,hj]
  have aeG:Hid (∀j,(L.getD j If).size<=30):=λj=>by
   by_cases hj:j<L.length
   .rw[show L.getD j If=L[j] by simp[Io,List.getElem?_eq_getElem hj]]
    exact sw _ (List.getElem_mem hj)
   .rw[show L.getD j If=If by simp[Io,List.getElem?_eq_none (by omega:L.length<=j)]];decide
  have Es:Hid (∀k,((L.take k).flatMap kG).length<=248):=λk=>by
   refine Ir (lr (L.take k) λx hx=>sw x (List.mem_of_mem_take hx)) ?_;rw[List.length_take];omega
  have o6:Hid (∀k,k<L.length->(bs++(L.take k).flatMap kG)++(cz (L.getD k If).size 1++Of (L.getD k If))=bs++(L.take (k+1)).flatMap kG):=λk hk=>by
   rw[List.take_succ_eq_append_getElem hk,List.flatMap_append,Jf];simp[kG,Io,hk]
  clear oU NM Km sw;generalize Kn:L.length=n at *;have tW:Hid (L.length=n):=Kn;clear Kn;go_wp2_with fail;go_loopw [11] (λi wr=>∃k:Nat,k<=n/\i=O J k/\Hid (bY B b (bs++(L.take k).flatMap kG) wr)/\Hid (Kp B b w1 wr)) (λi _=>n-(intOf i).toNat)
  case atStart=>exact⟨0,Nat.zero_le _,rfl,by simpa using tV,Kp.refl _ _ _⟩
  case round=>
   obtain⟨k,hk,rfl,HW,NN⟩:=hrel;have M1:B<=wr.heap.size:=Ir hB1 NN.out.size;by_cases aB:k<n
   .have hc:=HC.out wr NN.out k aB
    have akF:=aeG.out k;have qP:=Es.out k;have xN:=o6.out k aB;have Xt:Hid ((bs++(L.take k).flatMap kG)++(cz (L.getD k If).size 1++Of (L.getD k If))=bs++(L.take (k+1)).flatMap kG):=xN;clear xN;generalize L.getD k If=x at *;go_wp2_with fail;refine(qa B b _ x wr HW.out (by rw[Ij];omega) (by omega) M1).mono ?_;rintro e w2 ⟨rfl,h2,aD⟩;have M0:Hid (bY B b (bs++(L.take (k+1)).flatMap kG) w2):=(show bY _ _ _ _ by rw[<- Xt.out];exact h2);have jY:Hid (Kp B b w1 w2):=NN.out.trans aD;clear h2 aD;go_wp2_with fail;exact⟨⟨k+1,by omega,by go_num,M0,jY⟩,by simp[intOf];omega⟩
   .have gj:k=n:=by omega
    have HWF:Hid (bY B b (bs++L.flatMap kG) wr):=(show bY _ _ _ _ by
     have h:=HW.out
     rwa [IW (by rw[tW.out];omega)] at h)
    have qP:=Es.out n;rw[IW (by rw[tW.out];exact By _)] at qP;go_wp2_with fail;refine(aF B b 1 0 _ wr HWF.out (by omega) (by rw[Ij];omega) M1).mono ?_;rintro e w2 ⟨rfl,h2,aD⟩;have M0:Hid (bY B b ((bs++L.flatMap kG)++cz 0 1) w2):=h2;have jY:Hid (Kp B b w w2):=(mD.out.trans NN.out).trans aD;clear h2 aD;go_wp2_with fail;simp[Ji,results,Tryz.results125];exact⟨by simpa using M0.out,jY.out⟩
def o7(ay cut:Bool):Int:=(if ay then 128 else 0)+(if cut then 2 else 0)
abbrev qQ(id code al:Int)(ay cut:Bool)(name:ByteArray):Value:=.agg #[O J id,AT ay,AT cut,O J code,I name,O J al,U Y 0 0]
theorem ma(id code al:Int)(ay cut:Bool)(name:ByteArray)(w:World) :
 Calls be 100 #[qQ id code al ay cut name] w λe w'=>e=sh (O J (o7 ay cut))/\∃o,w'=w.alloc o:=by
 cases ay<;>cases cut
 all_goals
  go_enter Tryz.func100,Tryz.ntmps100;go_wp2_with fail;go_ret;exact⟨rfl,_,rfl⟩
def Et(id code al:Int)(ay cut:Bool)(name:ByteArray):List Value:=
 cz id 2++(cz (o7 ay cut) 1++(cz code 1++(cz 1 2++(cz 0 2++(cz 0 2++(cz 0 2++(dh name++(cz al 2++cz 1 2))))))))
theorem ML.kp{B b:Nat}{w w':World}(h:ML w)(hk:Kp B b w w')(hB:0<B):ML w':=by
 obtain⟨h1,m,h2⟩:=h;exact⟨Iu h1 hk.size,m,(hk.uM.cell (p:=⟨0,0,Y⟩) hB).trans h2⟩
theorem wv(B b:Nat)(bs:List Value)(id code al:Int)(ay cut:Bool)(name:ByteArray)(w:World)(hm:ML w)(h:bY B b bs w)(hlen:bs.length<=1000)(hn:bQ name=0)(qO:B<=w.heap.size)(kO:0<B) :
 Calls be 74 #[Ig (Z ⟨b,0,Y⟩),qQ id code al ay cut name] w λe w'=>e=sh (Il #[])/\bY B b (bs++Et id code al ay cut name) w'/\Kp B b w w':=by
 have HI:Hid (bY B b bs w):=h;clear h;have aL:=HI.out.lt;obtain⟨XS,sw⟩:=jJ hn;have hwn:(dh name).length<=249:=by
  unfold dh;rw[Ij,bo];have:=lr (fY name) sw;omega
 clear XS sw;go_enter Tryz.func74,Tryz.ntmps74;go_wp2_with fail;obtain⟨w0,du⟩:∃w0,w0=w.alloc (AI #[O J id,AT ay,AT cut,O J code,I name,O J al,U Y 0 0] 43):=⟨_,rfl⟩;rw[<- du];have eo:w0.heap[w.heap.size]?=Z (AI #[O J id,AT ay,AT cut,O J code,I name,O J al,U Y 0 0] 43 (0,0)):=by rw[du];exact Ie w _
 have uW:Hid (Kp B b w w0):=(show Kp B b w w0 by rw[du];exact Kp.alloc _ qO);have GI:Hid (bY B b bs w0):=(show bY B b bs w0 by rw[du];exact HI.out.alloc _);have uX:Hid (ML w0):=(show ML w0 from hm.kp uW.out kO);have HG:Hid (∀W,Kp B b w0 W->W.cell? ⟨w.heap.size,0,Y⟩=Z (O J id)/\W.cell? ⟨w.heap.size,1,Y⟩=Z (AT ay)/\W.cell? ⟨w.heap.size,2,Y⟩=Z (AT cut)/\W.cell? ⟨w.heap.size,3,Y⟩=Z (O J code)/\W.cell? ⟨w.heap.size,4,Y⟩=Z (I name)/\W.cell? ⟨w.heap.size,5,Y⟩=Z (O J al)/\W.cell? ⟨w.heap.size,6,Y⟩=Z (U Y 0 0)):=λW hW=>by
  have hg:W.heap[w.heap.size]?=Z (AI #[O J id,AT ay,AT cut,O J code,I name,O J al,U Y 0 0] 43 (0,0)):=hW.Eo _ _ eo (by simp;omega) (by simp);exact⟨af hg 0,af hg 1,af hg 2,af hg 3,af hg 4,af hg 5,af hg 6⟩
 have cE:B<=w0.heap.size:=Ir qO uW.out.size;clear eo du hm;refine(aF B b 2 id bs w0 GI.out (by omega) (by omega) (Ir cE (Kp.size (Kp.refl B b w0)))).mono ?_;rintro e w1 ⟨rfl,h1,an⟩;have mD:Hid (Kp B b w0 w1):=Kp.trans (Kp.refl B b w0) an;have l1:(bs++cz id 2).length<=1002:=by rw[Ij,bo];omega
 obtain⟨D1,TO⟩:∃D,D=bs++cz id 2:=⟨_,rfl⟩;rw[<- TO] at h1 l1;have iR:Hid (D1=bs++cz id 2):=TO;have tV:Hid (bY B b D1 w1):=h1;clear TO h1 an;obtain⟨c0,c1,c2,c3,c4,c5,c6⟩:=HG.out w1 mD.out;go_wp2_with fail;refine(ma id code al ay cut name _).mono ?_;rintro e wf ⟨rfl,o,M3⟩;have HIf:Hid (bY B b D1 wf):=(show bY B b D1 wf by rw[M3];exact bY.alloc tV.out _);have Sa:Hid (Kp B b w0 wf):=(show Kp B b w0 wf by rw[M3];exact Kp.trans mD.out (Kp.alloc _ (Ir cE (Kp.size mD.out))));clear M3;obtain⟨x0,x1,x2,x3,x4,x5,x6⟩:=HG.out wf Sa.out;clear c0 c1 c2 c3 c4 c5 c6;have c0:=x0;have c1:=x1;have c2:=x2;have c3:=x3;have c4:=x4;have c5:=x5;have c6:=x6;clear x0 x1 x2 x3 x4 x5 x6;go_wp2_with fail;refine(aF B b 1 (o7 ay cut) D1 wf HIf.out (by omega) (by omega) (Ir cE (Kp.size Sa.out))).mono ?_;rintro e w2 ⟨rfl,h2,aD⟩;have jY:Hid (Kp B b w0 w2):=Kp.trans Sa.out aD;have l2:(D1++cz (o7 ay cut) 1).length<=1003:=by rw[Ij,bo];omega
 obtain⟨D2,M4⟩:∃D,D=D1++cz (o7 ay cut) 1:=⟨_,rfl⟩;rw[<- M4] at h2 l2;have kP:Hid (D2=D1++cz (o7 ay cut) 1):=M4;have uY:Hid (bY B b D2 w2):=h2;clear M4 h2 aD c0 c1 c2 c3 c4 c5 c6;obtain⟨c0,c1,c2,c3,c4,c5,c6⟩:=HG.out w2 jY.out;go_wp2_with fail;refine(aF B b 1 code D2 w2 uY.out (by omega) (by omega) (Ir cE (Kp.size jY.out))).mono ?_;rintro e w3 ⟨rfl,h3,bn⟩;have nF:Hid (Kp B b w0 w3):=Kp.trans jY.out bn;have l3:(D2++cz code 1).length<=1004:=by rw[Ij,bo];omega
 obtain⟨D3,TP⟩:∃D,D=D2++cz code 1:=⟨_,rfl⟩;rw[<- TP] at h3 l3;have Eu:Hid (D3=D2++cz code 1):=TP;have NO:Hid (bY B b D3 w3):=h3;clear TP h3 bn c0 c1 c2 c3 c4 c5 c6;obtain⟨c0,c1,c2,c3,c4,c5,c6⟩:=HG.out w3 nF.out;go_wp2_with fail;refine(aF B b 2 1 D3 w3 NO.out (by omega) (by omega) (Ir cE (Kp.size nF.out))).mono ?_;rintro e w4 ⟨rfl,h4,e9⟩;have tX:Hid (Kp B b w0 w4):=Kp.trans nF.out e9;have l4:(D3++cz 1 2).length<=1006:=by rw[Ij,bo];omega
 obtain⟨D4,TQ⟩:∃D,D=D3++cz 1 2:=⟨_,rfl⟩;rw[<- TQ] at h4 l4;have Sb:Hid (D4=D3++cz 1 2):=TQ;have NP:Hid (bY B b D4 w4):=h4;clear TQ h4 e9 c0 c1 c2 c3 c4 c5 c6;obtain⟨c0,c1,c2,c3,c4,c5,c6⟩:=HG.out w4 tX.out;go_wp2_with fail;refine(aF B b 2 0 D4 w4 NP.out (by omega) (by omega) (Ir cE (Kp.size tX.out))).mono ?_;rintro e w5 ⟨rfl,h5,jI⟩;have AG:Hid (Kp B b w0 w5):=Kp.trans tX.out jI;have l5:(D4++cz 0 2).length<=1008:=by rw[Ij,bo];omega
 obtain⟨D5,TR⟩:∃D,D=D4++cz 0 2:=⟨_,rfl⟩;rw[<- TR] at h5 l5;have TS:Hid (D5=D4++cz 0 2):=TR;have TT:Hid (bY B b D5 w5):=h5;clear TR h5 jI c0 c1 c2 c3 c4 c5 c6;obtain⟨c0,c1,c2,c3,c4,c5,c6⟩:=HG.out w5 AG.out;go_wp2_with fail;refine(aF B b 2 0 D5 w5 TT.out (by omega) (by omega) (Ir cE (Kp.size AG.out))).mono ?_;rintro e w6 ⟨rfl,h6,gK⟩;have xt:Hid (Kp B b w0 w6):=Kp.trans AG.out gK;have l6:(D5++cz 0 2).length<=1010:=by rw[Ij,bo];omega
 obtain⟨D6,TU⟩:∃D,D=D5++cz 0 2:=⟨_,rfl⟩;rw[<- TU] at h6 l6;have Sc:Hid (D6=D5++cz 0 2):=TU;have TV:Hid (bY B b D6 w6):=h6;clear TU h6 gK c0 c1 c2 c3 c4 c5 c6;obtain⟨c0,c1,c2,c3,c4,c5,c6⟩:=HG.out w6 xt.out;go_wp2_with fail;refine(aF B b 2 0 D6 w6 TV.out (by omega) (by omega) (Ir cE (Kp.size xt.out))).mono ?_;rintro e w7 ⟨rfl,h7,rF⟩;have xT:Hid (Kp B b w0 w7):=Kp.trans xt.out rF;have l7:(D6++cz 0 2).length<=1012:=by rw[Ij,bo];omega
 obtain⟨D7,TW⟩:∃D,D=D6++cz 0 2:=⟨_,rfl⟩;rw[<- TW] at h7 l7;have HD7:Hid (D7=D6++cz 0 2):=TW;have HI7:Hid (bY B b D7 w7):=h7;clear TW h7 rF c0 c1 c2 c3 c4 c5 c6;obtain⟨c0,c1,c2,c3,c4,c5,c6⟩:=HG.out w7 xT.out;go_wp2_with fail;refine(lZ B b D7 name w7 (ML.kp uX.out xT.out kO) HI7.out (by omega) hn (Ir cE (Kp.size xT.out))).mono ?_;rintro e w8 ⟨rfl,h8,xU⟩;have GJ:Hid (Kp B b w0 w8):=Kp.trans xT.out xU;have l8:(D7++dh name).length<=1261:=by rw[Ij];omega
 obtain⟨D8,Ko⟩:∃D,D=D7++dh name:=⟨_,rfl⟩;rw[<- Ko] at h8 l8;have HD8:Hid (D8=D7++dh name):=Ko;have Xu:Hid (bY B b D8 w8):=h8;clear Ko h8 xU c0 c1 c2 c3 c4 c5 c6;obtain⟨c0,c1,c2,c3,c4,c5,c6⟩:=HG.out w8 GJ.out;go_wp2_with fail;refine(aF B b 2 al D8 w8 Xu.out (by omega) (by omega) (Ir cE (Kp.size GJ.out))).mono ?_;rintro e w9 ⟨rfl,h9,tY⟩;have Sd:Hid (Kp B b w0 w9):=Kp.trans GJ.out tY;have l9:(D8++cz al 2).length<=1263:=by rw[Ij,bo];omega
 obtain⟨D9,TZ⟩:∃D,D=D8++cz al 2:=⟨_,rfl⟩;rw[<- TZ] at h9 l9;have HD9:Hid (D9=D8++cz al 2):=TZ;have HI9:Hid (bY B b D9 w9):=h9;clear TZ h9 tY c0 c1 c2 c3 c4 c5 c6;obtain⟨c0,c1,c2,c3,c4,c5,c6⟩:=HG.out w9 Sd.out;go_wp2_with fail;refine(aF B b 2 1 D9 w9 HI9.out (by omega) (by omega) (Ir cE (Kp.size Sd.out))).mono ?_;rintro e w10 ⟨rfl,h10,lx⟩;have Kr:Hid (Kp B b w0 w10):=Kp.trans Sd.out lx;have l10:(D9++cz 1 2).length<=1265:=by rw[Ij,bo];omega
 obtain⟨D10,AH⟩:∃D,D=D9++cz 1 2:=⟨_,rfl⟩;rw[<- AH] at h10 l10;have NQ:Hid (D10=D9++cz 1 2):=AH;have NR:Hid (bY B b D10 w10):=h10;clear AH h10 lx c0 c1 c2 c3 c4 c5 c6;obtain⟨c0,c1,c2,c3,c4,c5,c6⟩:=HG.out w10 Kr.out;go_wp2_with fail;have HF:Hid (D10=bs++Et id code al ay cut name):=(show _=_ by rw[NQ.out,HD9.out,HD8.out,HD7.out,Sc.out,TS.out,Sb.out,Eu.out,kP.out,iR.out];simp[Et]);have HIF:Hid (bY B b (bs++Et id code al ay cut name) w10):=(show bY _ _ _ _ by rw[<- HF.out];exact NR.out);have HKF:Hid (Kp B b w w10):=uW.out.trans Kr.out;go_loopw [44] (λi wr=>i=O J 0/\wr=w10) (λ_ _=>0)
 case atStart=>exact⟨rfl,rfl⟩
 case round=>
  obtain⟨rfl,Se⟩:=hrel;subst Se;go_wp2_with fail;simp[Ji,results,Tryz.results74];exact⟨HIF.out,HKF.out⟩
theorem Tryz.cellsByte:Tryz.prog.cellsOf 5=1:=by kernel_rfl
theorem sx(B b:Nat)(l:List UInt8)(w:World)(h:bY B b (I1 l) w)(h0:l≠[]) :
 Calls be 75 #[Ig (Z ⟨b,0,Y⟩)] w λe w'=>e=sh (I ⟨l.toArray⟩)/\Below B w w':=by
 obtain⟨p,hB,v,uh,hown,bE⟩:∃p,Ab B b p (I1 l) w:=by
  rcases h with h|h
  .exact⟨_,h⟩
  .exact⟨_,h⟩
 have tZ:l.length≠0:=by simpa using h0
 rw[Lib.byteCells_length] at hown;obtain⟨g,cap,cur,rfl,dN,hg,fa,dO,cJ,aV⟩:∃g cap cur,v=U (Z ⟨g,0,Y⟩) l.length cap/\B<=g/\w.heap[g]?=Z (AI cur 5 (0,0))/\l.length<=cap/\cap<=Ii/\cur.size=cap*1/\cur.toList.take (l.length*1)=I1 l:=by
  rcases hown.2 with⟨_,hz⟩|⟨g,cap,cur,hv,r⟩
  .exact absurd hz tZ
  .exact⟨g,cap,cur,hv,r⟩
 have c1:w.drew.cell? ⟨b,1,Y⟩=Z (U (Z ⟨g,0,Y⟩) l.length cap):=by
  have:w.drew.heap[b]?=Z (AI #[p,U (Z ⟨g,0,Y⟩) l.length cap] 131 (0,0)):=uh
  rw[Lib.cell_of_heap this];rfl
 have hSD:(Builtin.unsafeSliceData_ #[127] 186 #[U (Z ⟨g,0,Y⟩) l.length cap]).run be w.drew=.ok (Ig (Z ⟨g,0,Y⟩)) w.drew:=
  Lib.run_unsafeSliceData_row _ _ _ _ _ _ (by omega)
 have hUS:(Builtin.unsafeString_ #[186,3] 9 #[Ig (Z ⟨g,0,Y⟩),O J l.length]).run be w.drew=.ok (I ⟨l.toArray⟩) (w.drew.freeze ⟨g,0,Y⟩ l.length):=by
  refine Lib.run_unsafeString_row w.drew 186 3 9 5 Tryz.underlying186 Tryz.cellsByte g cur.size (by have mF:w.drew.heap[g]?=Z (AI cur 5 (0,0)):=hg;simp[World.shape?,mF]) l h0 (by omega) (by unfold Ii at dO;omega) ?_;intro j x hx;have:=hown.cells (g:=g) rfl j (O .u8 x.toNat) (by simp[I1,hx]);exact this
 have mixed:Tryz.prog.follows .mixedOrders=true:=by kernel_rfl
 go_enter Tryz.func75,Tryz.ntmps75;go_wp2_with fail;go_region_o
 all_goals (go_wp2;go_ret;exact⟨rfl,Lib.below_freeze (Below.drew (Ia B w)) (p:=⟨g,0,Y⟩) dN _⟩)
def fe(n:Int):Nat->List UInt8
 |0=>[]
 |k+1=>(bt n k).toNat.toUInt8::fe n k
theorem Ks(n:Int)(k:Nat):0<=bt n k/\bt n k<256:=by
 unfold bt;generalize n/2^(8*(k:Int)).toNat=x;rw[IntKind.wrap_u8];omega
theorem eQ(n:Int):∀k,cz n k=I1 (fe n k)
 |0=>rfl
 |k+1=>by
  have h:=Ks n k;rw[cz,eQ n k,fe];simp[I1];omega
def jK(l:ByteArray):List UInt8:=fe l.size 1++l.data.toList
def cH(s:ByteArray):List UInt8:=(fY s).flatMap jK++fe 0 1
def iF(id code al:Int)(ay cut:Bool)(name:ByteArray):List UInt8:=
 fe id 2++(fe (o7 ay cut) 1++(fe code 1++(fe 1 2++(fe 0 2++(fe 0 2++(fe 0 2++(cH name++(fe al 2++fe 1 2))))))))
theorem eR(a b:List UInt8):I1 (a++b)=I1 a++I1 b:=by simp[I1]
theorem AJ(l:ByteArray):kG l=I1 (jK l):=by
 unfold kG jK;rw[eR,eQ];rfl
theorem sy:∀(L:List ByteArray),L.flatMap kG=I1 (L.flatMap jK)
 |[]=>rfl
 |x::r=>by rw[OH,OH,eR,sy r,AJ]
theorem gL(s:ByteArray):dh s=I1 (cH s):=by
 unfold dh cH;rw[eR,sy,eQ]
theorem AK(id code al:Int)(ay cut:Bool)(name:ByteArray):Et id code al ay cut name=I1 (iF id code al ay cut name):=by
 unfold Et iF;simp only[eR,eQ,gL]
theorem Kt(id code al:Int)(ay cut:Bool)(name:ByteArray):iF id code al ay cut name≠[]:=by
 unfold iF;simp[fe]
theorem wy(id code al:Int)(ay cut:Bool)(name:ByteArray)(w:World)(hm:ML w)(hn:bQ name=0) :
 Calls be 29 #[qQ id code al ay cut name] w λe w'=>e=sh (I ⟨(iF id code al ay cut name).toArray⟩)/\Below w.heap.size w w':=by
 go_enter Tryz.func29,Tryz.ntmps29;go_wp2_with fail;obtain⟨w0,du⟩:∃w0,w0=(w.alloc (AI #[O J id,AT ay,AT cut,O J code,I name,O J al,U Y 0 0] 43)).alloc (AI #[Ig Y,U Y 0 0] 131):=⟨_,rfl⟩;rw[<- du];have bb:w0.heap.size=w.heap.size+2:=by rw[du];simp
 have Cs:w0.heap[w.heap.size+1]?=Z (AI #[Ig Y,U Y 0 0] 131 (0,0)):=by
  have h:=Ie (w.alloc (AI #[O J id,AT ay,AT cut,O J code,I name,O J al,U Y 0 0] 43)) (AI #[Ig Y,U Y 0 0] 131);rw[du];simpa using h
 have dB:Hid (Below w.heap.size w w0):=(show Below _ _ _ by rw[du];exact((Ia _ _).alloc (By _) _).alloc (by simp) _);have GI:Hid (bY (w.heap.size+1) (w.heap.size+1) [] w0):=(show bY _ _ _ _ from .inl ⟨By _,U Y 0 0,Cs,World.ownsRow_nil w0 _ 5 1,by simp[I2]⟩);have uX:Hid (ML w0):=(show ML w0 from hm.below dB.out);clear du Cs hm;refine(wv (w.heap.size+1) (w.heap.size+1) [] id code al ay cut name w0 uX.out GI.out (by simp) hn (by omega) (by omega)).mono ?_;rintro e w1 ⟨rfl,h1,an⟩;have tV:Hid (bY (w.heap.size+1) (w.heap.size+1) (I1 (iF id code al ay cut name)) w1):=(show bY _ _ _ _ by rw[<- AK];simpa using h1);have aK:Hid (Below w.heap.size w w1):=dB.out.trans (an.uM.mono (by omega));have cP:=aK.out.size;have jD:=an.size;clear h1 an;go_wp2_with fail;refine(sx (w.heap.size+1) (w.heap.size+1) _ w1 tV.out (Kt _ _ _ _ _ _)).mono ?_;rintro e w2 ⟨rfl,aD⟩;have bD:Hid (Below w.heap.size w w2):=aK.out.trans (aD.mono (by omega));clear aD;go_wp2_with fail;go_ret;exact⟨rfl,bD.out⟩
theorem bA(n:Int):∀k,(fe n k).length=k
 |0=>rfl
 |k+1=>by simp[fe,bA n k]
theorem NT{n m:Int}{j:Nat}(hm:m=n/2^(8*j)):m%256=(((bt n j).toNat.toUInt8).toNat:Int):=by
 have hr:=Ks n j;have h2:bt n j=m%256:=by
  unfold bt;rw[show(8*(j:Int)).toNat=8*j by omega,<- hm,IntKind.wrap_u8]
 rw[h2];have h3:(m%256).toNat<256:=by omega
 have h4:((m%256).toNat.toUInt8).toNat=(m%256).toNat:=by
  simp[Nat.toUInt8];omega
 rw[h4];omega
end Go.Proofs.YtfidjlcdlakceaaGreatDoor
