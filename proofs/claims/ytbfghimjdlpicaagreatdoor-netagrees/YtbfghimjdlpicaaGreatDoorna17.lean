import Derived.Test.YtbfghimjdlpicaaGreatDoorna14
set_option maxHeartbeats 25600000
set_option maxRecDepth 100000
open Go.Value renaming slice→J,func→IQ,int→U,string→Y,tuple→Ip,ownBlock→JF
open Option renaming none→be,some→AI
open Go.Ending renaming returned→AT
open Go.IntKind renaming i64→O
open List renaming mem_of_mem_take→Jf,take_of_length_le→Ji,getD→Ir,getElem?_eq_getElem→Ic,any_eq_true→Qq,pairwise_iff_getElem→Jb
open Go.Obj renaming cells→By
open Go renaming heap_alloc_new→Ij,redrawn→Im,wp_region_quiet_below→IA,ownsRow_setCell_other→Iv,below_regrown→ON,cell_regrown→Ih
open Go.Sort renaming grow→Ig
open Array renaming getElem?_eq_some_iff→BY
namespace Go.Proofs.YtbfghimjdlpicaaGreatDoor
namespace Wh
open Go.RowKit
theorem mZ{a b:List bT}(nc:a.length<=20)(lH:b.length<=20)(k:Nat):(dV a b k).length<=40:=by
 unfold dV;split
 .simp
 .split
  .omega
  .have:=dj b a;omega
structure Da(w:World)(pb:Nat)(a b:List bT)(k:Nat)(l:List bT)(pk:Option Addr)(ck:Nat):Prop where
 cell:w.cell? ⟨pb,k,be⟩=AI (J pk l.length ck)
 row:l=[]\/∃b off,pk=AI ⟨b,off,be⟩/\b<w.heap.size/\Row w b off l
 MM:∀m∈l,(m).ok
 len:l.length<=20
 Db:(dV a b k).length<=20
 vi:aT (dV a b k)
 Dc:∀m∈dV a b k,(m).ok
 step:dV a b (k+1)=aB (dV a b k) l
theorem qt{a b:List bT}{va vb:Value}{pb:Nat}{w:World}(ha:Sl w va a)(hb:Sl w vb b)(hc0:w.cell? ⟨pb,0,be⟩=AI va)(hc1:w.cell? ⟨pb,1,be⟩=AI vb)(nc:a.length<=20)(lH:b.length<=20)(ra:aT a)(k:Nat)(hk:k<2) :
 ∃l pk ck,Da w pb a b k l pk ck:=by
 obtain⟨pa,ca,rfl,MN,ha⟩:=ha;obtain⟨pv,cb,rfl,Rc,hb⟩:=hb;have ib:k=0\/k=1:=by omega
 rcases ib with rfl|rfl
 .exact⟨a,pa,ca,hc0,ha,dI MN,nc,by simp[dV],by simp[dV],by simp[dV],(ju a ra).symm⟩
 .exact⟨b,pv,cb,hc1,hb,dI Rc,lH,nc,ra,dI MN,rfl⟩
theorem jv(a b:List bT)(va vb:Value)(pb cap:Nat)(w:World)(ha:Sl w va a)(hb:Sl w vb b)(hpb:pb<w.heap.size)(hc0:w.cell? ⟨pb,0,be⟩=AI va)(hc1:w.cell? ⟨pb,1,be⟩=AI vb)(nc:a.length<=20)(lH:b.length<=20)(ra:aT a) :
 Calls Tryz.prog 230 #[IQ (.func 111) #[] #[],IQ (.func 229) #[] #[],J (AI ⟨pb,0,be⟩) 2 cap] w λe w'=>∃v',e=AT v'/\Own w.heap.size w' v' (aB a b)/\Below w.heap.size w w':=by
 have HK:Hid (∀k,k<2->∃l pk ck,Da w pb a b k l pk ck):=λk hk=>qt ha hb hc0 hc1 nc lH ra k hk;have xh:Hid (∀k,(dV a b k).length<=40):=mZ nc lH;clear ha hb hc0 hc1 nc lH ra;go_enter Tryz.func230,Tryz.ntmps230;go_wp2_with fail;go_loopw [7,16] (λkn i w'=>∃k:Nat,k<=2/\i=U O k/\Below w.heap.size w w'/\Hid (Own w.heap.size w' kn (dV a b k))) (λ_ i _=>2-(intOf i).toNat)
 case atStart=>exact⟨0,by omega,rfl,Below.refl _ _,cv _ _⟩
 case round=>
  obtain⟨k,hk,rfl,aO,HO⟩:=hrel;obtain⟨cK,kj⟩:=cd aO;have cB:=aO.size;by_cases ji:k<2
  .obtain⟨l,pk,ck,qu⟩:=HK.out k ji
   have qv:Hid (Da w pb a b k l pk ck):=qu;have gO:=qu.cell;clear qu;generalize tt:l.length=nl at *;have lB:Hid (l.length=nl):=tt;clear tt;have MO:nl<=20:=by have:=qv.out.len;have:=lB.out;omega
   have Wv:(k:Int)<2:=by omega
   go_wp2_with fail;go_loopw [7,22] (λkn j w'=>∃q:Nat,q<=nl/\j=U O q/\Below w.heap.size w w'/\Hid (Own w.heap.size w' kn (aB (dV a b k) (l.take q)))) (λ_ j _=>nl-(intOf j).toNat)
   case atStart=>exact⟨0,Nat.zero_le _,rfl,aO,HO⟩
   case round=>
    clear cK kj cB aO HO gO;obtain⟨q,hq,rfl,aO,HO⟩:=hrel;obtain⟨cK,kj⟩:=cd aO;have cB:=aO.size;by_cases aX:q<nl
    .obtain⟨b2,off,Dd,Re,cL⟩:∃nf off,pk=AI ⟨nf,off,be⟩/\nf<w.heap.size/\Row w nf off l:=by
      rcases qv.out.row with h|h
      .have:=lB.out;rw[h] at this;simp at this;omega
      .exact h
     subst Dd;obtain⟨c0,c1,c2,c3,c4,c5⟩:=cL q (by rw[lB.out];exact aX);clear cL;have HJ:Hid (aB (dV a b k) (l.take (q+1))=aN (aB (dV a b k) (l.take q)) (l.getD q dm)):=gd (dV a b k) l q (by rw[lB.out];exact aX);have HR:Hid (aT (aB (dV a b k) (l.take q))):=dz _ _ qv.out.vi;have RW:Hid (∀j,((aB (dV a b k) (l.take q)).getD j dm).ok):=cD (iP _ _ qv.out.Dc (λx hx=>qv.out.MM x (Jf hx)));have HL:Hid ((aB (dV a b k) (l.take q)).length<=40):=by
      have h1:=dj (l.take q) (dV a b k);have h2:(l.take q).length<=q:=List.length_take_le _ _;have h3:=qv.out.Db;show(aB (dV a b k) (l.take q)).length<=40;omega
     generalize l.getD q dm=m at *;generalize aB (dV a b k) (l.take q)=known at *;have GX:known.length<=40:=HL.out;obtain⟨W1,db,aC,fO,cI⟩:=bV wr #[Y m.node,U O m.x,U O m.y,U O m.z,U O m.h,U O m.s] 116;have mT:Hid (Own w.heap.size W1 u7 known):=HO.out.below aC;have HF:Hid (Calls Tryz.prog 110 #[u7,.agg #[Y m.node,U O m.x,U O m.y,U O m.z,U O m.h,U O m.s],IQ (.func 111) #[] #[]] W1 λe w'=>∃(p:Nat) (f:Bool),e=AT (Ip #[U O p,.bool f])/\Below W1.heap.size W1 w'/\At known m p f):=
      gf known u7 m W1 (mT.out.sl RW.out) HL.out HR.out
     have aZ:Hid (Below w.heap.size w W1):=aO.trans (aC.mono cB);have HT:Hid (As W1 wr.heap.size 0 m):=⟨ae cI 0,ae cI 1,ae cI 2,ae cI 3,ae cI 4,ae cI 5⟩;have pD:Hid _:=db;have xe:w.heap.size<=W1.heap.size:=by omega
     clear cI aC HO HL HR db;go_wp2_with fail;rw[<- pD.out];refine HF.out.mono ?_;rintro e w2 ⟨p,f,rfl,aL,cA⟩;have fm:Hid _:=cA;have Ww:=cA.le;have MP:=aL.size;have ja:Hid (Own _ _ _ _):=mT.out.below aL;have bA:Hid _:=aZ.out.trans (aL.mono xe);have zn:Hid (As w2 wr.heap.size 0 m):=HT.out.eq (λo=>aL.cell (p:=⟨wr.heap.size,o,be⟩) (by show wr.heap.size<W1.heap.size;omega));obtain⟨t0,t1,t2,t3,t4,t5⟩:w2.cell? ⟨wr.heap.size,0,be⟩=AI (Y m.node)/\w2.cell? ⟨wr.heap.size,1,be⟩=AI (U O m.x)/\w2.cell? ⟨wr.heap.size,2,be⟩=AI (U O m.y)/\w2.cell? ⟨wr.heap.size,3,be⟩=AI (U O m.z)/\w2.cell? ⟨wr.heap.size,4,be⟩=AI (U O m.h)/\w2.cell? ⟨wr.heap.size,5,be⟩=AI (U O m.s):=zn.out;have jb:w.heap.size<=w2.heap.size:=by omega
     have De:wr.heap.size<w2.heap.size:=by omega
     clear cA HF cK kj c0 c1 c2 c3 c4 c5 aL mT aZ HT;cases f
     .have aP:Hid (u7.ownBlock≠AI w2.heap.size):=λe=>by have:=ja.out.lt _ e;omega
      have eG:Hid (Own w.heap.size (w2.alloc (By #[Y m.node,U O m.x,U O m.y,U O m.z,U O m.h,U O m.s] 116)) u7 known):=ja.out.below ((Below.refl _ _).alloc (Nat.le_refl _) _);have rK:Hid ((w2.alloc (By #[Y m.node,U O m.x,U O m.y,U O m.z,U O m.h,U O m.s] 116)).heap[w2.heap.size]?=AI (By m.cs.toArray 116 (0,0))):=Ij w2 _;go_wp2_with (go_at_call 112;refine(gh w.heap.size p w2.heap.size u7 known m _ eG.out fm.out.le (by omega) (by simp;omega) rK.out aP.out).mono ?_;rintro e w4 ⟨v',rfl,g1,g2⟩);go_roundw
      case rel=>
       have gF:∃qw:Nat,qw<=nl/\U O ((q:Int)+1)=U O qw/\Below w.heap.size w w4/\Hid (Own w.heap.size w4 v' (aB (dV a b k) (l.take qw))):=⟨q+1,by omega,by go_num,fU (bA.out.alloc jb _) eG.out g2 (by simp;omega),by rw[HJ.out,dy known m p false fm.out];exact g1⟩;first|exact gF|((repeat apply Exists.intro);exact⟨gF,rfl⟩)
      case measure=>simp[intOf];omega
     .have hp:p<known.length:=(fm.out.is.1 rfl).1
      obtain⟨g,c,hu⟩:=kM ja.out p hp;subst hu;have F:=(fc ja.out p hp).re;have dv:=ja.out.lt g rfl;have Sb:g<w2.heap.size:=dv.2;generalize hm:known.getD p dm=m2 at *;have Hm:Hid _:=hm;clear hm;have hN:∀d os,Calls Tryz.prog 229 #[.agg #[Y m.node,U O m.x,U O m.y,U O m.z,U O m.h,U O m.s],.agg #[Y m2.node,U O m2.x,U O m2.y,U O m2.z,U O m2.h,U O m2.s]] (Ig (Im w2 d) os) λe fR=>e=AT (.bool (bF m m2))/\∃p:Regrown,fR=Ig (Im w2 p.d) p.os:=λd os=>Calls.regrown_of (ic m m2 _);have G:=zn.out.re;simp only[As,Nat.zero_add] at F G;have tm:∀o,w2.frozen? ⟨g,o,be⟩=false:=λo=>World.ownsRow.frozenAt ja.out o;have HFZ:Hid _:=tm;clear tm t0 t1 t2 t3 t4 t5;generalize Az:bF m m2=nw at *;have MQ:Hid _:=Az;clear Az;go_wp2_with fail;refine IA (by kernel_rfl) (by kernel_rfl) ?_;repeat(quiet_step (exact hN _ _))
      refine bu λdq gW dF=>?_;clear hN F G;cases nw
      .go_wp2_with fail
       go_roundw
       case rel=>
        have gF:∃qw:Nat,qw<=nl/\U O ((q:Int)+1)=U O qw/\Below w.heap.size w (Ig (Im w2 dq) gW)/\Hid (Own w.heap.size (Ig (Im w2 dq) gW) (J (AI ⟨g,0,be⟩) known.length c) (aB (dV a b k) (l.take qw))):=⟨q+1,by omega,by go_num,bA.out.trans (dF.out.mono jb),by rw[HJ.out,dy known m p true fm.out,if_pos rfl,Hm.out,if_neg (λh=>Bool.false_ne_true (MQ.out.symm.trans h))];exact ja.out.below dF.out⟩;first|exact gF|((repeat apply Exists.intro);exact⟨gF,rfl⟩)
       case measure=>simp[intOf];omega
      .generalize Ig (Im w2 dq) gW=w3 at *
       have eG:Hid (Own _ _ _ _):=ja.out.below dF.out;obtain⟨c0,c1,c2,c3,c4,c5⟩:=fc eG.out p hp;rw[Hm.out] at c0 c1 c2 c3 c4 c5;have mJ:=(eG.out.lt g rfl).2;have tm:∀o,w3.frozen? ⟨g,o,be⟩=false:=λo=>World.ownsRow.frozenAt eG.out o;obtain⟨s0,s1,s2,s3,s4,s5⟩:w3.cell? ⟨wr.heap.size,0,be⟩=AI (Y m.node)/\w3.cell? ⟨wr.heap.size,1,be⟩=AI (U O m.x)/\w3.cell? ⟨wr.heap.size,2,be⟩=AI (U O m.y)/\w3.cell? ⟨wr.heap.size,3,be⟩=AI (U O m.z)/\w3.cell? ⟨wr.heap.size,4,be⟩=AI (U O m.h)/\w3.cell? ⟨wr.heap.size,5,be⟩=AI (U O m.s):=zn.out.eq (λo=>dF.out.cell (p:=⟨wr.heap.size,o,be⟩) De);go_wp2_with fail;refine⟨⟨q+1,by omega,by go_num,?_,?_⟩,by simp[intOf];omega⟩
       .exact(((((((bA.out.trans (dF.out.mono jb)).setCell (p:=⟨g,p*6,be⟩) dv.1 (Y m.node)).setCell (p:=⟨g,p*6+1,be⟩) dv.1 (U O m.x)).setCell (p:=⟨g,p*6+2,be⟩) dv.1 (U O m.y)).setCell (p:=⟨g,p*6+3,be⟩) dv.1 (U O m.z)).setCell (p:=⟨g,p*6+4,be⟩) dv.1 (U O m.h)).setCell (p:=⟨g,p*6+5,be⟩) dv.1 (U O m.s))
       .rw[HJ.out,dy known m p true fm.out,if_pos rfl,Hm.out,if_pos MQ.out]
        exact mN eG.out hp m
    .have Gn:q=nl:=by omega
     subst Gn;have eG:Hid (Own w.heap.size wr u7 (dV a b (k+1))):=by
      have h:=HO.out;rw[Ji (by rw[lB.out];exact Nat.le_refl _)] at h;rw[qv.out.step];exact h
     go_wp2_with fail;go_roundw
     case rel=>exact⟨k+1,by omega,by go_num,aO,eG⟩
     case measure=>simp[intOf];omega
  .have kV:k=2:=by omega
   subst kV;go_wp2_with fail;go_ret;exact⟨_,rfl,HO.out,aO⟩
end Wh
end Go.Proofs.YtbfghimjdlpicaaGreatDoor
namespace Go.Proofs.YtbfghimjdlpicaaGreatDoor
open Go.RowKit
def xi(wh:List Wh.bT)(x:Wh.bT):List Wh.bT:=if(wh.any λy=>decide (y.node=x.node))=true\/20<=wh.length then wh else Wh.aN wh x
def Df(wh l:List Wh.bT):List Wh.bT:=l.foldl xi wh
theorem MR(wh l:List Wh.bT)(k:Nat)(hk:k<l.length):Df wh (l.take (k+1))=xi (Df wh (l.take k)) (l.getD k Wh.dm):=by
 unfold Df;rw[List.take_succ_eq_append_getElem hk,List.foldl_append];simp[Ir,Ic hk]
structure Wh.qA(wh:List Wh.bT):Prop where
 GY:Wh.aT wh
 len:wh.length<=20
 ok:∀m∈wh,m.ok
theorem GZ{wh:List Wh.bT}{x:Wh.bT}(h:Wh.qA wh)(hx:x.ok):Wh.qA (xi wh x):=by
 unfold xi;split
 .exact h
 .rename_i hn
  have h2:=(Wh.mo wh x).2;exact⟨Wh.fY wh x h.GY,by omega,Wh.lJ h.ok hx⟩
theorem Bk{wh l:List Wh.bT}(h:Wh.qA wh)(hl:∀m∈l,m.ok):Wh.qA (Df wh l):=by
 unfold Df;induction l generalizing wh with
 |nil=>exact h
 |cons x r ih=>exact ih (GZ h (hl x (by simp))) (λm hm=>hl m (by simp[hm]))
theorem Wx{wh:List Wh.bT}{x:Wh.bT}{p:Nat}{f:Bool}(hr:Wh.aT wh)(h:Wh.At wh x p f):(wh.any λy=>decide (y.node=x.node))=f:=by
 have ho:∀y:Wh.bT,Wh.ord y x=0↔y.node=x.node:=λy=>bL _ _;cases f
 .rcases hh:(wh.any λy=>decide (y.node=x.node)) with _|_
  .rfl
  .obtain⟨y,hy,he⟩:=Qq.1 hh
   obtain⟨j,hj,rfl⟩:=List.getElem_of_mem hy;have he:wh[j].node=x.node:=by simpa using he
   have e:wh.getD j Wh.dm=wh[j]:=by simp[Ir,Ic hj]
   have h2:Wh.At wh x j true:=by
    refine⟨by omega,λi hi=>?_,λi hi hl=>?_,⟨λ_=>⟨hj,by rw[e];exact(ho _).2 he⟩,λ_=>rfl⟩⟩
    .have hp:=Jb.1 hr i j (by omega) hj hi
     rw[show wh.getD i Wh.dm=wh[i]'(by omega) by simp[Ir,Ic (show i<wh.length by omega)]];show bW _ _<0;rw[<- he];exact hp
    .rw[show wh.getD i Wh.dm=wh[i]'hl by simp[Ir,Ic hl]]
     rcases Nat.lt_or_eq_of_le hi with h3|rfl
     .have hp:=Jb.1 hr j i hj hl h3
      have qW:bW wh[j].node wh[i].node<0:=hp;have h4:0<bW wh[i].node wh[j].node:=by rw[oS];rw[fq] at qW;exact qW
      show 0<=bW wh[i].node x.node;rw[<- he];omega
     .show 0<=bW wh[j].node x.node
      rw[(bL _ _).2 he];omega
   have:=(Wh.eZ h h2).2;cases this
 .obtain⟨h1,h2⟩:=h.is.1 rfl
  rw[Qq];refine⟨wh[p],List.getElem_mem h1,?_⟩;rw[show wh.getD p Wh.dm=wh[p] by simp[Ir,Ic h1]] at h2;simpa using(ho _).1 h2
theorem zo{B B' k k' n n':Nat}{T T':TypeId}{w:World}{v v':Value}{xs xs':List Value}(h:w.ownsRow B T k v n xs)(h':w.ownsRow B' T' k' v' n' xs')(hT:T≠T'):v.ownBlock=be\/v.ownBlock≠v'.ownBlock:=by
 rcases h.2 with⟨rfl,_⟩|⟨g,c,cur,rfl,_,hg,_⟩
 .exact .inl rfl
 .refine .inr λe=>?_
  rcases h'.2 with⟨rfl,_⟩|⟨g',c',ev,rfl,_,xd,_⟩
  .cases e
  .have:g=g':=by simpa[JF] using e
   subst this;rw[hg] at xd;injection xd with e1;injection e1 with _ e2;exact hT e2
theorem fw{B k n b:Nat}{T T':TypeId}{w:World}{v:Value}{xs:List Value}{cs:Array Value}(h:w.ownsRow B T k v n xs)(hb:w.heap[b]?=AI (By cs T' (0,0)))(hT:T≠T'):v.ownBlock≠AI b:=by
 rcases h.2 with⟨rfl,_⟩|⟨g,c,cur,rfl,_,hg,_⟩
 .intro e;cases e
 .intro e
  have:g=b:=by simpa[JF] using e
  subst this;rw[hg] at hb;injection hb with e1;injection e1 with _ e2;exact hT e2
theorem Wk.ins{L b:Nat}{W w1:World}{n:Nd}{vm vr vs vg vw v:Value}{l:List Wh.bT}(h1:W.heap[b]?=AI (By (dE n vm vr vs vg vw) 107 (0,0)))(h2:cZ L W n vm vr vs vg vw)(h3:vm.ownBlock≠AI b/\vr.ownBlock≠AI b/\vs.ownBlock≠AI b/\vg.ownBlock≠AI b/\vw.ownBlock≠AI b)(h4:iE n)(hg:W.grownBy w1 vw.ownBlock)(ho:Wh.Own L w1 v l)(hl:∀m∈l,m.ok):Wk L (w1.setCell ⟨b,11,be⟩ v) b { n with wh:=l }:=by
 have aO:=(BY.1 h1).1;have aC:=(hg.block b aO (λe=>h3.2.2.2.2 e.symm)).trans h1;have hv:=fw ho aC (by decide);refine⟨vm,vr,vs,vg,v,Joins.block_setCell (i:=11) aC v,⟨?_,?_,?_,?_,Iv ho hv _⟩,⟨h3.1,h3.2.1,h3.2.2.1,h3.2.2.2.1,hv⟩,⟨h4.ms,h4.rs,h4.sv,h4.gw,hl,h4.name,h4.av⟩⟩
 .exact Iv (h2.ms.kept hg (zo h2.ms h2.wh (by decide))) h3.1 _
 .exact Iv (h2.rs.kept hg (zo h2.rs h2.wh (by decide))) h3.2.1 _
 .exact Iv (h2.sv.kept hg (zo h2.sv h2.wh (by decide))) h3.2.2.1 _
 .exact Iv (h2.gw.kept hg (zo h2.gw h2.wh (by decide))) h3.2.2.2.1 _
theorem Sh.grown{S:Nat->Prop}{a w w':World}{row:Option Nat}(h:Sh S a w)(hg:w.grownBy w' row)(hr:∀k,row=AI k->S k):Sh S a w':=
 h.trans ⟨hg.os,hg.tape,hg.output,hg.size,λk hk hn=>hg.block k hk (λe=>hn (hr k e.symm))⟩
theorem G9(L b:Nat)(n:Nd)(l:List Wh.bT)(vx:Value)(w0 w:World)(h:Wk L w b n)(hL:L<=b)(hf:Wh.qA n.wh)(hx:Wh.Sl w0 vx l)(hB:Below w0.heap.size w0 w)(hBL:w0.heap.size<=L)(hll:l.length<=1000) :
 aK 63 #[.pointer (AI ⟨b,0,be⟩),vx] w λe w'=>e=AT (Ip #[])/\Sh (λk=>L<=k) w w'/\Wk L w' b { n with wh:=Df n.wh l }:=by
 have rJ:Hid (Wk L w b n):=h;have HB:Hid _:=hB;have HFI:Hid _:=hf;obtain⟨px,cx,rfl,hxs,hxr⟩:=hx;have HXR:Hid _:=hxr;have HXS:Hid _:=hxs;have Wy:Hid _:=Wh.dI hxs;clear h hB hf hxs hxr;generalize hN:l.length=nl at *;have HN:Hid _:=hN;clear hN;go_enter Tryz.func63,Tryz.ntmps63;go_wp2_with fail;go_loopw [10] (λi wr=>∃k:Nat,k<=nl/\i=U O k/\Hid (Sh (λk=>L<=k) w wr)/\Hid (Wk L wr b { n with wh:=Df n.wh (l.take k) })) (λi _=>nl-(intOf i).toNat)
 case atStart=>exact⟨0,Nat.zero_le _,rfl,Sh.refl _ _,rJ⟩
 case round=>
  obtain⟨k,hk,rfl,zj,HW⟩:=hrel;by_cases aX:k<nl
  .obtain⟨b2,o2,hp,jE,hr⟩:∃b off,px=AI ⟨b,off,be⟩/\b<w0.heap.size/\Wh.Row w0 b off l:=by
    rcases HXR.out with h|h
    .have:=HN.out;rw[h] at this;simp at this;omega
    .exact h
   subst hp;have HBR:Hid _:=HB.out.trans (zj.out.below HB.out.size (λk hk=>by omega));obtain⟨c0,c1,c2,c3,c4,c5⟩:=(hr k (by rw[HN.out];exact aX)).eq (λo=>HBR.out.cell (p:=⟨b2,o,be⟩) jE);clear hr;have GU:Hid (Wh.qA (Df n.wh (l.take k))):=Bk HFI.out (λm hm=>Wy.out m (Jf hm));have qB:Hid _:=MR n.wh l k (by rw[HN.out];exact aX);have hxo:=HXS.out k;generalize l.getD k Wh.dm=x at *;generalize eJ:Df n.wh (l.take k)=known at *;clear eJ;obtain⟨p,f,cA⟩:=Wh.jT known GU.out.GY x;have fm:Hid _:=cA;have HAN:Hid _:=Wx GU.out.GY cA;clear cA;have hbr:=HW.out.lt;obtain⟨vm,vr,vs,vg,vw,h1,h2,h3,h4⟩:=HW.out;have CM:Hid (Wh.Own _ _ _ _):=h2.wh;have HH3:Hid _:=h3;have HH4:Hid _:=h4;have HH2:Hid _:=h2;obtain⟨aw,cw,LC,hcw⟩:=aE h2.wh;simp only at LC hcw;subst LC;have HSW:Hid (Wh.Sl _ _ _):=h2.wh.sl (Wh.cD GU.out.ok);have LD:Hid _:=GU.out.len;obtain⟨W1,db,aC,fO,cI⟩:=bV wr #[Y x.node,U O x.x,U O x.y,U O x.z,U O x.h,U O x.s] 116;have xf:Hid _:=cI;have aZ:Hid _:=aC;have lx:Hid (∀W,Below wr.heap.size wr W->W.heap[b]?=AI (By (dE { n with wh:=known } vm vr vs vg (J aw known.length cw)) 107 (0,0))):=λW hW=>(hW.block _ hbr).trans h1;obtain⟨x0,x1,x2,x3,x4,x5⟩:=fX cI;have y11:=ae (lx.out W1 aC) 11;have hFI:∀d os,aK 110 #[J aw known.length cw,.agg #[Y x.node,U O x.x,U O x.y,U O x.z,U O x.h,U O x.s],IQ (.func 111) #[] #[]] (Ig (Im W1 d) os) λe fR=>e=AT (Ip #[U O p,.bool f])/\∃q:Regrown,fR=Ig (Im W1 q.d) q.os:=λd os=>Calls.regrown_of ((Wh.gf known _ x _ (HSW.out.below (aC.trans ((ON W1 d os).mono (by omega)))) (by have:=LD.out;omega) GU.out.GY).mono (by
    rintro e w' ⟨p',f',rfl,hb,ha⟩;obtain⟨rfl,rfl⟩:=Wh.eZ ha fm.out;exact⟨rfl,hb⟩))
   have F0:=Ih x0;have F1:=Ih x1;have F2:=Ih x2;have F3:=Ih x3;have F4:=Ih x4;have F5:=Ih x5;have G11:=Ih y11;clear h1 h2 h3 h4 cI aC x0 x1 x2 x3 x4 x5 y11;generalize ie:known.length=kl at *;have HKE:Hid _:=ie;clear ie;have akK:=LD.out;go_upto_region 3 with fail
   rw[<- db];clear db c0 c1 c2 c3 c4 c5;refine IA (by kernel_rfl) (by kernel_rfl) ?_;repeat(quiet_step (exact hFI _ _))
   refine wpQuiet_nil ?_;intro _ MS;obtain⟨⟨dq,gW⟩,Wz⟩:=MS;subst Wz;have bA:Hid _:=aZ.out.trans ((ON W1 dq gW).mono (by omega));have yR:Hid _:=((ON W1 dq gW).block _ (by omega)).trans xf.out;clear hFI F0 F1 F2 F3 F4 F5 G11 xf aZ;generalize Ig (Im W1 dq) gW=W2 at *;have y11:=ae (lx.out W2 bA.out) 11;have abC:Hid _:=zj.out.next bA.out;have Ha:Hid (Wk _ _ _ _):=HW.out.below bA.out;cases f
   rotate_left
   .have Fi:Hid _:=qB.out.trans (by unfold xi;rw[if_pos (.inl HAN.out)])
    go_wp2_with fail;go_roundw
    case rel=>exact⟨k+1,by omega,by go_num,abC,by rw[Fi.out];exact Ha⟩
    case measure=>simp[intOf];omega
   .by_cases hk20:kl<20
    rotate_left
    .have Fi:Hid _:=qB.out.trans (by unfold xi;rw[if_pos (.inr (by rw[HKE.out];omega))])
     go_wp2_with fail;go_roundw
     case rel=>exact⟨k+1,by omega,by go_num,abC,by rw[Fi.out];exact Ha⟩
     case measure=>simp[intOf];omega
    .have Fi:Hid (Df n.wh (l.take (k+1))=known.take p++x::known.drop p):=qB.out.trans (by
      unfold xi
      rw[if_neg (by rw[HAN.out,HKE.out];intro h;rcases h with h|h;· cases h
                    .omega),Wh.dy known x p false fm.out,if_neg (by simp)])
     have ahb:Hid (∀m∈known.take p++x::known.drop p,m.ok):=λm hm=>by
      rcases List.mem_append.1 hm with hm|hm
      .exact GU.out.ok m (Jf hm)
      .rcases List.mem_cons.1 hm with rfl|hm
       .exact hxo
       .exact GU.out.ok m (List.mem_of_mem_drop hm)
     have Re:p<=kl:=by have:=fm.out.le;rw[HKE.out] at this;exact this
     obtain⟨v0,v1,v2,v3,v4,v5⟩:=fX yR.out;obtain⟨W3,ee⟩:∃W3,W3=(W2.alloc (By #[Y x.node,U O x.x,U O x.y,U O x.z,U O x.h,U O x.s] 116)).drew:=⟨_,rfl⟩;have bY:Below wr.heap.size wr W3:=by rw[ee];exact(bA.out.alloc bA.out.size _).drew
     have aob:W3.heap.size=W2.heap.size+1:=by rw[ee];simp
     have aoc:=bA.out.size;have mJ:W3.heap[W2.heap.size]?=AI (By x.cs.toArray 116 (0,0)):=by rw[ee];exact Ij W2 _
     have HI:Hid (aK 112 #[J aw kl cw,U O p,J (AI ⟨W2.heap.size,0,be⟩) 1 1] W3 λe w'=>∃a q c,e=AT (J a q c)/\Wh.Own L w' (J a q c) (known.take p++x::known.drop p)/\W3.grownBy w' (J aw kl cw).ownBlock):=by
      refine(Wh.gh L p W2.heap.size _ known x W3 (CM.out.below bY) fm.out.le (by rw[HKE.out];omega) (by omega) mJ (λe=>by have:=((CM.out.below bA.out).lt _ e).2;omega)).mono ?_;rintro e w' ⟨v',rfl,ho,hg⟩;obtain⟨a,c,rfl,_⟩:=aE ho;exact⟨a,_,c,rfl,ho,hg⟩
     have Wg:Hid (∀w5 a q c,Wh.Own L w5 (J a q c) (known.take p++x::known.drop p)->W3.grownBy w5 (J aw kl cw).ownBlock->Wk L (w5.setCell ⟨b,11,be⟩ (J a q c)) b { n with wh:=known.take p++x::known.drop p }/\Sh (λk=>L<=k) w (w5.setCell ⟨b,11,be⟩ (J a q c))/\w5.heap[b]?=AI (By (dE { n with wh:=known } vm vr vs vg (J aw kl cw)) 107 (0,0))):=λw5 a q c ho hg=>
      ⟨Wk.ins (n:={ n with wh:=known }) (lx.out W3 bY) (HH2.out.below bY) HH3.out HH4.out hg ho ahb.out,
       ((zj.out.next bY).grown hg (λg VY=>((CM.out.below bY).lt g VY).1)).setCell (S:=λk=>L<=k) hL _,
       (hg.block b (by have:=bY.size;omega) (λe=>HH3.out.2.2.2.2 e.symm)).trans (lx.out W3 bY)⟩
     have aod:b<W2.heap.size:=by omega
     have aoe:=(BY.1 yR.out).1;have Bl:¬ b=W2.heap.size:=by omega
     have Dg:¬ wr.heap.size=W2.heap.size:=by omega
     clear mJ bY;go_upto_region 5 with fail
     go_region_with (first|(go_at_call 112;refine(show aK _ _ _ _ by first|(rw[<- ee];exact HI.out)|(have h:=HI.out;rw[ee] at h;exact h)).mono ?_;rintro e w5 ⟨a,q,c,rfl,Vc,mc⟩;obtain⟨i1,i2,i3⟩:=Wg.out w5 a q c Vc mc;have HI1:Hid (Wk L (w5.setCell ⟨b,11,be⟩ (J a q c)) b { n with wh:=known.take p++x::known.drop p }):=i1;have HI2:Hid (Sh (λk=>L<=k) w (w5.setCell ⟨b,11,be⟩ (J a q c))):=i2;have z11:w5.cell? ⟨b,11,be⟩=AI (J aw kl cw):=ae i3 11;have zf:w5.frozen? ⟨b,11,be⟩=false:=aA i3 11;clear Vc mc i1 i2 i3))
     all_goals
      go_wp2_with fail;go_roundw
      case rel=>exact⟨k+1,by omega,by go_num,HI2,by rw[Fi.out];exact HI1⟩
      case measure=>simp[intOf];omega
  .have eJ:k=nl:=by omega
   subst eJ;have tP:Hid (Wk L wr b { n with wh:=Df n.wh l }):=by
    have h:=HW.out;rw[Ji (by rw[HN.out];exact Nat.le_refl _)] at h;exact h
   go_wp2_with fail;simp only[bodyPost,results,Tryz.results63];exact⟨trivial,Ip #[],by simp,rfl,zj.out,tP.out⟩
end Go.Proofs.YtbfghimjdlpicaaGreatDoor
