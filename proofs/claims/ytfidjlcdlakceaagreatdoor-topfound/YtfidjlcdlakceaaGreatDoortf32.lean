import Derived.Test.YtfidjlcdlakceaaGreatDoortf30
set_option maxHeartbeats 25600000
set_option maxRecDepth 100000
open List renaming getD→Io,getElem?_eq_getElem→Ic,pairwise_iff_getElem→Jh,mem_of_mem_take→Jm
open Option renaming none→Y,some→Z
open Go.Value renaming ownBlock→I2,tuple→Il,int→O,string→I,slice→U
open Array renaming getElem?_eq_some_iff→Ia
open Go renaming ownsRow_setCell_other→Iz,redrawn→IA,cell_regrown→Iq
open Go.IntKind renaming i64→J
namespace Go.Proofs.YtfidjlcdlakceaaGreatDoor
namespace Wh
open Go.RowKit
end Wh
end Go.Proofs.YtfidjlcdlakceaaGreatDoor
namespace Go.Proofs.YtfidjlcdlakceaaGreatDoor
open Go.RowKit
def DX(wh:List Wh.bC)(x:Wh.bC):List Wh.bC:=if(wh.any λy=>decide (y.node=x.node))=true\/20<=wh.length then wh else Wh.aZ wh x
def Bx(wh l:List Wh.bC):List Wh.bC:=l.foldl DX wh
theorem PX(wh l:List Wh.bC)(k:Nat)(hk:k<l.length):Bx wh (l.take (k+1))=DX (Bx wh (l.take k)) (l.getD k Wh.dm):=by
 unfold Bx;rw[List.take_succ_eq_append_getElem hk,List.foldl_append];simp[Io,Ic hk]
structure Wh.uJ(wh:List Wh.bC):Prop where
 Vt:Wh.bO wh
 len:wh.length<=20
 ok:∀m∈wh,m.ok
theorem Kt{wh:List Wh.bC}{x:Wh.bC}(h:Wh.uJ wh)(hx:x.ok):Wh.uJ (DX wh x):=by
 unfold DX;split
 .exact h
 .rename_i hn
  have h2:=(Wh.kt wh x).2;exact⟨Wh.jC wh x h.Vt,by omega,Wh.sP h.ok hx⟩
theorem PY{wh l:List Wh.bC}(h:Wh.uJ wh)(hl:∀m∈l,m.ok):Wh.uJ (Bx wh l):=by
 unfold Bx;induction l generalizing wh with
 |nil=>exact h
 |cons x r ih=>exact ih (Kt h (hl x (by simp))) (λm hm=>hl m (by simp[hm]))
theorem aa7{wh:List Wh.bC}{x:Wh.bC}{p:Nat}{f:Bool}(hr:Wh.bO wh)(h:Wh.At wh x p f):(wh.any λy=>decide (y.node=x.node))=f:=by
 have ho:∀y:Wh.bC,Wh.ord y x=0↔y.node=x.node:=λy=>cU _ _;cases f
 .rcases hh:(wh.any λy=>decide (y.node=x.node)) with _|_
  .rfl
  .obtain⟨y,hy,he⟩:=List.any_eq_true.1 hh
   obtain⟨j,hj,rfl⟩:=List.getElem_of_mem hy;have he:wh[j].node=x.node:=by simpa using he
   have e:wh.getD j Wh.dm=wh[j]:=by simp[Io,Ic hj]
   have h2:Wh.At wh x j true:=by
    refine⟨by omega,λi hi=>?_,λi hi hl=>?_,⟨λ_=>⟨hj,by rw[e];exact(ho _).2 he⟩,λ_=>rfl⟩⟩
    .have hp:=Jh.1 hr i j (by omega) hj hi
     rw[show wh.getD i Wh.dm=wh[i]'(by omega) by simp[Io,Ic (show i<wh.length by omega)]];show bz _ _<0;rw[<- he];exact hp
    .rw[show wh.getD i Wh.dm=wh[i]'hl by simp[Io,Ic hl]]
     rcases Nat.lt_or_eq_of_le hi with h3|rfl
     .have hp:=Jh.1 hr j i hj hl h3
      have Sk:bz wh[j].node wh[i].node<0:=hp;have h4:0<bz wh[i].node wh[j].node:=by rw[mV];rw[fu] at Sk;exact Sk
      show 0<=bz wh[i].node x.node;rw[<- he];omega
     .show 0<=bz wh[j].node x.node
      rw[(cU _ _).2 he];omega
   have:=(Wh.eV h h2).2;cases this
 .obtain⟨h1,h2⟩:=h.is.1 rfl
  rw[List.any_eq_true];refine⟨wh[p],List.getElem_mem h1,?_⟩;rw[show wh.getD p Wh.dm=wh[p] by simp[Io,Ic h1]] at h2;simpa using(ho _).1 h2
theorem zn{B B' k k' n n':Nat}{T T':TypeId}{w:World}{v v':Value}{xs xs':List Value}(h:w.ownsRow B T k v n xs)(h':w.ownsRow B' T' k' v' n' xs')(hT:T≠T'):v.ownBlock=Y\/v.ownBlock≠v'.ownBlock:=by
 rcases h.2 with⟨rfl,_⟩|⟨g,c,cur,rfl,_,hg,_⟩
 .exact .inl rfl
 .refine .inr λe=>?_
  rcases h'.2 with⟨rfl,_⟩|⟨g',c',dF,rfl,_,tV,_⟩
  .cases e
  .have:g=g':=by simpa[I2] using e
   subst this;rw[hg] at tV;injection tV with e1;injection e1 with _ e2;exact hT e2
theorem eJ{B k n b:Nat}{T T':TypeId}{w:World}{v:Value}{xs:List Value}{cs:Array Value}(h:w.ownsRow B T k v n xs)(hb:w.heap[b]?=Z (.cells cs T' (0,0)))(hT:T≠T'):v.ownBlock≠Z b:=by
 rcases h.2 with⟨rfl,_⟩|⟨g,c,cur,rfl,_,hg,_⟩
 .intro e;cases e
 .intro e
  have:g=b:=by simpa[I2] using e
  subst this;rw[hg] at hb;injection hb with e1;injection e1 with _ e2;exact hT e2
theorem Wk.ins{L b:Nat}{W w1:World}{n:Nd}{vm vr vs vg vw v:Value}{l:List Wh.bC}(h1:W.heap[b]?=Z (.cells (fD n vm vr vs vg vw) 81 (0,0)))(h2:gK L W n vm vr vs vg vw)(h3:vm.ownBlock≠Z b/\vr.ownBlock≠Z b/\vs.ownBlock≠Z b/\vg.ownBlock≠Z b/\vw.ownBlock≠Z b)(h4:oE n)(hg:W.grownBy w1 vw.ownBlock)(ho:Wh.Own L w1 v l)(hl:∀m∈l,m.ok):Wk L (w1.setCell ⟨b,11,Y⟩ v) b { n with wh:=l }:=by
 have aU:=(Ia.1 h1).1;have al:=(hg.block b aU (λe=>h3.2.2.2.2 e.symm)).trans h1;have hv:=eJ ho al (by decide);refine⟨vm,vr,vs,vg,v,Joins.block_setCell (i:=11) al v,⟨?_,?_,?_,?_,Iz ho hv _⟩,⟨h3.1,h3.2.1,h3.2.2.1,h3.2.2.2.1,hv⟩,⟨h4.ms,h4.rs,h4.sv,h4.gw,hl,h4.name,h4.ai⟩⟩
 .exact Iz (h2.ms.kept hg (zn h2.ms h2.wh (by decide))) h3.1 _
 .exact Iz (h2.rs.kept hg (zn h2.rs h2.wh (by decide))) h3.2.1 _
 .exact Iz (h2.sv.kept hg (zn h2.sv h2.wh (by decide))) h3.2.2.1 _
 .exact Iz (h2.gw.kept hg (zn h2.gw h2.wh (by decide))) h3.2.2.2.1 _
theorem Sh.grown{S:Nat->Prop}{a w w':World}{row:Option Nat}(h:Sh S a w)(hg:w.grownBy w' row)(hr:∀k,row=Z k->S k):Sh S a w':=
 h.trans ⟨hg.os,hg.tape,hg.output,hg.size,λk hk hn=>hg.block k hk (λe=>hn (hr k e.symm))⟩
theorem Ku(L b:Nat)(n:Nd)(l:List Wh.bC)(vx:Value)(w0 w:World)(h:Wk L w b n)(hL:L<=b)(hf:Wh.uJ n.wh)(hx:Wh.Sl w0 vx l)(hB:Below w0.heap.size w0 w)(hBL:w0.heap.size<=L)(XP:l.length<=1000) :
 aP 98 #[.pointer (Z ⟨b,0,Y⟩),vx] w λe w'=>e=.returned (Il #[])/\Sh (λk=>L<=k) w w'/\Wk L w' b { n with wh:=Bx n.wh l }:=by
 have sA:Hid (Wk L w b n):=h;have HB:Hid _:=hB;have HFI:Hid _:=hf;obtain⟨px,cx,rfl,WR,hxr⟩:=hx;have HXR:Hid _:=hxr;have HXS:Hid _:=WR;have HLO:Hid _:=Wh.cZ WR;clear h hB hf WR hxr;generalize hN:l.length=nl at *;have HN:Hid _:=hN;clear hN;go_enter Tryz.func98,Tryz.ntmps98;go_wp2_with fail;go_loopw [10] (λi wr=>∃k:Nat,k<=nl/\i=O J k/\Hid (Sh (λk=>L<=k) w wr)/\Hid (Wk L wr b { n with wh:=Bx n.wh (l.take k) })) (λi _=>nl-(intOf i).toNat)
 case atStart=>exact⟨0,Nat.zero_le _,rfl,Sh.refl _ _,sA⟩
 case round=>
  obtain⟨k,hk,rfl,zk,HW⟩:=hrel;by_cases aL:k<nl
  .obtain⟨b2,o2,hp,fG,hr⟩:∃b off,px=Z ⟨b,off,Y⟩/\b<w0.heap.size/\Wh.Row w0 b off l:=by
    rcases HXR.out with h|h
    .have:=HN.out;rw[h] at this;simp at this;omega
    .exact h
   subst hp;have yi:Hid _:=HB.out.trans (zk.out.below HB.out.size (λk hk=>by omega));obtain⟨c0,c1,c2,c3,c4,c5⟩:=(hr k (by rw[HN.out];exact aL)).eq (λo=>yi.out.cell (p:=⟨b2,o,Y⟩) fG);clear hr;have Kv:Hid (Wh.uJ (Bx n.wh (l.take k))):=PY HFI.out (λm hm=>HLO.out m (Jm hm));have lG:Hid _:=PX n.wh l k (by rw[HN.out];exact aL);have hxo:=HXS.out k;generalize l.getD k Wh.dm=x at *;generalize fM:Bx n.wh (l.take k)=known at *;clear fM;obtain⟨p,f,cA⟩:=Wh.qJ known Kv.out.Vt x;have fw:Hid _:=cA;have HAN:Hid _:=aa7 Kv.out.Vt cA;clear cA;have hbr:=HW.out.lt;obtain⟨vm,vr,vs,vg,vw,h1,h2,h3,h4⟩:=HW.out;have DY:Hid (Wh.Own _ _ _ _):=h2.wh;have HH3:Hid _:=h3;have HH4:Hid _:=h4;have HH2:Hid _:=h2;obtain⟨aw,cw,hvw,hcw⟩:=az h2.wh;simp only at hvw hcw;subst hvw;have HSW:Hid (Wh.Sl _ _ _):=h2.wh.sl (Wh.cB Kv.out.ok);have HKL:Hid _:=Kv.out.len;obtain⟨W1,e9,al,gI,bb⟩:=cR wr #[I x.node,O J x.x,O J x.y,O J x.z,O J x.h,O J x.s] 142;have jo:Hid _:=bb;have aR:Hid _:=al;have sC:Hid (∀W,Below wr.heap.size wr W->W.heap[b]?=Z (.cells (fD { n with wh:=known } vm vr vs vg (U aw known.length cw)) 81 (0,0))):=λW hW=>(hW.block _ hbr).trans h1;obtain⟨x0,x1,x2,x3,x4,x5⟩:=gV bb;have y11:=af (sC.out W1 al) 11;have hFI:∀d os,aP 149 #[U aw known.length cw,.agg #[I x.node,O J x.x,O J x.y,O J x.z,O J x.h,O J x.s],.func (.func 150) #[] #[]] (Go.Sort.grow (IA W1 d) os) λe gO=>e=.returned (Il #[O J p,.bool f])/\∃q:Regrown,gO=Go.Sort.grow (IA W1 q.d) q.os:=λd os=>Calls.regrown_of ((Wh.fH known _ x _ (HSW.out.below (al.trans ((below_regrown W1 d os).mono (by omega)))) (by have:=HKL.out;omega) Kv.out.Vt).mono (by
    rintro e w' ⟨p',f',rfl,hb,ha⟩;obtain⟨rfl,rfl⟩:=Wh.eV ha fw.out;exact⟨rfl,hb⟩))
   have F0:=Iq x0;have F1:=Iq x1;have F2:=Iq x2;have F3:=Iq x3;have F4:=Iq x4;have F5:=Iq x5;have G11:=Iq y11;clear h1 h2 h3 h4 bb al x0 x1 x2 x3 x4 x5 y11;generalize sO:known.length=kl at *;have HKE:Hid _:=sO;clear sO;have akU:=HKL.out;go_upto_region 3 with fail
   rw[<- e9];clear e9 c0 c1 c2 c3 c4 c5;refine wp_region_quiet_below (by kernel_rfl) (by kernel_rfl) ?_;repeat(quiet_step (exact hFI _ _))
   refine wpQuiet_nil ?_;intro _ hw';obtain⟨⟨dq,j8⟩,aii⟩:=hw';subst aii;have bw:Hid _:=aR.out.trans ((below_regrown W1 dq j8).mono (by omega));have oq:Hid _:=((below_regrown W1 dq j8).block _ (by omega)).trans jo.out;clear hFI F0 F1 F2 F3 F4 F5 G11 jo aR;generalize Go.Sort.grow (IA W1 dq) j8=W2 at *;have y11:=af (sC.out W2 bw.out) 11;have adB:Hid _:=zk.out.next bw.out;have Kw:Hid (Wk _ _ _ _):=HW.out.below bw.out;cases f
   rotate_left
   .have Xa:Hid _:=lG.out.trans (by unfold DX;rw[if_pos (.inl HAN.out)])
    go_wp2_with fail;go_roundw
    case rel=>exact⟨k+1,by omega,by go_num,adB,by rw[Xa.out];exact Kw⟩
    case measure=>simp[intOf];omega
   .by_cases hk20:kl<20
    rotate_left
    .have Xa:Hid _:=lG.out.trans (by unfold DX;rw[if_pos (.inr (by rw[HKE.out];omega))])
     go_wp2_with fail;go_roundw
     case rel=>exact⟨k+1,by omega,by go_num,adB,by rw[Xa.out];exact Kw⟩
     case measure=>simp[intOf];omega
    .have Xa:Hid (Bx n.wh (l.take (k+1))=known.take p++x::known.drop p):=lG.out.trans (by
      unfold DX
      rw[if_neg (by rw[HAN.out,HKE.out];intro h;rcases h with h|h;· cases h
                    .omega),Wh.dM known x p false fw.out,if_neg (by simp)])
     have aij:Hid (∀m∈known.take p++x::known.drop p,m.ok):=λm hm=>by
      rcases List.mem_append.1 hm with hm|hm
      .exact Kv.out.ok m (Jm hm)
      .rcases List.mem_cons.1 hm with rfl|hm
       .exact hxo
       .exact Kv.out.ok m (List.mem_of_mem_drop hm)
     have Gk:p<=kl:=by have:=fw.out.le;rw[HKE.out] at this;exact this
     obtain⟨v0,v1,v2,v3,v4,v5⟩:=gV oq.out;obtain⟨W3,kL⟩:∃W3,W3=(W2.alloc (.cells #[I x.node,O J x.x,O J x.y,O J x.z,O J x.h,O J x.s] 142)).drew:=⟨_,rfl⟩;have bf:Below wr.heap.size wr W3:=by rw[kL];exact(bw.out.alloc bw.out.size _).drew
     have an4:W3.heap.size=W2.heap.size+1:=by rw[kL];simp
     have an5:=bw.out.size;have vt:W3.heap[W2.heap.size]?=Z (.cells x.cs.toArray 142 (0,0)):=by rw[kL];exact heap_alloc_new W2 _
     have HI:Hid (aP 151 #[U aw kl cw,O J p,U (Z ⟨W2.heap.size,0,Y⟩) 1 1] W3 λe w'=>∃a q c,e=.returned (U a q c)/\Wh.Own L w' (U a q c) (known.take p++x::known.drop p)/\W3.grownBy w' (U aw kl cw).ownBlock):=by
      refine(Wh.fQ L p W2.heap.size _ known x W3 (DY.out.below bf) fw.out.le (by rw[HKE.out];omega) (by omega) vt (λe=>by have:=((DY.out.below bw.out).lt _ e).2;omega)).mono ?_;rintro e w' ⟨v',rfl,ho,hg⟩;obtain⟨a,c,rfl,_⟩:=az ho;exact⟨a,_,c,rfl,ho,hg⟩
     have Nq:Hid (∀w5 a q c,Wh.Own L w5 (U a q c) (known.take p++x::known.drop p)->W3.grownBy w5 (U aw kl cw).ownBlock->Wk L (w5.setCell ⟨b,11,Y⟩ (U a q c)) b { n with wh:=known.take p++x::known.drop p }/\Sh (λk=>L<=k) w (w5.setCell ⟨b,11,Y⟩ (U a q c))/\w5.heap[b]?=Z (.cells (fD { n with wh:=known } vm vr vs vg (U aw kl cw)) 81 (0,0))):=λw5 a q c ho hg=>
      ⟨Wk.ins (n:={ n with wh:=known }) (sC.out W3 bf) (HH2.out.below bf) HH3.out HH4.out hg ho aij.out,
       ((zk.out.next bf).grown hg (λg hgg=>((DY.out.below bf).lt g hgg).1)).setCell (S:=λk=>L<=k) hL _,
       (hg.block b (by have:=bf.size;omega) (λe=>HH3.out.2.2.2.2 e.symm)).trans (sC.out W3 bf)⟩
     have an6:b<W2.heap.size:=by omega
     have an7:=(Ia.1 oq.out).1;have an8:¬ b=W2.heap.size:=by omega
     have Bd:¬ wr.heap.size=W2.heap.size:=by omega
     clear vt bf;go_upto_region 5 with fail
     go_region_with (first|(go_at_call 151;refine(show aP _ _ _ _ by first|(rw[<- kL];exact HI.out)|(have h:=HI.out;rw[kL] at h;exact h)).mono ?_;rintro e w5 ⟨a,q,c,rfl,ho5,Df⟩;obtain⟨i1,i2,i3⟩:=Nq.out w5 a q c ho5 Df;have sU:Hid (Wk L (w5.setCell ⟨b,11,Y⟩ (U a q c)) b { n with wh:=known.take p++x::known.drop p }):=i1;have vC:Hid (Sh (λk=>L<=k) w (w5.setCell ⟨b,11,Y⟩ (U a q c))):=i2;have z11:w5.cell? ⟨b,11,Y⟩=Z (U aw kl cw):=af i3 11;have zf:w5.frozen? ⟨b,11,Y⟩=false:=dZ i3 11;clear ho5 Df i1 i2 i3))
     all_goals
      go_wp2_with fail;go_roundw
      case rel=>exact⟨k+1,by omega,by go_num,vC,by rw[Xa.out];exact sU⟩
      case measure=>simp[intOf];omega
  .have fM:k=nl:=by omega
   subst fM;have HWE:Hid (Wk L wr b { n with wh:=Bx n.wh l }):=by
    have h:=HW.out;rw[List.take_of_length_le (by rw[HN.out];exact Nat.le_refl _)] at h;exact h
   go_wp2_with fail;simp only[bodyPost,results,Tryz.results98];exact⟨trivial,Il #[],by simp,rfl,zk.out,HWE.out⟩
end Go.Proofs.YtfidjlcdlakceaaGreatDoor
