import Derived.Test.YtbfghimjdlpicaaGreatDoorna42
set_option maxHeartbeats 25600000
set_option maxRecDepth 100000
open Go.Proofs.Tryz renaming prog→AS
open Go.Value renaming slice→J,agg→Ik,bool→Ia,func→IQ,tuple→Ip,int→U,pointer→If,string→Y
open Go.Ending renaming returned→AT
open Option renaming some→AI,none→be
open Go.Obj renaming cells→By
open Go.RowKit.Below renaming refl→Ib
open Nat renaming le_refl→Ie,zero_le→IF,zero_add→ID,le_trans→Is,not_lt_zero→Jj,lt_of_lt_of_le→IJ
open Go renaming heap_alloc_new→Ij,wpAnyH_done→QM,bodyPost_ret→IL,redrawn→Im,cell_regrown→Ih,below_regrown→ON,madeCells→Ol
open Go.IntKind renaming i64→O
open Array renaming getElem?_eq_some_iff→BY
open List renaming getD→Ir,getElem?_eq_getElem→Ic,replicate→I7
open Go.World renaming block_lt_of_cell?→Iw
open Go.Sort renaming grow→Ig
namespace Go.Proofs.YtbfghimjdlpicaaGreatDoor
open Go.RowKit
theorem Tz(kf:Nat)(eg:∀args w,(callFunc kf args).run AS w=.ok (.enter kf args) w)(l:List Ev)(la:Option Addr)(lc:Nat)(t0:Nt)(vn vl:Value)(w:World)(hV:Rv w.heap.size w)(hl:K7 w la l)(u:World)(hu:Below u.heap.size u w)(h:fC u t0 vn vl)(I:Nat->Nt->Prop)(hr:bE t0/\I 0 t0)(hM:∀k t,I k t->I (k+1) t)(hI:∀k t t',bE t->wi t t'->I k t->AE t t'->I (k+1) t')(Nz:l.length<=maxLen)(hIs:∀W t t' a1 n1 c1 d1 l1 q1 a2 n2 c2 d2 l2 q2,Below w.heap.size w W->fC W t (J a1 n1 c1) (J d1 l1 q1)->fC W t' (J a2 n2 c2) (J d2 l2 q2)->bE t->wi t t'->Calls AS kf #[Ik #[J a1 n1 c1,J d1 l1 q1],Ik #[J a2 n2 c2,J d2 l2 q2]] W λe w'=>e=AT (Ia true)/\Below W.heap.size W w') :
 Calls AS 7 #[Ik #[vn,vl],J la l.length lc,IQ (.func kf) #[] #[]] w λe w'=>Below w.heap.size w w'/\∃t a k c b m d,e=AT (Ip #[Ik #[J a k c,J b m d],Ia true])/\Hid ((fC u t (J a k c) (J b m d)\/eP (w.heap.size+2) w' t (J a k c) (J b m d))/\(bE t/\∃i,i<=40/\I i t)/\t.ns.length=t0.ns.length):=by
 have HV:Hid _:=hV;have nL:Hid _:=hIs;have FB:Hid _:=hI;have HMO:Hid _:=hM;have HU:Hid (∀W,Below w.heap.size w W->Below u.heap.size u W):=λW hW=>hu.trans (hW.mono hu.size);have HEV:Hid (∀k,k<l.length->∃G off,la=AI ⟨G,off,be⟩/\(l.getD k Rq).Ok/\∀W,Below w.heap.size w W->W.rangeAt G (off+k*19) (Cv (l.getD k Rq)).toList):=λk hk=>by
  obtain⟨G,off,e,hg⟩:=hl.row k hk;exact⟨G,off,e,hl.ok _ (ai hk Rq),λW hW=>tI hg hW⟩
 obtain⟨⟨pn,cn,BB,_⟩,⟨pl,cl,lC,_,_⟩⟩:=id h;subst BB lC;generalize hn1:t0.ns.length=n0 at *;generalize kb:t0.ls.length=m0 at *;obtain⟨W0,bP⟩:∃W0,W0=(w.alloc (By #[J pn n0 cn,J pl m0 cl] 27)).alloc (By #[J be 0 0,J be 0 0] 27):=⟨_,rfl⟩;have bK:Below w.heap.size w W0:=by rw[bP];exact((Ib _ _).alloc (Ie _) _).alloc (by simp) _
 have HI0:Hid (W0.heap[w.heap.size]?=AI (By #[J pn n0 cn,J pl m0 cl] 27 (0,0))/\W0.heap[w.heap.size+1]?=AI (By #[J be 0 0,J be 0 0] 27 (0,0))/\(fC u t0 (J pn n0 cn) (J pl m0 cl)\/eP (w.heap.size+2) W0 t0 (J pn n0 cn) (J pl m0 cl))/\(bE t0/\I 0 t0/\0<=40)/\t0.ns.length=n0/\Below w.heap.size w W0):=by
  refine⟨?_,?_,.inl h,⟨hr.1,hr.2,by omega⟩,hn1,bK⟩
  .rw[bP];exact(Lib.alloc_old _ _ _ (by simp)).trans (Ij w _)
  .rw[bP]
   have:=Ij (w.alloc (By #[J pn n0 cn,J pl m0 cl] 27)) (By #[J be 0 0,J be 0 0] 27);simpa using this
 have Rn:(l.length:Int)<=9223372036854775807:=by unfold maxLen at Nz;omega
 clear hV hIs hI hM hu hl h hr bK hn1 kb Nz;generalize hnn:l.length=n at *;go_enter Tryz.func7,Tryz.ntmps7;go_wp2_with fail;rw[<- bP];clear bP;go_loopw [8] (λi wr=>∃(k n1 c1 l1 q1:Nat) (a1 d1:Option Addr) (t:Nt),k<=n/\i=U O k/\Hid (wr.heap[w.heap.size]?=AI (By #[J a1 n1 c1,J d1 l1 q1] 27 (0,0))/\wr.heap[w.heap.size+1]?=AI (By #[J be 0 0,J be 0 0] 27 (0,0))/\(fC u t (J a1 n1 c1) (J d1 l1 q1)\/eP (w.heap.size+2) wr t (J a1 n1 c1) (J d1 l1 q1))/\(bE t/\I k t/\k<=40)/\t.ns.length=n0/\Below w.heap.size w wr)) (λi _=>n-(intOf i).toNat)
 case atStart=>exact⟨0,n0,cn,m0,cl,pn,pl,t0,IF _,rfl,HI0⟩
 case round=>
  obtain⟨k,n1,c1,l1,q1,a1,d1,t,hk,rfl,HR⟩:=hrel;by_cases aX:k<n/\k<40
  .have hd:=decide_eq_true (by omega)
   have aj6:decide ((k:Int)<40)=true:=decide_eq_true (by omega);obtain⟨G,off,nc,hvo,hrg⟩:=HEV.out k aX.1;subst nc;have EJ:Hid (∀W,Below wr.heap.size wr W->Calls AS 9 #[Ik #[J a1 n1 c1,J d1 l1 q1],Ik (Cv (l.getD k Rq))] W λe w'=>Below W.heap.size W w'/\∃a2 n2 c2 d2 l2 q2 er,e=AT (Ip #[Ik #[J a2 n2 c2,J d2 l2 q2],U O er])/\Hid (er=0->∃t',AE t t'/\eP W.heap.size w' t' (J a2 n2 c2) (J d2 l2 q2))):=λW hW=>by
    obtain⟨_,_,i3,i4,_,i6⟩:=HR.out;refine(PD t _ _ (l.getD k Rq) W (HV.out.after (i6.trans (hW.mono i6.size))) ((Inv.is i3 i4.1 (HU.out _ i6)).below hW) i4.1 hvo).mono ?_;rintro e w' ⟨hb,⟨er,aP,_,rfl⟩|⟨t',a2,n2,c2,d2,l2,q2,hx,rfl,hN⟩⟩
    .exact⟨hb,_,_,_,_,_,_,er,rfl,λhz=>absurd hz aP⟩
    .exact⟨hb,_,_,_,_,_,_,0,rfl,λ_=>⟨t',hx,hN⟩⟩
   have LZ:Hid (∀W,Below wr.heap.size wr W->W.heap[w.heap.size]?=AI (By #[J a1 n1 c1,J d1 l1 q1] 27 (0,0))/\W.rangeAt G (off+k*19) (Cv (l.getD k Rq)).toList):=λW hW=>by
    obtain⟨i1,_,_,_,_,i6⟩:=HR.out;exact⟨(hW.block _ (BY.1 i1).1).trans i1,hrg W (i6.trans (hW.mono i6.size))⟩
   have yW:(k:Int)<(n:Int):=by omega
   have kt:¬ (k:Int)<0:=by omega
   have ji:(0:Int)<=(k:Int):=by omega
   have kV:((k:Int)).toNat=k:=by omega
   have Xy:Hid (k<n):=aX.1;have PM:Hid (k+1<=40):=aX.2;clear hrg hvo aX;generalize l.getD k Rq=v at *;go_upto_region 4 with fail
   go_cut [9,10] from 11 to 38 (λp9 e10 wx=>∃(B9 n2 c2 l2 q2:Nat) (a2 d2:Option Addr) (er:Int),p9=If (AI ⟨B9,0,be⟩)/\e10=U O er/\Hid (wx.heap[B9]?=AI (By #[J a2 n2 c2,J d2 l2 q2] 27 (0,0))/\wr.heap.size<=B9)/\Hid ((er=0->∃t',AE t t'/\eP wr.heap.size wx t' (J a2 n2 c2) (J d2 l2 q2))/\Below wr.heap.size wr wx))
   case first=>
    clear HR HEV nL FB HMO PM HU Xy HV;refine wp_region_held_drew (S:=λW=>W.heap[w.heap.size]?=AI (By #[J a1 n1 c1,J d1 l1 q1] 27 (0,0))/\W.rangeAt G (off+k*19) (Cv v).toList) (by kernel_rfl) (LZ.out _ (Ib _ _).drew) (λcf=>?_);refine cC 0 (v:=Ik #[J a1 n1 c1,J d1 l1 q1]) ?_ (hy:=Or.inl ⟨by rfl,λW Rh=>pS 27 (.tmp 3) rfl w.heap.size rfl 27 #[J a1 n1 c1,J d1 l1 q1] (0,0) _ Rh.1 Tryz.underlying27 rfl (by kernel_rfl)⟩);refine cC 1 (v:=J (AI ⟨G,off,be⟩) n lc) ?_;refine cC 2 (v:=U O (k:Int)) ?_;refine cC 3 (v:=If (AI ⟨G,off+k*19,be⟩)) ?_;refine cC 4 (v:=Ik (Cv v)) ?_ (hy:=Or.inl ⟨by rfl,λW Rh=>xC 40 (.tmp 25) rfl G (off+k*19) rfl (Cv v).toList _ Rh.2 Tryz.underlying40 rfl (by kernel_rfl)⟩);refine wpAnyH_ready (rs:=[5,9]) (by kernel_rfl) (by simp) ?_;refine AllReadyH.cons rfl (λK hK=>?_) (AllReadyH.cons rfl (λK hK=>?_) AllReadyH.nil)
    .have HK:Hid _:=hK
     clear hK;go_simp;refine Calls.mono (EJ.out _ (Ib _ _).drew) ?_;rintro e w5 ⟨j9,a2,n2,c2,d2,l2,q2,er,rfl,Dv⟩;have jd:Hid _:=(Ib wr.heap.size wr).drew.trans j9;clear j9 EJ;refine HK.out _ _ (LZ.out w5 jd.out) (λcf=>?_);clear HK K;refine cC 6 (v:=Ip #[Ik #[J a2 n2 c2,J d2 l2 q2],U O er]) ?_;refine cC 7 (v:=Ik #[J a2 n2 c2,J d2 l2 q2]) ?_;refine cC 8 (v:=U O er) ?_;refine cH 9 (λK hK=>?_);have HK:Hid _:=hK;clear hK;go_simp;have tL:Hid (Below wr.heap.size wr (w5.alloc (By #[J be 0 0,J be 0 0] 27))):=jd.out.alloc jd.out.size _;refine HK.out _ _ (LZ.out _ tL.out) (λcf=>?_);clear HK K;refine cH 10 (λK hK=>?_);have HK:Hid _:=hK;clear hK;go_simp;have Gx:Hid (Below wr.heap.size wr (w5.alloc (By #[J a2 n2 c2,J d2 l2 q2] 27))):=jd.out.alloc jd.out.size _;refine HK.out _ _ (LZ.out _ Gx.out) (λcf=>?_);clear HK K;refine cC 11 (v:=U O er) ?_;refine QM (by kernel_rfl) ?_ _;clear cf;go_wp2_with fail;go_meet
     case rel=>exact⟨w5.heap.size,n2,c2,l2,q2,a2,d2,er,rfl,rfl,⟨Ij w5 _,jd.out.size⟩,⟨λhz=>by
      obtain⟨t',hx,hN⟩:=Dv.out hz;exact⟨t',hx,hN.fN (λb _ hb=>((Ib w5.heap.size w5).alloc (Ie _) _).block b hb)⟩,Gx.out⟩⟩
    .have HK:Hid _:=hK
     clear hK;go_simp;have tL:Hid (Below wr.heap.size wr ((wr.alloc (By #[J be 0 0,J be 0 0] 27)).drew)):=((Ib wr.heap.size wr).alloc (Ie _) _).drew;have FH:((wr.alloc (By #[J be 0 0,J be 0 0] 27)).drew).heap[wr.heap.size]?=AI (By #[J be 0 0,J be 0 0] 27 (0,0)):=Ij wr _;have hs6:((wr.alloc (By #[J be 0 0,J be 0 0] 27)).drew).heap.size=wr.heap.size+1:=by simp
     refine HK.out _ _ (LZ.out _ tL.out) (λcf=>?_);clear HK K;generalize(wr.alloc (By #[J be 0 0,J be 0 0] 27)).drew=W6b at *;have HS6:Hid _:=hs6;clear hs6;refine cH 5 (λK hK=>?_);have HK:Hid _:=hK;clear hK;go_simp;refine Calls.mono (EJ.out _ tL.out) ?_;rintro e w5 ⟨j9,a2,n2,c2,d2,l2,q2,er,rfl,Dv⟩;have jd:Hid _:=tL.out.trans (j9.mono tL.out.size);have mc:=(j9.block _ (BY.1 FH).1).trans FH;clear j9 EJ FH;refine HK.out _ _ (LZ.out w5 jd.out) (λcf=>?_);clear HK K;refine cC 6 (v:=Ip #[Ik #[J a2 n2 c2,J d2 l2 q2],U O er]) ?_;refine cC 7 (v:=Ik #[J a2 n2 c2,J d2 l2 q2]) ?_;refine cC 8 (v:=U O er) ?_;obtain⟨W7,Hc⟩:∃W7,W7=aF wr.heap.size [J a2 n2 c2,J d2 l2 q2] 0 w5:=⟨_,rfl⟩;have Sc:Hid (W7.heap[wr.heap.size]?=AI (By #[J a2 n2 c2,J d2 l2 q2] 27 (0,0))):=by show _=_;rw[Hc];exact bB [J a2 n2 c2,J d2 l2 q2] [] [J be 0 0,J be 0 0] mc rfl
     have HN7:Hid ((er=0->∃t',AE t t'/\eP wr.heap.size W7 t' (J a2 n2 c2) (J d2 l2 q2))/\Below wr.heap.size wr W7):=by
      refine⟨λhz=>?_,by rw[Hc];exact aU (Ie _) _ _ jd.out⟩;obtain⟨t',hx,nb7,L7,e1,e2,e3,e4⟩:=Dv.out hz;have hle:=HS6.out;have tw:∀b,W6b.heap.size<=b->b<w5.heap.size->W7.heap[b]?=w5.heap[b]?:=λb hb _=>by rw[Hc];exact bc (by omega) _ _ _
      exact⟨t',hx,nb7,L7,e1,e2,(e3.fN tw).mono (by omega),Lt.Own.mono (eO tw e4) (by omega)⟩
     have g0:=ae mc 0;have g1:=ae mc 1;have f0:=aA mc 0;have f1:=aA mc 1;clear mc;refine cH 10 (λK hK=>?_);have HK:Hid _:=hK;clear hK;go_simp;simp only[aF,ID] at Hc;rw[<- Hc];clear Hc g0 g1 f0 f1;refine HK.out _ _ (LZ.out _ HN7.out.2) (λcf=>?_);clear HK K;refine cC 11 (v:=U O er) ?_;refine QM (by kernel_rfl) ?_ _;clear cf;go_wp2_with fail;go_meet
     case rel=>exact⟨wr.heap.size,n2,c2,l2,q2,a2,d2,er,rfl,rfl,⟨Sc.out,Ie _⟩,HN7.out⟩
   case rest=>
    obtain⟨B9,n2,c2,l2,q2,a2,d2,er,rfl,rfl,H9,HN9⟩:=hcut;have Fh:IntKind.i64.wrap ((k:Int)+1)=(k:Int)+1:=by rw[IntKind.wrap_i64];omega
    by_cases her:er=0
    .subst her
     obtain⟨t',hx,hN⟩:=HN9.out.1 rfl;have Bb:=HN9.out.2;obtain⟨i1,i2,i3,i4,i5,i6⟩:=HR.out;have i7:=Inv.is i3 i4.1 (HU.out _ i6);have TZ:=mF i4.1 i7.ns.ok hx;have hi':=FB.out k t t' i4.1 TZ i4.2.1 hx;have DS:=(BY.1 i2).1;have HC:=nL.out wc t t' a1 n1 c1 d1 l1 q1 a2 n2 c2 d2 l2 q2 (i6.trans (Bb.mono i6.size)) (i7.below Bb) (sq hN TZ.right) i4.1 TZ;have mc:=(Bb.block _ (by omega)).trans i1;have jV:=(Bb.block _ DS).trans i2;have y0:=ae H9.out.1 0;have y1:=ae H9.out.1 1;have g0:=ae mc 0;have g1:=ae mc 1;have HG:Hid (∀W,Below wc.heap.size wc W->W.heap[B9]?=AI (By #[J a2 n2 c2,J d2 l2 q2] 27 (0,0))/\W.heap[w.heap.size]?=AI (By #[J a1 n1 c1,J d1 l1 q1] 27 (0,0))/\W.heap[w.heap.size+1]?=AI (By #[J be 0 0,J be 0 0] 27 (0,0))/\B9≠w.heap.size/\Below w.heap.size w W/\∀W8,W8=aF w.heap.size [J a2 n2 c2,J d2 l2 q2] 0 W->W8.heap[w.heap.size]?=AI (By #[J a2 n2 c2,J d2 l2 q2] 27 (0,0))/\W8.heap[w.heap.size+1]?=AI (By #[J be 0 0,J be 0 0] 27 (0,0))/\(fC u t' (J a2 n2 c2) (J d2 l2 q2)\/eP (w.heap.size+2) W8 t' (J a2 n2 c2) (J d2 l2 q2))/\(bE t'/\I (k+1) t'/\k+1<=40)/\t'.ns.length=n0/\Below w.heap.size w W8):=λW hW=>by
      have k1:=(hW.block B9 (BY.1 H9.out.1).1).trans H9.out.1;have k2:=(hW.block _ (BY.1 mc).1).trans mc;have k3:=(hW.block _ (BY.1 jV).1).trans jV;have k4:=(i6.trans (Bb.mono i6.size)).trans (hW.mono (Is i6.size Bb.size));have hle:=H9.out.2;refine⟨k1,k2,k3,by omega,k4,λW8 e8=>?_⟩;have eU:∀q,q≠w.heap.size->W8.heap[q]?=W.heap[q]?:=λq hq=>by rw[e8];exact bc hq _ _ _
      refine⟨by rw[e8];exact bB [J a2 n2 c2,J d2 l2 q2] [] [J a1 n1 c1,J d1 l1 q1] k2 rfl,(eU _ (by omega)).trans k3,?_,⟨TZ.right,hi',PM.out⟩,TZ.len.trans i5,by rw[e8];exact aU (Ie _) _ _ k4⟩;exact .inr (((hN.fN (λb _ hb=>hW.block b hb)).fN (λb hb _=>eU b (by omega))).mono (by omega))
     clear hN Bb i1 i2 i3 i4 i5 i6 i7 hi' PM TZ DS mc jV hx HN9 H9 HR EJ LZ;go_wp2_with fail;refine HC.mono ?_;rintro e w6 ⟨rfl,tN⟩;obtain⟨j1,j2,j3,j4,j5,j6⟩:=HG.out w6 tN;clear y0 y1 g0 g1 HC;have y0:=ae j1 0;have y1:=ae j1 1;have g0:=ae j2 0;have g1:=ae j2 1;have f0:=aA j2 0;have f1:=aA j2 1;obtain⟨W8,Gb⟩:∃W8,W8=aF w.heap.size [J a2 n2 c2,J d2 l2 q2] 0 w6:=⟨_,rfl⟩;have HR8:=j6 W8 Gb;have aj7:Hid _:=HR8;clear HR8 j1 j2 j3 j5 j6 HG tN;go_wp2_with fail;simp only[aF,ID] at Gb;rw[<- Gb];clear Gb y0 y1 g0 g1 f0 f1;go_roundw
     case rel=>exact⟨k+1,n2,c2,l2,q2,a2,d2,t',by have:=Xy.out;omega,by go_num,aj7⟩
     case measure=>simp[intOf];have:=Xy.out;omega
    .have hd2:(er==0)=false:=by simpa using her
     have hd3:(er !=0)=true:=by simpa using her
     have HR8:Hid (wc.heap[w.heap.size]?=AI (By #[J a1 n1 c1,J d1 l1 q1] 27 (0,0))/\wc.heap[w.heap.size+1]?=AI (By #[J be 0 0,J be 0 0] 27 (0,0))/\(fC u t (J a1 n1 c1) (J d1 l1 q1)\/eP (w.heap.size+2) wc t (J a1 n1 c1) (J d1 l1 q1))/\(bE t/\I (k+1) t/\k+1<=40)/\t.ns.length=n0/\Below w.heap.size w wc):=by
      obtain⟨i1,i2,i3,i4,i5,i6⟩:=HR.out;have Bb:=HN9.out.2;exact⟨(Bb.block _ (BY.1 i1).1).trans i1,(Bb.block _ (BY.1 i2).1).trans i2,i3.imp id (λh=>h.fN (λb _ hb=>Bb.block b hb)),⟨i4.1,HMO.out _ _ i4.2.1,PM.out⟩,i5,i6.trans (Bb.mono i6.size)⟩
     clear HR HN9 H9 EJ LZ her PM;go_wp2_with fail;go_roundw
     case rel=>exact⟨k+1,n1,c1,l1,q1,a1,d1,t,by have:=Xy.out;omega,by go_num,HR8⟩
     case measure=>simp[intOf];have:=Xy.out;omega
  .have hdd:(k:Int)<(n:Int)->¬ (k:Int)<40:=λh1 h2=>aX ⟨by omega,by omega⟩
   obtain⟨i1,i2,i3,i4,i5,i6⟩:=HR.out;have x0:=ae i1 0;have x1:=ae i1 1;have g0:=ae i2 0;have g1:=ae i2 1;have f0:=aA i2 0;have f1:=aA i2 1;obtain⟨W8,Gb⟩:∃W8,W8=aF (w.heap.size+1) [J a1 n1 c1,J d1 l1 q1] 0 wr:=⟨_,rfl⟩;have hk8:W8.heap[w.heap.size+1]?=AI (By #[J a1 n1 c1,J d1 l1 q1] 27 (0,0)):=by rw[Gb];exact bB [J a1 n1 c1,J d1 l1 q1] [] [J be 0 0,J be 0 0] i2 rfl
   have iO:Hid (Below w.heap.size w W8/\(fC u t (J a1 n1 c1) (J d1 l1 q1)\/eP (w.heap.size+2) W8 t (J a1 n1 c1) (J d1 l1 q1))/\(bE t/\∃i,i<=40/\I i t)/\t.ns.length=n0):=by
    have hb8:Below w.heap.size w W8:=by rw[Gb];exact aU (by omega) _ _ i6
    exact⟨hb8,i3.imp id (λi3=>i3.fN (λb hb _=>by rw[Gb];exact bc (by omega) _ _ _)),⟨i4.1,k,i4.2.2,i4.2.1⟩,i5⟩
   have q0:=ae hk8 0;have q1':=ae hk8 1;clear HR HEV nL FB HMO HU HV i1 i2 i3 i4 i5 i6 hk8;by_cases eJ:k<n
   .have hd:=decide_eq_true (by omega)
    have aj6:=decide_eq_false (hdd (by omega));clear hdd aX;go_wp2_with fail;simp only[aF,ID] at Gb;rw[<- Gb];clear Gb x0 x1 g0 g1 f0 f1;exact IL (v:=Ip #[Ik #[J a1 n1 c1,J d1 l1 q1],Ia true]) (by simp[results,Tryz.results7,go_sem,q0,q1']) rfl ⟨iO.out.1,t,_,_,_,_,_,_,rfl,iO.out.2⟩
   .have hd:=decide_eq_false (by omega)
    clear hdd aX;go_wp2_with fail;simp only[aF,ID] at Gb;rw[<- Gb];clear Gb x0 x1 g0 g1 f0 f1;exact IL (v:=Ip #[Ik #[J a1 n1 c1,J d1 l1 q1],Ia true]) (by simp[results,Tryz.results7,go_sem,q0,q1']) rfl ⟨iO.out.1,t,_,_,_,_,_,_,rfl,iO.out.2⟩
theorem Ey(a1 d1 a2 d2:Option Addr)(m1 c1 l1 q1 m2 c2 l2 q2:Nat)(w:World):Calls AS 8 #[Ik #[J a1 m1 c1,J d1 l1 q1],Ik #[J a2 m2 c2,J d2 l2 q2]] w λe w'=>e=AT (Ia true)/\Below w.heap.size w w':=by
 go_enter Tryz.func8,Tryz.ntmps8;go_wp2_with fail;go_ret;exact⟨rfl,((Ib _ _).alloc (Ie _) _).alloc (by simp) _⟩
end Go.Proofs.YtbfghimjdlpicaaGreatDoor
namespace Go.Proofs.YtbfghimjdlpicaaGreatDoor
namespace Sv
open Go.RowKit
theorem kH(a b:List aV)(va vb:Value)(w:World)(ha:Sl w va a)(hb:Sl w vb b)(xM:a.length<=1000) :
 Calls AS 47 #[va,vb] w λe w'=>∃r:Bool,e=AT (Ia r)/\(r=true↔a=b)/\Below w.heap.size w w':=by
 obtain⟨pa,ca,rfl,_,ha⟩:=ha;obtain⟨pv,cb,rfl,_,hb⟩:=hb;by_cases hl:a.length=b.length
 .have HA:Hid (a=[]\/∃b off,pa=AI ⟨b,off,be⟩/\b<w.heap.size/\Row w b off a):=ha
  have HB:Hid _:=hb;have HL:Hid (a.length=b.length):=hl;clear ha hb;rw[<- hl];clear hl;generalize tu:a.length=n at *;have HN:Hid (a.length=n):=tu;clear tu;have abG:Tryz.prog.eqGuardType Tryz.prog.depth 38=false:=by kernel_rfl
  go_enter Tryz.func47,Tryz.ntmps47;go_wp2_with fail;go_loopw [13] (λi w'=>∃k:Nat,k<=n/\i=U O k/\Below w.heap.size w w'/\Hid (∀j,j<k->a.getD j dm=b.getD j dm)) (λi _=>n-(intOf i).toNat)
  case atStart=>exact⟨0,IF _,rfl,Ib _ _,λj h=>absurd h (Jj _)⟩
  case round=>
   obtain⟨k,hk,rfl,aO,hz⟩:=hrel;obtain⟨cK,kj⟩:=cd aO;have cB:=aO.size;by_cases aX:k<n
   .obtain⟨b1,o1,ru,kb,ku⟩:∃b off,pa=AI ⟨b,off,be⟩/\b<w.heap.size/\Row w b off a:=by
     rcases HA.out with h|h
     .have:=HN.out;rw[h] at this;simp at this;omega
     .exact h
    obtain⟨b2,o2,qW,jE,mI⟩:∃nf off,pv=AI ⟨nf,off,be⟩/\nf<w.heap.size/\Row w nf off b:=by
     rcases HB.out with h|h
     .have h2:=HN.out;have h3:=HL.out;rw[h] at h3;simp at h3;omega
     .exact h
    subst ru;subst qW;obtain⟨c0,c1,c2,c3,c4,c5,c6,c7,c8⟩:=ku k (by rw[HN.out];exact aX);obtain⟨d0,d1,d2,d3,d4,d5,d6,d7,d8⟩:=mI k (by have h2:=HN.out;have h3:=HL.out;omega);clear ku mI;have HF:Hid (a.getD k dm≠b.getD k dm->a≠b):=λh e=>h (by rw[e]);have HZ:Hid (a.getD k dm=b.getD k dm->∀j,j<k+1->a.getD j dm=b.getD j dm):=λh j hj=>by
     rcases Nat.lt_succ_iff_lt_or_eq.1 hj with h2|rfl
     .exact hz.out j h2
     .exact h
    have qF:=Se (a.getD k dm) (b.getD k dm);generalize a.getD k dm=m1 at *;generalize b.getD k dm=m2 at *;rcases hs:gQ m1 m2 with _|_
    .rw[hs] at qF
     have aP:Hid (a≠b):=HF.out (λe=>by rw[<- fK,hs] at e;cases e);go_wp2_with fail;go_quiet (fail)
     go_wp2_with fail;go_ret;exact⟨false,rfl,⟨λh=>(by cases h),λh=>absurd h aP.out⟩,below_drewN aO _⟩
    .rw[hs] at qF
     have heq:Hid (m1=m2):=(fK m1 m2).1 hs;go_wp2_with fail;go_quiet (fail)
     go_wp2_with fail;go_roundw
     case rel=>exact⟨k+1,by omega,by go_num,below_drewN aO _,HZ.out heq.out⟩
     case measure=>simp[intOf];omega
   .have gF:Hid (a=b):=by
     apply List.ext_getElem (HN.out.trans HL.out);intro j h1 h2;have:=hz.out j (by have:=HN.out;omega);simpa[Ir,Ic h1,Ic h2] using this
    go_wp2_with fail;go_ret;exact⟨true,rfl,⟨λ_=>gF.out,λ_=>rfl⟩,aO⟩
 .have aP:((a.length:Int)!=(b.length:Int))=true:=by rw[bne_iff_ne];omega
  have HF:Hid (a≠b):=λe=>hl (by rw[e]);clear ha hb;go_enter Tryz.func47,Tryz.ntmps47;go_wp2_with fail;go_ret;exact⟨false,rfl,⟨λh=>(by cases h),λh=>absurd h HF.out⟩,Ib _ _⟩
end Sv
end Go.Proofs.YtbfghimjdlpicaaGreatDoor
namespace Go.Proofs.YtbfghimjdlpicaaGreatDoor
open Go.RowKit
def Gc(a b:Nd):Prop:=a.ms=b.ms/\a.sv=b.sv/\a.gw=b.gw
theorem Ai(p:Prop):∃r:Bool,r=true↔p:=by
 by_cases h:p
 .exact⟨true,by simp[h]⟩
 .exact⟨false,by simp[h]⟩
theorem Aj{r s:Bool}{p:Prop}(h1:r=true↔p)(h2:s=true↔p):r=s:=by
 cases r<;>cases s<;>simp_all
theorem Calls.nW{f:FuncId}{args:Array Value}{w:World}{p:Prop}{r:Bool}(hr:r=true↔p)(h:Calls AS f args w λe w'=>∃r:Bool,e=AT (Ia r)/\(r=true↔p)/\Below w.heap.size w w'):Calls AS f args w λe w'=>e=AT (Ia r)/\Below w.heap.size w w':=by
 refine h.mono ?_;rintro e w' ⟨s,rfl,hs,hb⟩;exact⟨by rw[Aj hs hr],hb⟩
theorem TA(a0 a1:ByteArray)(L0 Rr L1 L2 xD:Option Addr)(L3 oO Rt pI L5 oP L6 oQ xE xF:Nat)(a6 a7 a8 a9 a10:Int)(b0 b1:ByteArray)(PN TB PO PQ Ak:Option Addr)(PR En TC K3 PS Eo PU Ep Al Am:Nat)(b6 b7 b8 b9 b10:Int)(r1 r2 r3:Bool)(w:World)(h1:∀W,Below w.heap.size w W->Calls AS 46 #[J L0 L3 oO,J PN PR En] W λe w'=>e=AT (Ia r1)/\Below W.heap.size W w')(h2:∀W,Below w.heap.size w W->Calls AS 47 #[J L1 L5 oP,J PO PS Eo] W λe w'=>e=AT (Ia r2)/\Below W.heap.size W w')(h3:∀W,Below w.heap.size w W->Calls AS 48 #[J L2 L6 oQ,J PQ PU Ep] W λe w'=>e=AT (Ia r3)/\Below W.heap.size W w') :
 Calls AS 26 #[Ik #[Y a0,Y a1,J L0 L3 oO,J Rr Rt pI,J L1 L5 oP,J L2 L6 oQ,U O a6,U O a7,U O a8,U O a9,U O a10,J xD xE xF],Ik #[Y b0,Y b1,J PN PR En,J TB TC K3,J PO PS Eo,J PQ PU Ep,U O b6,U O b7,U O b8,U O b9,U O b10,J Ak Al Am]] w λe w'=>e=AT (Ia (r1&&(r2&&r3)))/\Below w.heap.size w w':=by
 have H1:Hid _:=h1;have H2:Hid _:=h2;have H3:Hid _:=h3;clear h1 h2 h3;obtain⟨W0,bP⟩:∃W0,W0=(w.alloc (By #[Y a0,Y a1,J L0 L3 oO,J Rr Rt pI,J L1 L5 oP,J L2 L6 oQ,U O a6,U O a7,U O a8,U O a9,U O a10,J xD xE xF] 50)).alloc (By #[Y b0,Y b1,J PN PR En,J TB TC K3,J PO PS Eo,J PQ PU Ep,U O b6,U O b7,U O b8,U O b9,U O b10,J Ak Al Am] 50):=⟨_,rfl⟩;have bK:Below w.heap.size w W0:=by rw[bP];exact((Ib _ _).alloc (Ie _) _).alloc (by simp) _
 have k0:W0.heap[w.heap.size]?=AI (By #[Y a0,Y a1,J L0 L3 oO,J Rr Rt pI,J L1 L5 oP,J L2 L6 oQ,U O a6,U O a7,U O a8,U O a9,U O a10,J xD xE xF] 50 (0,0)):=by
  rw[bP];exact(Lib.alloc_old _ _ _ (by simp)).trans (Ij w _)
 have k1:W0.heap[w.heap.size+1]?=AI (By #[Y b0,Y b1,J PN PR En,J TB TC K3,J PO PS Eo,J PQ PU Ep,U O b6,U O b7,U O b8,U O b9,U O b10,J Ak Al Am] 50 (0,0)):=by
  rw[bP];have:=Ij (w.alloc (By #[Y a0,Y a1,J L0 L3 oO,J Rr Rt pI,J L1 L5 oP,J L2 L6 oQ,U O a6,U O a7,U O a8,U O a9,U O a10,J xD xE xF] 50)) (By #[Y b0,Y b1,J PN PR En,J TB TC K3,J PO PS Eo,J PQ PU Ep,U O b6,U O b7,U O b8,U O b9,U O b10,J Ak Al Am] 50);simpa using this
 have HX:Hid (∀W,Below W0.heap.size W0 W->W.cell? ⟨w.heap.size,2,be⟩=AI (J L0 L3 oO)/\W.cell? ⟨w.heap.size+1,2,be⟩=AI (J PN PR En)/\W.cell? ⟨w.heap.size,4,be⟩=AI (J L1 L5 oP)/\W.cell? ⟨w.heap.size+1,4,be⟩=AI (J PO PS Eo)/\W.cell? ⟨w.heap.size,5,be⟩=AI (J L2 L6 oQ)/\W.cell? ⟨w.heap.size+1,5,be⟩=AI (J PQ PU Ep)):=λW hW=>by
  have g0:=(hW.block _ (BY.1 k0).1).trans k0;have g1:=(hW.block _ (BY.1 k1).1).trans k1;exact⟨ae g0 2,ae g1 2,ae g0 4,ae g1 4,ae g0 5,ae g1 5⟩
 have df:Hid (Below w.heap.size w W0):=bK;obtain⟨x2,y2,x4,y4,x5,y5⟩:=HX.out W0 (Ib _ _);clear bK k0 k1;go_enter Tryz.func26,Tryz.ntmps26;go_upto_region 1 with fail
 rw[<- bP];clear bP;go_wp2_with fail;refine(H1.out W0 df.out).mono ?_;rintro e w1 ⟨rfl,aC⟩;have wA:Hid (Below W0.heap.size W0 w1):=aC;have aZ:Hid (Below w.heap.size w w1):=df.out.trans (aC.mono df.out.size);clear aC x2 y2 x4 y4 x5 y5;obtain⟨x2,y2,x4,y4,x5,y5⟩:=HX.out w1 wA.out;rcases r1 with _|_
 .go_wp2_with fail
  go_ret;exact⟨rfl,aZ.out⟩
 go_wp2_with fail;refine(H2.out w1 aZ.out).mono ?_;rintro e w2 ⟨rfl,aL⟩;have ud:Hid (Below W0.heap.size W0 w2):=wA.out.trans (aL.mono wA.out.size);have bA:Hid (Below w.heap.size w w2):=aZ.out.trans (aL.mono aZ.out.size);clear aL x2 y2 x4 y4 x5 y5;obtain⟨x2,y2,x4,y4,x5,y5⟩:=HX.out w2 ud.out;rcases r2 with _|_
 .go_wp2_with fail
  go_ret;exact⟨rfl,bA.out⟩
 go_wp2_with fail;refine(H3.out w2 bA.out).mono ?_;rintro e w3 ⟨rfl,bY⟩;have cF:Hid (Below w.heap.size w w3):=bA.out.trans (bY.mono bA.out.size);clear bY x2 y2 x4 y4 x5 y5;go_wp2_with fail;go_ret;exact⟨rfl,cF.out⟩
theorem PV(a b:Nd)(am ar zp ag aw bm br bs bg bw:Value)(r:Bool)(w:World)(ha:eY w a am ar zp ag aw)(hb:eY w b bm br bs bg bw)(la:a.ms.length<=1000/\a.sv.length<=1000/\a.gw.length<=1000)(hr:r=true↔Gc a b) :
 Calls AS 26 #[Ik (dE a am ar zp ag aw),Ik (dE b bm br bs bg bw)] w λe w'=>e=AT (Ia r)/\Below w.heap.size w w':=by
 obtain⟨r1,e1⟩:=Ai (a.ms=b.ms);obtain⟨r2,e2⟩:=Ai (a.sv=b.sv);obtain⟨r3,e3⟩:=Ai (a.gw=b.gw);have DY:r=(r1&&(r2&&r3)):=Aj hr (by simp only[Bool.and_eq_true,e1,e2,e3,Gc]);have HA:=ha;have HB:=hb;obtain⟨⟨x2,c2,rfl,_,_⟩,⟨x3,c3,rfl,_,_⟩,⟨x4,c4,rfl,_,_⟩,⟨x5,c5,rfl,_,_⟩,⟨x6,c6,rfl,_,_⟩,_,_⟩:=ha;obtain⟨⟨y2,d2,rfl,_,_⟩,⟨y3,d3,rfl,_,_⟩,⟨y4,d4,rfl,_,_⟩,⟨y5,d5,rfl,_,_⟩,⟨y6,d6,rfl,_,_⟩,_,_⟩:=hb;rw[DY];exact TA _ _ _ _ _ _ _ _ _ _ _ _ _ _ _ _ _ _ _ _ _ _ _ _ _ _ _ _ _ _ _ _ _ _ _ _ _ _ _ _ _ _ _ _ r1 r2 r3 w (λW hW=>Calls.nW e1 (kH _ _ _ _ W (HA.below hW).ms (HB.below hW).ms la.1)) (λW hW=>Calls.nW e2 (Sv.kH _ _ _ _ W (HA.below hW).sv (HB.below hW).sv la.2.1)) (λW hW=>Calls.nW e3 (Gw.kH _ _ _ _ W (HA.below hW).gw (HB.below hW).gw la.2.2))
theorem Lb(b off n cap nx:Nat)(a0 a1:ByteArray)(L0 Rr L1 L2 xD:Option Addr)(L3 oO Rt pI L5 oP L6 oQ xE xF:Nat)(a6 a7 a8 a9 a10:Int)(b0 b1:ByteArray)(PN TB PO PQ Ak:Option Addr)(PR En TC K3 PS Eo PU Ep Al Am:Nat)(b6 b7 b8 b9 b10:Int)(r:Bool)(w:World)(hn:0<n)(g0:w.cell? ⟨nx,0,be⟩=AI (J (AI ⟨b,off,be⟩) n cap))(c0:w.cell? ⟨b,off,be⟩=AI (Y b0))(c1:w.cell? ⟨b,off+1,be⟩=AI (Y b1))(c2:w.cell? ⟨b,off+2,be⟩=AI (J PN PR En))(c3:w.cell? ⟨b,off+3,be⟩=AI (J TB TC K3))(c4:w.cell? ⟨b,off+4,be⟩=AI (J PO PS Eo))(c5:w.cell? ⟨b,off+5,be⟩=AI (J PQ PU Ep))(c6:w.cell? ⟨b,off+6,be⟩=AI (U O b6))(c7:w.cell? ⟨b,off+7,be⟩=AI (U O b7))(c8:w.cell? ⟨b,off+8,be⟩=AI (U O b8))(c9:w.cell? ⟨b,off+9,be⟩=AI (U O b9))(c10:w.cell? ⟨b,off+10,be⟩=AI (U O b10))(c11:w.cell? ⟨b,off+11,be⟩=AI (J Ak Al Am))(hK:∀W,Below w.heap.size w W->Calls AS 26 #[Ik #[Y a0,Y a1,J L0 L3 oO,J Rr Rt pI,J L1 L5 oP,J L2 L6 oQ,U O a6,U O a7,U O a8,U O a9,U O a10,J xD xE xF],Ik #[Y b0,Y b1,J PN PR En,J TB TC K3,J PO PS Eo,J PQ PU Ep,U O b6,U O b7,U O b8,U O b9,U O b10,J Ak Al Am]] W λe w'=>e=AT (Ia r)/\Below W.heap.size W w') :
 Calls AS 25 #[Ik #[Y a0,Y a1,J L0 L3 oO,J Rr Rt pI,J L1 L5 oP,J L2 L6 oQ,U O a6,U O a7,U O a8,U O a9,U O a10,J xD xE xF],If (AI ⟨nx,0,be⟩)] w λe w'=>e=AT (Ia (!r))/\Below w.heap.size w w':=by
 have dv:nx<w.heap.size:=Iw w _ g0;have aO:b<w.heap.size:=Iw w _ c0;have HK:Hid _:=hK;have aX:(0:Int)<(n:Int):=by omega
 obtain⟨W0,bP,bK,-,k0⟩:=bV w #[Y a0,Y a1,J L0 L3 oO,J Rr Rt pI,J L1 L5 oP,J L2 L6 oQ,U O a6,U O a7,U O a8,U O a9,U O a10,J xD xE xF] 50;have df:Hid (Below w.heap.size w W0):=bK;clear hK;go_enter Tryz.func25,Tryz.ntmps25;go_upto_region 1 with fail
 rw[<- bP];clear bP;have G0:∀d os,(Ig (Im W0 d) os).cell? ⟨nx,0,be⟩=AI (J (AI ⟨b,off,be⟩) n cap):=Ih ((bK.cell (p:=⟨nx,0,be⟩) dv).trans g0);have F0:∀d os,(Ig (Im W0 d) os).cell? ⟨w.heap.size,0,be⟩=AI (Y a0):=Ih (ae k0 0);have F1:∀d os,(Ig (Im W0 d) os).cell? ⟨w.heap.size,1,be⟩=AI (Y a1):=Ih (ae k0 1);have F2:∀d os,(Ig (Im W0 d) os).cell? ⟨w.heap.size,2,be⟩=AI (J L0 L3 oO):=Ih (ae k0 2);have F3:∀d os,(Ig (Im W0 d) os).cell? ⟨w.heap.size,3,be⟩=AI (J Rr Rt pI):=Ih (ae k0 3);have F4:∀d os,(Ig (Im W0 d) os).cell? ⟨w.heap.size,4,be⟩=AI (J L1 L5 oP):=Ih (ae k0 4);have F5:∀d os,(Ig (Im W0 d) os).cell? ⟨w.heap.size,5,be⟩=AI (J L2 L6 oQ):=Ih (ae k0 5);have F6:∀d os,(Ig (Im W0 d) os).cell? ⟨w.heap.size,6,be⟩=AI (U O a6):=Ih (ae k0 6);have F7:∀d os,(Ig (Im W0 d) os).cell? ⟨w.heap.size,7,be⟩=AI (U O a7):=Ih (ae k0 7);have F8:∀d os,(Ig (Im W0 d) os).cell? ⟨w.heap.size,8,be⟩=AI (U O a8):=Ih (ae k0 8);have F9:∀d os,(Ig (Im W0 d) os).cell? ⟨w.heap.size,9,be⟩=AI (U O a9):=Ih (ae k0 9);have F10:∀d os,(Ig (Im W0 d) os).cell? ⟨w.heap.size,10,be⟩=AI (U O a10):=Ih (ae k0 10);have F11:∀d os,(Ig (Im W0 d) os).cell? ⟨w.heap.size,11,be⟩=AI (J xD xE xF):=Ih (ae k0 11);have E0:∀d os,(Ig (Im W0 d) os).cell? ⟨b,off,be⟩=AI (Y b0):=Ih ((bK.cell (p:=⟨b,off,be⟩) aO).trans c0);have E1:∀d os,(Ig (Im W0 d) os).cell? ⟨b,off+1,be⟩=AI (Y b1):=Ih ((bK.cell (p:=⟨b,off+1,be⟩) aO).trans c1);have E2:∀d os,(Ig (Im W0 d) os).cell? ⟨b,off+2,be⟩=AI (J PN PR En):=Ih ((bK.cell (p:=⟨b,off+2,be⟩) aO).trans c2);have E3:∀d os,(Ig (Im W0 d) os).cell? ⟨b,off+3,be⟩=AI (J TB TC K3):=Ih ((bK.cell (p:=⟨b,off+3,be⟩) aO).trans c3);have E4:∀d os,(Ig (Im W0 d) os).cell? ⟨b,off+4,be⟩=AI (J PO PS Eo):=Ih ((bK.cell (p:=⟨b,off+4,be⟩) aO).trans c4);have E5:∀d os,(Ig (Im W0 d) os).cell? ⟨b,off+5,be⟩=AI (J PQ PU Ep):=Ih ((bK.cell (p:=⟨b,off+5,be⟩) aO).trans c5);have E6:∀d os,(Ig (Im W0 d) os).cell? ⟨b,off+6,be⟩=AI (U O b6):=Ih ((bK.cell (p:=⟨b,off+6,be⟩) aO).trans c6);have E7:∀d os,(Ig (Im W0 d) os).cell? ⟨b,off+7,be⟩=AI (U O b7):=Ih ((bK.cell (p:=⟨b,off+7,be⟩) aO).trans c7);have E8:∀d os,(Ig (Im W0 d) os).cell? ⟨b,off+8,be⟩=AI (U O b8):=Ih ((bK.cell (p:=⟨b,off+8,be⟩) aO).trans c8);have E9:∀d os,(Ig (Im W0 d) os).cell? ⟨b,off+9,be⟩=AI (U O b9):=Ih ((bK.cell (p:=⟨b,off+9,be⟩) aO).trans c9);have E10:∀d os,(Ig (Im W0 d) os).cell? ⟨b,off+10,be⟩=AI (U O b10):=Ih ((bK.cell (p:=⟨b,off+10,be⟩) aO).trans c10);have E11:∀d os,(Ig (Im W0 d) os).cell? ⟨b,off+11,be⟩=AI (J Ak Al Am):=Ih ((bK.cell (p:=⟨b,off+11,be⟩) aO).trans c11);have C0:∀d os,Calls AS 26 #[Ik #[Y a0,Y a1,J L0 L3 oO,J Rr Rt pI,J L1 L5 oP,J L2 L6 oQ,U O a6,U O a7,U O a8,U O a9,U O a10,J xD xE xF],Ik #[Y b0,Y b1,J PN PR En,J TB TC K3,J PO PS Eo,J PQ PU Ep,U O b6,U O b7,U O b8,U O b9,U O b10,J Ak Al Am]] (Ig (Im W0 d) os) λe fR=>e=AT (Ia r)/\∃p:Regrown,fR=Ig (Im W0 p.d) p.os:=λd os=>Calls.regrown_of (HK.out _ (df.out.trans ((ON W0 d os).mono df.out.size)));clear c0 c1 c2 c3 c4 c5 c6 c7 c8 c9 c10 c11 g0 bK k0 dv aO;refine wp_region_quiet_below (by kernel_rfl) (by kernel_rfl) ?_;repeat(quiet_step (exact C0 _ _))
 refine wpQuiet_nil ?_;intro _ MS;obtain⟨⟨dq,gW⟩,Wz⟩:=MS;subst Wz;have dF:Hid (Below w.heap.size w (Ig (Im W0 dq) gW)):=df.out.trans ((ON W0 dq gW).mono df.out.size);clear C0 G0 F0 E0 F1 E1 F2 E2 F3 E3 F4 E4 F5 E5 F6 E6 F7 E7 F8 E8 F9 E9 F10 E10 F11 E11 df;go_wp2_with fail;go_ret;exact⟨rfl,dF.out⟩
theorem Ez(ns:List Nd)(v:Value)(nx:Nat)(p:Nat->Bool)(w:World)(hv:xv w v ns)(hn:ns.length<=6)(hp:∀j,j<ns.length->∀W vm vr vs vg vw,Below w.heap.size w W->eY W (ns.getD j aM) vm vr vs vg vw->Calls AS 25 #[Ik (dE (ns.getD j aM) vm vr vs vg vw),If (AI ⟨nx,0,be⟩)] W λe w'=>e=AT (Ia (p j))/\Below W.heap.size W w') :
 Calls AS 49 #[v,IQ (.func 25) #[] #[If (AI ⟨nx,0,be⟩)]] w λe w'=>∃x:Int,e=AT (U O x)/\(0<=x↔∃j,j<ns.length/\p j=true)/\Below w.heap.size w w':=by
 have eg:∀(args:Array Value) (W:World),(callFunc 25 args).run AS W=.ok (.enter 25 args) W:=enters_of Tryz.func25 (by kernel_rfl) rfl;obtain⟨pa,ca,rfl,ha⟩:=hv;have HA:Hid (ns=[]\/∃b off,pa=AI ⟨b,off,be⟩/\b<w.heap.size/\tX w b off ns):=ha;have HP:Hid _:=hp;clear ha hp;generalize hN:ns.length=n at *;have HN:Hid (ns.length=n):=hN;clear hN;go_enter Tryz.func49,Tryz.ntmps49;go_wp2_with fail;go_loopw [8] (λi wr=>∃k:Nat,k<=n/\i=U O k/\Hid (∀j,j<k->p j=false)/\Hid (Below w.heap.size w wr)) (λi _=>n-(intOf i).toNat)
 case atStart=>exact⟨0,IF _,rfl,λj hj=>absurd hj (Jj _),Ib _ _⟩
 case round=>
  obtain⟨k,hk,rfl,HZ,HB⟩:=hrel;by_cases aX:k<n
  .obtain⟨b,off,hpp,hl,hr⟩:∃b off,pa=AI ⟨b,off,be⟩/\b<w.heap.size/\tX w b off ns:=by
    rcases HA.out with h|h
    .have:=HN.out;rw[h] at this;simp at this;omega
    .exact h
   subst hpp;obtain⟨vm,vr,vs,vg,vw,GL,c0,c1,c2,c3,c4,c5,c6,c7,c8,c9,c10,c11⟩:=(hr.below HB.out hl).at (by rw[HN.out];exact aX);have HC:=HP.out k aX wr vm vr vs vg vw HB.out GL;have aaf:Hid (p k=true->∃j,j<n/\p j=true):=λh=>⟨k,aX,h⟩;have HNO:Hid (p k=false->∀j,j<k+1->p j=false):=λh j hj=>by
    by_cases e:j=k
    .subst e;exact h
    .exact HZ.out j (by omega)
   generalize(ns.getD k aM)=nk at *;obtain⟨⟨am,cm,ou,_,_⟩,⟨ar,cr,vc,_,_⟩,⟨ax,cx,tS,_,_⟩,⟨ag,cg,zk,_,_⟩,⟨aw,cw,LC,_,_⟩,_,_⟩:=GL;subst ou vc tS zk LC;obtain⟨nm,ct,ms,rs,sv,gw,⟨px,py,pz,ph,pq⟩,wh⟩:=nk;simp only[dE] at c0 c1 c2 c3 c4 c5 c6 c7 c8 c9 c10 c11 HC;generalize ms.length=nms at *;generalize rs.length=nrs at *;generalize sv.length=nsv at *;generalize gw.length=ngw at *;generalize wh.length=nwh at *;clear hr HZ;have eJ:(k:Int)<n:=by omega
   generalize p k=pk at *;go_wp2_with fail;refine HC.mono ?_;rintro e w1 ⟨rfl,aC⟩;have aZ:Hid (Below w.heap.size w w1):=HB.out.trans (aC.mono HB.out.size);clear aC HC c0 c1 c2 c3 c4 c5 c6 c7 c8 c9 c10 c11;rcases pk with _|_
   .have ma:=HNO.out rfl
    have qV:Hid (∀j,j<k+1->p j=false):=ma;clear ma HNO aaf;go_wp2_with fail;go_roundw
    case rel=>exact⟨k+1,by omega,by go_num,qV,aZ⟩
    case measure=>simp[intOf];omega
   .have HY2:Hid (∃j,j<n/\p j=true):=aaf.out rfl
    clear HNO aaf;go_wp2_with fail;go_ret;exact⟨_,rfl,⟨λ_=>HY2.out,λ_=>by omega⟩,aZ.out⟩
  .have tw:k=n:=by omega
   subst tw;go_wp2_with fail;go_ret;exact⟨-1,rfl,⟨λh=>absurd h (by omega),λ⟨j,hj,h⟩=>by rw[HZ.out j hj] at h;cases h⟩,HB.out⟩
theorem xG(ns:List Nd)(v:Value)(nx:Nat)(p:Nat->Bool)(r:Bool)(w:World)(hv:xv w v ns)(hn:ns.length<=6)(hr:r=true↔∃j,j<ns.length/\p j=true)(hp:∀j,j<ns.length->∀W vm vr vs vg vw,Below w.heap.size w W->eY W (ns.getD j aM) vm vr vs vg vw->Calls AS 25 #[Ik (dE (ns.getD j aM) vm vr vs vg vw),If (AI ⟨nx,0,be⟩)] W λe w'=>e=AT (Ia (p j))/\Below W.heap.size W w') :
 Calls AS 27 #[v,IQ (.func 25) #[] #[If (AI ⟨nx,0,be⟩)]] w λe w'=>e=AT (Ia r)/\Below w.heap.size w w':=by
 have HI:Hid _:=Ez ns v nx p w hv hn hp;have HR:Hid (r=true↔∃j,j<ns.length/\p j=true):=hr;obtain⟨pa,ca,rfl,_⟩:=hv;clear hp hr;generalize ns.length=n at *;go_enter Tryz.func27,Tryz.ntmps27;go_wp2_with fail;refine Calls.mono HI.out ?_;rintro e w1 ⟨x,rfl,hx,hb⟩;have HB:Hid (Below w.heap.size w w1):=hb;have hd:decide (x>=0)=r:=Aj (p:=0<=x) (by simp) (HR.out.trans hx.symm);clear hx hb HI;go_wp2_with fail;go_ret;exact⟨by rw[<- hd];rfl,HB.out⟩
def TD(w:World)(te:Int)(r:Bool)(e:Ending)(w':World):Prop:=(te=0/\e=AT (Ip #[Ia (!r),U O 0])\/te≠0/\e=AT (Ip #[Ia false,U O te]))/\Below w.heap.size w w'
theorem Lc(t:Nt)(vn vl:Value)(r:Bool)(w:World)(hV:Rv w.heap.size w)(h:fC w t vn vl)(hs:t.Bz)(N8:t.e=0)(hr:t.e=0->(r=true↔∃j,j<t.ns.length/\¬ Gc (t.ns.getD j aM) (t.ns.getD 0 aM))) :
 Calls AS 12 #[Ik #[vn,vl]] w (TD w t.e r):=by
 have hmf:∀(fn:Fn) (first cap:Array Value) (w:World),(Instr.makeFunc fn first cap).run AS w=.ok (IQ fn first cap) w:=λ_ _ _ _=>rfl;have od:Hid (∀W,Below w.heap.size w W->Calls AS 21 #[Ik #[vn,vl]] W λe w'=>e=AT (U O t.e)/\Below W.heap.size W w'):=λW hW=>nE t vn vl W (hV.after hW) (h.below hW) hs (Nt.acp N8);have HCF:Hid (t.e=0->∀W nx,Below w.heap.size w W->W.cell? ⟨nx,0,be⟩=AI vn->Calls AS 27 #[vn,IQ (.func 25) #[] #[If (AI ⟨nx,0,be⟩)]] W λe w'=>e=AT (Ia r)/\Below W.heap.size W w'):=λhe W nx hW hx=>by
  have hz:=Nt.aD he;have hN:=h.ns.below hW;have dv:nx<W.heap.size:=Iw W _ hx;have cB:∀j,j<t.ns.length->(t.ns.getD j aM).ms.length<=1000/\(t.ns.getD j aM).sv.length<=1000/\(t.ns.getD j aM).gw.length<=1000:=λj hj=>by
   obtain⟨h1,h2,h3,h4,h5⟩:=Nd.NL (hz.2.2.1 (t.ns.getD j aM) (by rw[Ir,Ic hj];exact List.getElem_mem hj));exact⟨h1,h3,h4⟩
  have hq:∀j,∃q:Bool,q=true↔Gc (t.ns.getD j aM) (t.ns.getD 0 aM):=λj=>Ai _;have Vd:=Classical.axiomOfChoice hq;obtain⟨q,hq⟩:=Vd;refine xG t.ns vn nx (λj => !q j) r W hN hz.1 ((hr he).trans ⟨λ⟨j,hj,hh⟩=>⟨j,hj,by have:=hq j;cases e:q j<;>simp_all⟩,λ⟨j,hj,hh⟩=>⟨j,hj,λhs=>by have:=(hq j).2 hs;simp[this] at hh⟩⟩) (λj hj W2 vm vr vs vg vw bO hI=>?_);obtain⟨pa,ca,BB,cL⟩:=hN;rcases cL with gV|⟨b,off,V9,aO,cL⟩
  .rw[gV] at hj;simp at hj
  subst V9;obtain⟨um,ur,us,ug,uw,hI0,d0,d1,d2,d3,d4,d5,d6,d7,d8,d9,d10,d11⟩:=(cL.below bO aO).at (k:=0) (by omega);have hx2:W2.cell? ⟨nx,0,be⟩=AI (J (AI ⟨b,off,be⟩) t.ns.length ca):=(bO.cell (p:=⟨nx,0,be⟩) dv).trans (by rw[hx,BB]);have HK:∀W3,Below W2.heap.size W2 W3->Calls AS 26 #[Ik (dE (t.ns.getD j aM) vm vr vs vg vw),Ik (dE (t.ns.getD 0 aM) um ur us ug uw)] W3 λe w'=>e=AT (Ia (q j))/\Below W3.heap.size W3 w':=λW3 ee=>PV _ _ _ _ _ _ _ _ _ _ _ _ (q j) W3 (hI.below ee) (hI0.below ee) (cB j hj) (hq j);generalize q j=qj at *;generalize t.ns.getD j aM=na at *;generalize t.ns.getD 0 aM=n0 at *;obtain⟨⟨x2,c2,rfl,_,_⟩,⟨x3,c3,rfl,_,_⟩,⟨x4,c4,rfl,_,_⟩,⟨x5,c5,rfl,_,_⟩,⟨x6,c6,rfl,_,_⟩,_,_⟩:=hI;obtain⟨⟨y2,e2,rfl,_,_⟩,⟨y3,e3,rfl,_,_⟩,⟨y4,e4,rfl,_,_⟩,⟨y5,e5,rfl,_,_⟩,⟨y6,e6,rfl,_,_⟩,_,_⟩:=hI0;simp only[Nat.zero_mul,Nat.add_zero] at d0 d1 d2 d3 d4 d5 d6 d7 d8 d9 d10 d11;exact Lb b off t.ns.length ca nx _ _ _ _ _ _ _ _ _ _ _ _ _ _ _ _ _ _ _ _ _ _ _ _ _ _ _ _ _ _ _ _ _ _ _ _ _ _ _ _ _ _ _ _ qj W2 (by omega) hx2 d0 d1 d2 d3 d4 d5 d6 d7 d8 d9 d10 d11 HK
 obtain⟨⟨pn,cn,BB,_⟩,⟨pl,cl,lC,_,_⟩⟩:=h;subst BB lC;generalize t.e=te at *;generalize t.ns.length=n at *;generalize t.ls.length=m at *;clear hs hV hr N8;obtain⟨W0,bP,bK,-,k0⟩:=bV w #[J pn n cn,J pl m cl] 27;have df:Hid (Below w.heap.size w W0):=bK;have uh:Hid (W0.heap[w.heap.size]?=AI (By #[J pn n cn,J pl m cl] 27 (0,0))):=k0;have x0:W0.cell? ⟨w.heap.size,0,be⟩=AI (J pn n cn):=ae k0 0;have x1:W0.cell? ⟨w.heap.size,1,be⟩=AI (J pl m cl):=ae k0 1;clear bK k0;go_enter Tryz.func12,Tryz.ntmps12;go_upto_region 1 with fail
 rw[<- bP];clear bP;go_wp2_with fail;refine(od.out W0 df.out).mono ?_;rintro e w1 ⟨rfl,aC⟩;have aZ:Hid (Below w.heap.size w w1):=df.out.trans (aC.mono df.out.size);have y0:w1.cell? ⟨w.heap.size,0,be⟩=AI (J pn n cn):=ae ((aC.block _ (BY.1 uh.out).1).trans uh.out) 0;clear aC x0 x1 od;by_cases h0:te=0
 .subst h0
  have HC:=HCF.out rfl w1 w.heap.size aZ.out y0;clear HCF;go_wp2_with fail;refine HC.mono ?_;rintro e w2 ⟨rfl,aL⟩;have bA:Hid (Below w.heap.size w w2):=aZ.out.trans (aL.mono aZ.out.size);clear aL HC;go_wp2_with fail;exact IL (v:=Ip #[Ia (!r),U O 0]) (by simp[results,Tryz.results12,go_sem]) rfl ⟨.inl ⟨rfl,rfl⟩,bA.out⟩
 .have he:(te !=0)=true:=by simpa using h0
  have H0:Hid (te≠0):=h0;clear h0 HCF;go_wp2_with fail;exact IL (v:=Ip #[Ia false,U O te]) (by simp[results,Tryz.results12,go_sem]) rfl ⟨.inr ⟨H0.out,rfl⟩,aZ.out⟩
abbrev evB(k a b:Int):Value:=Ik #[U O k,U O a,U O b,U O 0,Y ⟨#[]⟩,U O 0,U O 0,U O 0,U O 0,U O 0,Y ⟨#[]⟩,Y ⟨#[]⟩,Y ⟨#[]⟩,Y ⟨#[]⟩,U O 0,U O 0,Ia false,U O 0,Ia false]
abbrev evP(k a b:Int):Ev:=⟨k,a,b,0,⟨#[]⟩,⟨0,0,0,0,0⟩,⟨⟨#[]⟩,⟨#[]⟩,⟨#[]⟩,⟨#[]⟩,0,0,false,0,false⟩⟩
def yK(g:Nat)(w:World):Nat:=match w.cell? ⟨g,1,be⟩ with
 |some (J _ m _)=>m
 |_=>0
abbrev Ld(g:Nat)(w:World)(a:Option Addr)(n c:Nat)(b:Option Addr)(m d:Nat):Prop:=w.heap[g]?=AI (By #[J a n c,J b m d] 27 (0,0))
theorem B8{g:Nat}{w:World}{a b:Option Addr}{n c m d:Nat}(h:Ld g w a n c b m d):yK g w=m:=by unfold yK;rw[ae h];rfl
theorem qR.net{g x:Nat}{w w':World}(hb:qR g w w')(hx:x≠g){o:Obj}(h:w.heap[x]?=AI o):w'.heap[x]?=AI o:=(hb.block x (BY.1 h).1 hx).trans h
structure Lo(g:Nat)(w wr:World)(t:Nt)(a:Option Addr)(n c:Nat)(b:Option Addr)(m d q:Nat):Prop where
 box:Ld g wr a n c b m d
 off:Af g wr t (J a n c) (J b m d)
 right:bE t
 kept:Kept q t
 pos:0<t.ns.length
 few:q+m<=60
 below:Below w.heap.size w wr
theorem fC.lens{w:World}{t:Nt}{a b:Option Addr}{n c m d:Nat}(h:fC w t (J a n c) (J b m d)):n=t.ns.length/\m=t.ls.length:=by
 refine⟨h.ns.at2.1,?_⟩;obtain⟨pl,cl,lC,_⟩:=h.ls;simp only[Value.slice.injEq] at lC;exact lC.2.1
theorem Lo.next{g:Nat}{w wr w1 W2 W3:World}{t:Nt}{a b a1 b1:Option Addr}{n c m d q n1 c1 m1 d1:Nat}(h:Lo g w wr t a n c b m d q)(hw:w.heap.size<=g)(hm:m≠0)(aC:Below wr.heap.size wr w1)(hN:eP wr.heap.size w1 ⟨t.ns,t.ls.eraseIdx 0⟩ (J a1 n1 c1) (J b1 m1 d1))(aL:Below w1.heap.size w1 W2)(h3:W3=aF g [J a1 n1 c1,J b1 m1 d1] 0 W2) :
 m1=m-1/\Lo g w W3 ⟨t.ns,t.ls.eraseIdx 0⟩ a1 n1 c1 b1 m1 d1 (q+1):=by
 have hl:=h.off.is.lens;obtain⟨r1,k1⟩:=K8 h.right h.kept h.off.is.ns.ok 0;have hg:=(BY.1 h.box).1;have o1:Af g W3 ⟨t.ns,t.ls.eraseIdx 0⟩ (J a1 n1 c1) (J b1 m1 d1):=by
  rw[h3];exact((Af.Ew hN r1 hg).bar (qR.of aL)).bar (qR.set _ _)
 have kb:=o1.is.lens;have e1:m1=m-1:=by
  rw[kb.2,hl.2];exact List.length_eraseIdx_of_lt (by omega)
 have h2:=(aL.block g (IJ hg aC.size)).trans ((aC.block g hg).trans h.box);refine⟨e1,⟨?_,o1,r1,k1,h.pos,by have:=h.few;omega,?_⟩⟩
 .show W3.heap[g]?=_
  rw[h3];exact bB [J a1 n1 c1,J b1 m1 d1] [] [J a n c,J b m d] h2 rfl
 .have hb:=h.below.trans ((aC.mono h.below.size).trans (aL.mono (Is h.below.size aC.size)))
  rw[h3];exact aU hw _ _ hb
theorem aag{g:Nat}{w w':World}{v:Value}{l:List Sv.aV}{a b:Option Addr}{n c m d:Nat}(h:Sv.Sl w v l)(hg:Ld g w a n c b m d)(hb:qR g w w'):Sv.Sl w' v l:=by
 obtain⟨p,cap,rfl,hs,h⟩:=h;refine⟨p,cap,rfl,hs,?_⟩;rcases h with h|⟨x,off,rfl,aX,hr⟩
 .exact .inl h
 .by_cases hl:l=[]
  .exact .inl hl
  .have h0:=hr 0 (List.length_pos_iff.2 hl)
   have hx:x≠g:=λe=>by
    subst e;have h1:=h0.1;rw[ae hg] at h1
    have:∀o:Nat,(#[J a n c,J b m d]:Array Value)[o]?=AI (Y (l.getD 0 Sv.dm).node)->False:=λo e=>by
     rcases o with _|_|o
     .simp at e
     .simp at e
     .simp at e
    exact this _ h1
   refine .inr ⟨x,off,rfl,IJ aX hb.size,λj hj=>(hr j hj).eq (λo=>?_)⟩;simp only[World.cell?,hb.block x aX hx]
theorem TE:Ol (Ia false).cells (0*1)=(I7 0 (Ia false)).toArray:=by kernel_rfl
theorem TF:Ol (Ia false).cells (1*1)=(I7 1 (Ia false)).toArray:=by kernel_rfl
theorem TG:Ol (Ia false).cells (2*1)=(I7 2 (Ia false)).toArray:=by kernel_rfl
theorem TH:Ol (Ia false).cells (3*1)=(I7 3 (Ia false)).toArray:=by kernel_rfl
theorem TI:Ol (Ia false).cells (4*1)=(I7 4 (Ia false)).toArray:=by kernel_rfl
theorem TJ:Ol (Ia false).cells (5*1)=(I7 5 (Ia false)).toArray:=by kernel_rfl
theorem TK:Ol (Ia false).cells (6*1)=(I7 6 (Ia false)).toArray:=by kernel_rfl
theorem aah(n:Nat)(h:n<=6):Ol (Ia false).cells (n*1)=(I7 n (Ia false)).toArray:=by
 have h7:n=0\/n=1\/n=2\/n=3\/n=4\/n=5\/n=6:=by omega
 rcases h7 with rfl|rfl|rfl|rfl|rfl|rfl|rfl
 .exact TE
 .exact TF
 .exact TG
 .exact TH
 .exact TI
 .exact TJ
 .exact TK
theorem Tryz.PW:(Tryz.prog.info? 4).map (λi=>(i.zero,i.size,i.bytes))=AI (AI (Ia false),1,1):=by kernel_rfl
theorem EA(n:Nat)(h:n<=6)(w:World):(Instr.makeSlice 43 (U O (n:Int)) (U O (n:Int))).run AS w=.ok (J (AI ⟨w.heap.size,0,be⟩) n n) (w.alloc (By (I7 n (Ia false)).toArray 4)):=by
 obtain⟨i0,fH,dt,gJ,gB⟩:=info_parts Tryz.PW;have h:=run_makeSlice (P:=AS) (w:=w) 43 4 i0 _ Tryz.underlying43 fH dt O O (n:Int) (n:Int) (by omega) (Int.le_refl _) (by rw[gJ];omega) (by rw[gB];omega) (by omega);rw[gJ,Int.toNat_natCast,aah n (by omega)] at h;exact h
def wG(t0:Nt)(n k g:Nat)(w:World):Prop:=∃cs:Array Value,w.heap[g]?=AI (By cs 4 (0,0))/\cs.size=n/\∀j,j<n->∃x:Bool,cs[j]?=AI (Ia x)/\(j<k->x=((own t0 j).state==4))
theorem TM{t0:Nt}{n k g:Nat}{w:World}(h:wG t0 n k g w):wG t0 n (k+1) g (w.setCell ⟨g,k,be⟩ (Ia ((own t0 k).state==4))):=by
 obtain⟨cs,h1,h2,h3⟩:=h;refine⟨_,Joins.block_setCell (i:=k) h1 _,by simpa using h2,λj hj=>?_⟩;by_cases e:j=k
 .subst e
  exact⟨_,by rw[Array.getElem?_setIfInBounds_self_of_lt (by omega)],λ_=>rfl⟩
 .obtain⟨x,e1,e2⟩:=h3 j hj
  exact⟨x,by rw[Array.getElem?_setIfInBounds_ne (λh=>e h.symm)];exact e1,λh=>e2 (by omega)⟩
theorem Lf{t0:Nt}{n k g:Nat}{w w':World}(h:wG t0 n k g w)(hb:Below w.heap.size w w'):wG t0 n k g w':=by
 obtain⟨cs,h1,h2⟩:=h;exact⟨cs,(hb.block g (BY.1 h1).1).trans h1,h2⟩
theorem TO{t0:Nt}{n k g x:Nat}{w w':World}(h:wG t0 n k g w)(hb:qR x w w')(hx:g≠x):wG t0 n k g w':=by
 obtain⟨cs,h1,h2⟩:=h;exact⟨cs,hb.net hx h1,h2⟩
def EB(g:Nat)(V:World)(t0:Nt)(n T i k:Nat)(wr:World):Prop:=∃t a c b d,Ld g wr a n c b 0 d/\Af g wr t (J a n c) (J b 0 d)/\Ag t0 T i k t/\qR g V wr
theorem EB.len{g:Nat}{V wr:World}{t0:Nt}{n T i k:Nat}(h:EB g V t0 n T i k wr):∃a c b d,Ld g wr a n c b 0 d:=by
 obtain⟨t,a,c,b,d,h1,_⟩:=h;exact⟨a,c,b,d,h1⟩
theorem EB.row{g:Nat}{V wr:World}{t0:Nt}{n T i k:Nat}(h:EB g V t0 n T i k wr)(hk:k=n):EB g V t0 n T (i+1) 0 wr:=by
 obtain⟨t,a,c,b,d,h1,h2,h3,h4⟩:=h;exact⟨t,a,c,b,d,h1,h2,X9 h3 (by rw[hk];exact h2.is.lens.1),h4⟩
theorem EB.turn{g:Nat}{V wr:World}{t0:Nt}{n T i:Nat}(h0:bE t0)(h:EB g V t0 n T i 0 wr)(hi:i=n):EB g V t0 n (T+1) 0 0 wr:=by
 obtain⟨t,a,c,b,d,h1,h2,h3,h4⟩:=h;exact⟨t,a,c,b,d,h1,h2,Tv h0 h3 (by rw[hi];exact h2.is.lens.1),h4⟩
theorem TP{g:Nat}{w V wr:World}{t0:Nt}{n T i k:Nat}(hV:Rv w.heap.size w)(hwV:Below w.heap.size w V)(hg:w.heap.size<=g)(h0:bE t0)(hS:(lu t0).length<=40)(hG:(nH t0).length<=6)(hT:T<3)(hi:i<n)(hk:k<n)(h:EB g V t0 n T i k wr) :
 ∃(t1:Nt) (a:Option Addr) (c:Nat) (b:Option Addr) (d:Nat),Ld g wr a n c b 0 d/\Calls AS 9 #[Ik #[J a n c,J b 0 d],evB 2 i k] wr (lp wr t1)/\∀w1 W2 a1 n1 c1 b1 m1 d1,Below wr.heap.size wr w1->eP wr.heap.size w1 t1 (J a1 n1 c1) (J b1 m1 d1)->Below w1.heap.size w1 W2 ->
  Ld g W2 a n c b 0 d/\∃t2,Calls AS 9 #[Ik #[J a1 n1 c1,J b1 m1 d1],evB 3 0 0] W2 (lp W2 t2)/\∀w3 W4 a2 n2 c2 b2 m2 d2,Below W2.heap.size W2 w3->eP W2.heap.size w3 t2 (J a2 n2 c2) (J b2 m2 d2)->Below w3.heap.size w3 W4 ->
   Ld g W4 a n c b 0 d/\n2=n/\m2=0/\∀W5,W5=aF g [J a2 n2 c2,J b2 m2 d2] 0 W4->EB g V t0 n T i (k+1) W5:=by
 obtain⟨t,a,c,b,d,h1,h2,h3,h4⟩:=h;have hl:=h2.is.lens;have xK:Below w.heap.size w wr:=hwV.trans (h4.below hg hwV.size);have dv:=(BY.1 h1).1;obtain⟨z0,z1,z2⟩:=X8 h0 hS hG hT h3 h2.is.ns.ok (i:=i) (k:=k) (by omega) (by omega);have AB:t.ls=[]:=h3.ls;have hw:=wB t _ _ (evP 2 i k) wr i k (hV.after xK) h2.is h3.right rfl rfl (by omega) rfl (by omega) (by rw[AB];decide);rw[AB] at hw;refine⟨_,a,c,b,d,h1,hw,λw1 W2 a1 n1 c1 b1 m1 d1 aC hN1 aL=>?_⟩;have Hw:Below wr.heap.size wr W2:=aC.trans (aL.mono aC.size);have k2:Ld g W2 a n c b 0 d:=(Hw.block g dv).trans h1;have wX:=xK.trans (Hw.mono xK.size);have i1:=(sq hN1 z1).below aL;have he:=(Nt.aD h3.right.e).2.2.1 _ (ai (show i<t.ns.length by omega) aM);have hc:=yH _ _ _ (evP 3 0 0) W2 0 k (bJ (t.ns.getD i aM)) (hV.after wX) i1 z1 rfl rfl Nat.zero_lt_one _ rfl (show k<t.ns.length by omega) (iD (kA he)) z0;refine⟨k2,_,hc,λw3 W4 a2 n2 c2 b2 m2 d2 bY hN3 eV=>?_⟩;have aej:Below W2.heap.size W2 W4:=bY.trans (eV.mono bY.size);have dO:=(BY.1 k2).1;have k4:Ld g W4 a n c b 0 d:=(aej.block g dO).trans k2;have o4:Af g W4 (rf t i k) (J a2 n2 c2) (J b2 m2 d2):=(Af.Ew hN3 z2.right dO).bar (qR.of eV);have hl4:=o4.is.lens;have en:n2=n:=by rw[hl4.1,fa,<- hl.1]
 have em:m2=0:=by rw[hl4.2];rfl
 subst en em;refine⟨k4,rfl,rfl,λW5 e5=>⟨rf t i k,a2,c2,b2,d2,?_,?_,z2,?_⟩⟩
 .show W5.heap[g]?=_
  rw[e5];exact bB [J a2 n2 c2,J b2 0 d2] [] [J a n2 c,J b 0 d] k4 rfl
 .rw[e5];exact o4.bar (qR.set _ _)
 .rw[e5];exact(h4.trans ((qR.of Hw).trans (qR.of aej))).trans (qR.set _ _)
end Go.Proofs.YtbfghimjdlpicaaGreatDoor
