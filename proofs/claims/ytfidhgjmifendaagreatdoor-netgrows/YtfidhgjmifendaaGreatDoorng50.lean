import Derived.Test.YtfidhgjmifendaaGreatDoorng49
import Derived.Deep.CutBlock
set_option maxHeartbeats 25600000
set_option maxRecDepth 100000
open Go.Value renaming pointer→If,agg→Ik,string→Y,slice→J,int→U,tuple→Im,bool→Ia,func→IP
open Go.IntKind renaming i64→O,wrap_i64→IY
open Go.Ending renaming returned→AT
open Option renaming some→AI,none→be
open Go.Proofs.Tryz renaming prog→AS,underlying9→Jb,underlying3→IF,underlying4→JT
open Go.Obj renaming cells→By
open Go.RowKit.Below renaming refl→Ib
open Nat renaming le_refl→Ic,le_trans→Ir,reduceAdd→Jg,zero_add→ID,zero_le→IH
open Array renaming getElem?_eq_some_iff→BY,getElem?_toList→On
open List renaming length_set→IT,getD→Iq,getElem?_toArray→QE,getElem?_eq_getElem→Ie,mem_singleton→Jo,length_map→Oa,range→JC,length_append→Ih,map_append→O2
open Go.World renaming block_lt_of_cell?→Iy,drew→JB,cell?_setCell_far→JO,cell?_drew→Qh
open Go renaming heap_alloc_new→Ii,maxLen→Io,Ending→OR,callFunc→Oz,bodyPost_ret→IL,wpAnyH_done→QC
open Go.Calls renaming mono→Ou
open List.cons renaming injEq→OX
open Go.Proofs renaming enters_of→Jj
open Bool renaming and_eq_true→IW
open Go.DataW renaming trod_string→QF,trod_int→JZ
namespace Go.Proofs.YtfidhgjmifendaaGreatDoor
open Go.RowKit
theorem Cn(g:Nat)(er:Int)(w:World)(he:er≠0) :
 Calls AS 84 #[If (AI ⟨g,0,be⟩),Ik #[Y ⟨#[]⟩,Y ⟨#[]⟩,J be 0 0,J be 0 0,J be 0 0,J be 0 0,U O 0,U O 0,U O 0,U O 0,U O 0,J be 0 0],U O er] w λe w'=>e=AT (U O er)/\Below w.heap.size w w':=by
 have hd:(er==0)=false:=by simpa using he
 have HB:Hid (Below w.heap.size w (w.alloc (By #[Y ⟨#[]⟩,Y ⟨#[]⟩,J be 0 0,J be 0 0,J be 0 0,J be 0 0,U O 0,U O 0,U O 0,U O 0,U O 0,J be 0 0] 42))):=(Ib _ _).alloc (Ic _) _;clear he;go_enter Tryz.func84,Tryz.ntmps84;go_wp2_with fail;go_ret;exact⟨rfl,HB.out⟩
structure rU(pb g nb:Nat)(ul:Value)(v:Ev)(L:List Nx)(W:World):Prop where
 pb:W.heap[pb]?=AI (By #[If (AI ⟨g,0,be⟩)] 70 (0,0))
 pl:W.heap[g]?=AI (By (TT (J (AI ⟨nb,0,be⟩) L.length L.length) ul v) 72 (0,0))
 nm:∀i,i<L.length->W.cell? ⟨nb,i*12,be⟩=AI (Y (L.getD i bW).n.name)
def Pa(C:Nat)(w:World)(g nb j:Nat)(ul:Value)(ls:List Lt.fg)(v:Ev)(L:List Nx)(er:Int)(n':Nd)(w':World):Prop:=Below C w w'/\(er=0->∃y,y.n=n'/\cG C w' nb (L.set j y)/\ky C w' g (J (AI ⟨nb,0,be⟩) L.length L.length) ul ls v)
def OkA(C:Nat)(A:Array Value)(er:Int)(n':Nd)(W:World):Prop:=(er≠0/\A=#[Y ⟨#[]⟩,Y ⟨#[]⟩,J be 0 0,J be 0 0,J be 0 0,J be 0 0,U O 0,U O 0,U O 0,U O 0,U O 0,J be 0 0])\/(er=0/\∃y:Nx,A=dw y.n y.vm y.vr y.vs y.vg y.vw/\y.n=n'/\cJ C W y.n y.vm y.vr y.vs y.vg y.vw/\iq y.n)
theorem cG.names{C nb:Nat}{w:World}{L:List Nx}(h:cG C w nb L):∀i,i<L.length->w.cell? ⟨nb,i*12,be⟩=AI (Y (L.getD i bW).n.name):=λi hi=>by
 have:=h.cell hi 0 (by omega);simpa[Nx.cs,dw] using this
theorem lV(C g nb pb j kf:Nat)(F:Value->Array Value)(ul:Value)(ls:List Lt.fg)(v:Ev)(L:List Nx)(er:Int)(n':Nd)(w:World)(h:ky C w g (J (AI ⟨nb,0,be⟩) L.length L.length) ul ls v)(hN:cG C w nb L)(hC:C<=w.heap.size)(hv:v.which=(j:Int))(hj:j<L.length)(he:(L.getD j bW).n.e=0)(hp:w.heap[pb]?=AI (By #[If (AI ⟨g,0,be⟩)] 70 (0,0)))(dy:n'.name=(L.getD j bW).n.name)(uj:∀W vm vr vs vg vw,eT W (L.getD j bW).n vm vr vs vg vw->Calls AS kf (F (Ik (dw (L.getD j bW).n vm vr vs vg vw))) W λe w'=>dx (L.getD j bW).n.e er n' W e w') :
 rU pb g nb ul v L w/\(Unit->Calls AS 85 #[If (AI ⟨g,0,be⟩)] w.drew λe w'=>e=AT (Ik (dw (L.getD j bW).n (L.getD j bW).vm (L.getD j bW).vr (L.getD j bW).vs (L.getD j bW).vg (L.getD j bW).vw))/\rU pb g nb ul v L w'/\Hid (Below w.heap.size w w')) /\
 (∀W,Below w.heap.size w W->Calls AS kf (F (Ik (dw (L.getD j bW).n (L.getD j bW).vm (L.getD j bW).vr (L.getD j bW).vs (L.getD j bW).vg (L.getD j bW).vw))) W λe w'=>∃A,e=AT (Im #[Ik A,U O er])/\rU pb g nb ul v L w'/\Hid (Below w.heap.size w w'/\OkA C A er n' w')) /\
 (∀W A,Below w.heap.size w W/\OkA C A er n' W->Calls AS 84 #[If (AI ⟨g,0,be⟩),Ik A,U O er] W λe w'=>e=AT (U O er)/\rU pb g nb ul v L w'/\Hid (Pa C w g nb j ul ls v L er n' w')):=by
 have PC:=(BY.1 hp).1;have Ho:pb≠nb:=λe=>by
  have h1:=hN.row;rw[<- e,hp] at h1;simp at h1
 have hS:∀W,Below w.heap.size w W->rU pb g nb ul v L W:=λW hW=>⟨(hW.block pb PC).trans hp,(h.below hW).hg,(hN.below hW hC).names⟩;refine⟨hS w (Ib _ _),λ_=>?_,λW hW=>?_,?_⟩
 .refine(xB C g nb j L.length L.length L w.drew (hN.below (cA (Ib _ _)) hC) hj rfl (ae h.hg 0) (by rw[<- hv];exact ae h.hg 3)).mono ?_
  rintro e w' ⟨he,hb⟩;have aI:=(cA (Ib w.heap.size w)).trans hb;exact⟨he,hS w' aI,aI⟩
 .refine(uj W _ _ _ _ _ (((hN.own _ (gl hj)).is (hN.ok _ (gl hj))).below hW)).mono ?_
  rintro e w' ⟨hb,⟨aT,_⟩|⟨_,aT,rfl⟩|⟨_,hz,um,ur,us,ug,uw,rfl,ho,hk⟩⟩
  .exact absurd he aT
  .have aI:=hW.trans (hb.mono hW.size)
   exact⟨_,rfl,hS w' aI,aI,.inl ⟨aT,rfl⟩⟩
  .have aI:=hW.trans (hb.mono hW.size)
   exact⟨_,by rw[hz],hS w' aI,aI,.inr ⟨hz,⟨n',um,ur,us,ug,uw⟩,rfl,rfl,ho.mono (Ir hC hW.size),hk⟩⟩
 .rintro W A ⟨hW,⟨aT,rfl⟩|⟨hz,y,rfl,hy,ho,hk⟩⟩
  .refine(Cn g er W aT).mono ?_
   rintro e w' ⟨rfl,hb⟩;have aI:=hW.trans (hb.mono hW.size);exact⟨rfl,hS w' aI,aI.mono hC,λhz=>absurd hz aT⟩
  .subst hz
   refine(Ck C g nb j ul ls v L y W (h.below hW) (hN.below hW hC) (Ir hC hW.size) hv hj ho hk).mono ?_;rintro e w' ⟨rfl,hb,h1,h2,h3⟩;have hpW:=(hW.block pb PC).trans hp;refine⟨rfl,⟨(h3 pb Ho (Nat.lt_of_lt_of_le PC hW.size)).trans hpW,h2.hg,λi hi=>?_⟩,(hW.mono hC).trans hb,λ_=>⟨y,hy,h1,h2⟩⟩;have h4:=h1.names i (by rw[IT];exact hi);rw[h4];by_cases jG:i=j
   .subst jG
    rw[Iq,List.getElem?_set_self hi,Option.getD_some,hy,dy]
   .rw[Iq,List.getElem?_set_ne (Ne.symm jG),Iq]
theorem xU(C g nb pb j:Nat)(ul:Value)(ls:List Lt.fg)(v:Ev)(L:List Nx)(er:Int)(n':Nd)(w:World)(h:ky C w g (J (AI ⟨nb,0,be⟩) L.length L.length) ul ls v)(hN:cG C w nb L)(hC:C<=w.heap.size)(hv:v.which=(j:Int))(hj:j<L.length)(he:(L.getD j bW).n.e=0)(hp:w.heap[pb]?=AI (By #[If (AI ⟨g,0,be⟩)] 70 (0,0)))(dy:n'.name=(L.getD j bW).n.name)(uj:∀W vm vr vs vg vw,eT W (L.getD j bW).n vm vr vs vg vw->Calls AS 25 #[Ik (dw (L.getD j bW).n vm vr vs vg vw),Y v.name] W λe w'=>dx (L.getD j bW).n.e er n' W e w') :
 Calls AS 83 #[If (AI ⟨pb,0,be⟩)] w λe w'=>e=AT (U O er)/\Pa C w g nb j ul ls v L er n' w':=by
 obtain⟨eE,hW,hO,hB⟩:=lV C g nb pb j 25 (λx=>#[x,Y v.name]) ul ls v L er n' w h hN hC hv hj he hp dy uj;have HW:Hid _:=hW;have HO:Hid _:=hO;have HB:Hid _:=hB;have HS:Hid (∀W,rU pb g nb ul v L W->W.cell? ⟨pb,0,be⟩=AI (If (AI ⟨g,0,be⟩))/\W.cell? ⟨g,6,be⟩=AI (Y v.name)):=λW h=>⟨ae h.pb 0,ae h.pl 6⟩;have Vb:=HS.out w eE;clear hW hO hB eE h hN hv he hp dy uj;generalize(L.getD j bW)=x at *;generalize Aq:v.name=a0 at *;clear Aq;generalize L.length=nl at *;go_enter Tryz.func83,Tryz.ntmps83;go_wp2_with fail;go_region_held3 (λW=>W.cell? ⟨pb,0,be⟩=AI (If (AI ⟨g,0,be⟩))/\W.cell? ⟨g,6,be⟩=AI (Y a0)) (first|assumption|go_keep) (first|(go_at_call 85;refine(HW.out ()).mono ?_;rintro e w1 ⟨rfl,fh,aY⟩;have Vc:=HS.out _ fh)|(go_at_call 25;refine(HO.out _ aY.out).mono ?_;rintro e w2 ⟨A,rfl,iU,bp⟩;have Vd:=HS.out _ iU)|(go_at_call 84;refine(HB.out _ _ bp.out).mono ?_;rintro e w3 ⟨rfl,rI,HR⟩;have Ve:=HS.out _ rI))
 go_wp2_with fail;go_ret;exact⟨rfl,HR.out⟩
theorem Ab(C g nb pb j:Nat)(ul:Value)(ls:List Lt.fg)(v:Ev)(L:List Nx)(er:Int)(n':Nd)(w:World)(h:ky C w g (J (AI ⟨nb,0,be⟩) L.length L.length) ul ls v)(hN:cG C w nb L)(hC:C<=w.heap.size)(hv:v.which=(j:Int))(hj:j<L.length)(he:(L.getD j bW).n.e=0)(hp:w.heap[pb]?=AI (By #[If (AI ⟨g,0,be⟩)] 70 (0,0)))(dy:n'.name=(L.getD j bW).n.name)(uj:∀W vm vr vs vg vw,eT W (L.getD j bW).n vm vr vs vg vw->Calls AS 87 #[Ik (dw (L.getD j bW).n vm vr vs vg vw),Y v.name] W λe w'=>dx (L.getD j bW).n.e er n' W e w') :
 Calls AS 86 #[If (AI ⟨pb,0,be⟩)] w λe w'=>e=AT (U O er)/\Pa C w g nb j ul ls v L er n' w':=by
 obtain⟨eE,hW,hO,hB⟩:=lV C g nb pb j 87 (λx=>#[x,Y v.name]) ul ls v L er n' w h hN hC hv hj he hp dy uj;have HW:Hid _:=hW;have HO:Hid _:=hO;have HB:Hid _:=hB;have HS:Hid (∀W,rU pb g nb ul v L W->W.cell? ⟨pb,0,be⟩=AI (If (AI ⟨g,0,be⟩))/\W.cell? ⟨g,6,be⟩=AI (Y v.name)):=λW h=>⟨ae h.pb 0,ae h.pl 6⟩;have Vb:=HS.out w eE;clear hW hO hB eE h hN hv he hp dy uj;generalize(L.getD j bW)=x at *;generalize Aq:v.name=a0 at *;clear Aq;generalize L.length=nl at *;go_enter Tryz.func86,Tryz.ntmps86;go_wp2_with fail;go_region_held3 (λW=>W.cell? ⟨pb,0,be⟩=AI (If (AI ⟨g,0,be⟩))/\W.cell? ⟨g,6,be⟩=AI (Y a0)) (first|assumption|go_keep) (first|(go_at_call 85;refine(HW.out ()).mono ?_;rintro e w1 ⟨rfl,fh,aY⟩;have Vc:=HS.out _ fh)|(go_at_call 87;refine(HO.out _ aY.out).mono ?_;rintro e w2 ⟨A,rfl,iU,bp⟩;have Vd:=HS.out _ iU)|(go_at_call 84;refine(HB.out _ _ bp.out).mono ?_;rintro e w3 ⟨rfl,rI,HR⟩;have Ve:=HS.out _ rI))
 go_wp2_with fail;go_ret;exact⟨rfl,HR.out⟩
theorem xV(C g nb pb j:Nat)(ul:Value)(ls:List Lt.fg)(v:Ev)(L:List Nx)(er:Int)(n':Nd)(w:World)(h:ky C w g (J (AI ⟨nb,0,be⟩) L.length L.length) ul ls v)(hN:cG C w nb L)(hC:C<=w.heap.size)(hv:v.which=(j:Int))(hj:j<L.length)(he:(L.getD j bW).n.e=0)(hp:w.heap[pb]?=AI (By #[If (AI ⟨g,0,be⟩)] 70 (0,0)))(dy:n'.name=(L.getD j bW).n.name)(uj:∀W vm vr vs vg vw,eT W (L.getD j bW).n vm vr vs vg vw->Calls AS 89 #[Ik (dw (L.getD j bW).n vm vr vs vg vw)] W λe w'=>dx (L.getD j bW).n.e er n' W e w') :
 Calls AS 88 #[If (AI ⟨pb,0,be⟩)] w λe w'=>e=AT (U O er)/\Pa C w g nb j ul ls v L er n' w':=by
 obtain⟨eE,hW,hO,hB⟩:=lV C g nb pb j 89 (λx=>#[x]) ul ls v L er n' w h hN hC hv hj he hp dy uj;have HW:Hid _:=hW;have HO:Hid _:=hO;have HB:Hid _:=hB;have HS:Hid (∀W,rU pb g nb ul v L W->W.cell? ⟨pb,0,be⟩=AI (If (AI ⟨g,0,be⟩))):=λW h=>ae h.pb 0;have Vb:=HS.out w eE;clear hW hO hB eE h hN hv he hp dy uj;generalize(L.getD j bW)=x at *;generalize L.length=nl at *;go_enter Tryz.func88,Tryz.ntmps88;go_wp2_with fail;go_region_held3 (λW=>W.cell? ⟨pb,0,be⟩=AI (If (AI ⟨g,0,be⟩))) (first|assumption|go_keep) (first|(go_at_call 85;refine(HW.out ()).mono ?_;rintro e w1 ⟨rfl,fh,aY⟩;have Vc:=HS.out _ fh)|(go_at_call 89;refine(HO.out _ aY.out).mono ?_;rintro e w2 ⟨A,rfl,iU,bp⟩;have Vd:=HS.out _ iU)|(go_at_call 84;refine(HB.out _ _ bp.out).mono ?_;rintro e w3 ⟨rfl,rI,HR⟩;have Ve:=HS.out _ rI))
 go_wp2_with fail;go_ret;exact⟨rfl,HR.out⟩
theorem xW(C g nb pb j:Nat)(ul:Value)(ls:List Lt.fg)(v:Ev)(L:List Nx)(er:Int)(n':Nd)(w:World)(h:ky C w g (J (AI ⟨nb,0,be⟩) L.length L.length) ul ls v)(hN:cG C w nb L)(hC:C<=w.heap.size)(hv:v.which=(j:Int))(hj:j<L.length)(he:(L.getD j bW).n.e=0)(hp:w.heap[pb]?=AI (By #[If (AI ⟨g,0,be⟩)] 70 (0,0)))(dy:n'.name=(L.getD j bW).n.name)(k:Nat)(ho:v.other=(k:Int))(hk:k<L.length)(uj:∀W vm vr vs vg vw,eT W (L.getD j bW).n vm vr vs vg vw->Calls AS 91 #[Ik (dw (L.getD j bW).n vm vr vs vg vw),Y (L.getD k bW).n.name,Ik #[U O v.p.x,U O v.p.y,U O v.p.z,U O v.p.h,U O v.p.s],U O v.n] W λe w'=>dx (L.getD j bW).n.e er n' W e w') :
 Calls AS 90 #[If (AI ⟨pb,0,be⟩)] w λe w'=>e=AT (U O er)/\Pa C w g nb j ul ls v L er n' w':=by
 obtain⟨eE,hW,hO,hB⟩:=lV C g nb pb j 91 (λx=>#[x,Y (L.getD k bW).n.name,Ik #[U O v.p.x,U O v.p.y,U O v.p.z,U O v.p.h,U O v.p.s],U O v.n]) ul ls v L er n' w h hN hC hv hj he hp dy uj;have HW:Hid _:=hW;have HO:Hid _:=hO;have HB:Hid _:=hB;have HS:Hid (∀W,rU pb g nb ul v L W->W.cell? ⟨pb,0,be⟩=AI (If (AI ⟨g,0,be⟩))/\W.cell? ⟨g,0,be⟩=AI (J (AI ⟨nb,0,be⟩) L.length L.length)/\W.cell? ⟨g,4,be⟩=AI (U O (k:Int))/\W.cell? ⟨nb,k*12,be⟩=AI (Y (L.getD k bW).n.name)/\W.cell? ⟨g,5,be⟩=AI (U O v.n)/\W.cell? ⟨g,7,be⟩=AI (U O v.p.x)/\W.cell? ⟨g,8,be⟩=AI (U O v.p.y)/\W.cell? ⟨g,9,be⟩=AI (U O v.p.z)/\W.cell? ⟨g,10,be⟩=AI (U O v.p.h)/\W.cell? ⟨g,11,be⟩=AI (U O v.p.s)):=λW h=>⟨ae h.pb 0,ae h.pl 0,(by rw[<- ho];exact ae h.pl 4),h.nm k hk,ae h.pl 5,ae h.pl 7,ae h.pl 8,ae h.pl 9,ae h.pl 10,ae h.pl 11⟩;have vq:(0:Int)<=(k:Int):=by omega
 have jj:(k:Int)<(L.length:Int):=by omega
 have jd:((k:Int)).toNat=k:=by omega
 have Vb:=HS.out w eE;clear hW hO hB eE h hN hv he hp dy uj;generalize(L.getD j bW)=x at *;generalize Aq:v.n=a0 at *;clear Aq;generalize Ap:(L.getD k bW).n.name=a1 at *;clear Ap;generalize PO:v.p.x=a2 at *;clear PO;generalize yS:v.p.y=a3 at *;clear yS;generalize hv4:v.p.z=a4 at *;clear hv4;generalize hv5:v.p.h=a5 at *;clear hv5;generalize G9:v.p.s=a6 at *;clear G9;generalize L.length=nl at *;go_enter Tryz.func90,Tryz.ntmps90;go_wp2_with fail;go_region_held3 (λW=>W.cell? ⟨pb,0,be⟩=AI (If (AI ⟨g,0,be⟩))/\W.cell? ⟨g,0,be⟩=AI (J (AI ⟨nb,0,be⟩) nl nl)/\W.cell? ⟨g,4,be⟩=AI (U O (k:Int))/\W.cell? ⟨nb,k*12,be⟩=AI (Y a1)/\W.cell? ⟨g,5,be⟩=AI (U O a0)/\W.cell? ⟨g,7,be⟩=AI (U O a2)/\W.cell? ⟨g,8,be⟩=AI (U O a3)/\W.cell? ⟨g,9,be⟩=AI (U O a4)/\W.cell? ⟨g,10,be⟩=AI (U O a5)/\W.cell? ⟨g,11,be⟩=AI (U O a6)) (first|assumption|go_keep) (first|(go_at_call 85;refine(HW.out ()).mono ?_;rintro e w1 ⟨rfl,fh,aY⟩;have Vc:=HS.out _ fh)|(go_at_call 91;refine(HO.out _ aY.out).mono ?_;rintro e w2 ⟨A,rfl,iU,bp⟩;have Vd:=HS.out _ iU)|(go_at_call 84;refine(HB.out _ _ bp.out).mono ?_;rintro e w3 ⟨rfl,rI,HR⟩;have Ve:=HS.out _ rI))
 go_wp2_with fail;go_ret;exact⟨rfl,HR.out⟩
theorem xX(C g nb pb j:Nat)(ul:Value)(ls:List Lt.fg)(v:Ev)(L:List Nx)(er:Int)(n':Nd)(w:World)(h:ky C w g (J (AI ⟨nb,0,be⟩) L.length L.length) ul ls v)(hN:cG C w nb L)(hC:C<=w.heap.size)(hv:v.which=(j:Int))(hj:j<L.length)(he:(L.getD j bW).n.e=0)(hp:w.heap[pb]?=AI (By #[If (AI ⟨g,0,be⟩)] 70 (0,0)))(dy:n'.name=(L.getD j bW).n.name)(uj:∀W vm vr vs vg vw,eT W (L.getD j bW).n vm vr vs vg vw->Calls AS 93 #[Ik (dw (L.getD j bW).n vm vr vs vg vw),Ik #[Y v.s.node,Y v.s.bq,Y v.s.name,Y v.s.tag,U O v.s.addr,U O v.s.port,Ia v.s.aj,U O v.s.version,Ia v.s.gone]] W λe w'=>dx (L.getD j bW).n.e er n' W e w') :
 Calls AS 92 #[If (AI ⟨pb,0,be⟩)] w λe w'=>e=AT (U O er)/\Pa C w g nb j ul ls v L er n' w':=by
 obtain⟨eE,hW,hO,hB⟩:=lV C g nb pb j 93 (λx=>#[x,Ik #[Y v.s.node,Y v.s.bq,Y v.s.name,Y v.s.tag,U O v.s.addr,U O v.s.port,Ia v.s.aj,U O v.s.version,Ia v.s.gone]]) ul ls v L er n' w h hN hC hv hj he hp dy uj;have HW:Hid _:=hW;have HO:Hid _:=hO;have HB:Hid _:=hB;have HS:Hid (∀W,rU pb g nb ul v L W->W.cell? ⟨pb,0,be⟩=AI (If (AI ⟨g,0,be⟩))/\W.cell? ⟨g,12,be⟩=AI (Y v.s.node)/\W.cell? ⟨g,13,be⟩=AI (Y v.s.bq)/\W.cell? ⟨g,14,be⟩=AI (Y v.s.name)/\W.cell? ⟨g,15,be⟩=AI (Y v.s.tag)/\W.cell? ⟨g,16,be⟩=AI (U O v.s.addr)/\W.cell? ⟨g,17,be⟩=AI (U O v.s.port)/\W.cell? ⟨g,18,be⟩=AI (Ia v.s.aj)/\W.cell? ⟨g,19,be⟩=AI (U O v.s.version)/\W.cell? ⟨g,20,be⟩=AI (Ia v.s.gone)):=λW h=>⟨ae h.pb 0,ae h.pl 12,ae h.pl 13,ae h.pl 14,ae h.pl 15,ae h.pl 16,ae h.pl 17,ae h.pl 18,ae h.pl 19,ae h.pl 20⟩;have Vb:=HS.out w eE;clear hW hO hB eE h hN hv he hp dy uj;generalize(L.getD j bW)=x at *;generalize Aq:v.s.node=a0 at *;clear Aq;generalize Ap:v.s.bq=a1 at *;clear Ap;generalize PO:v.s.name=a2 at *;clear PO;generalize yS:v.s.tag=a3 at *;clear yS;generalize hv4:v.s.addr=a4 at *;clear hv4;generalize hv5:v.s.port=a5 at *;clear hv5;generalize G9:v.s.aj=a6 at *;clear G9;generalize hv7:v.s.version=a7 at *;clear hv7;generalize hv8:v.s.gone=a8 at *;clear hv8;generalize L.length=nl at *;go_enter Tryz.func92,Tryz.ntmps92;go_wp2_with fail;go_region_held3 (λW=>W.cell? ⟨pb,0,be⟩=AI (If (AI ⟨g,0,be⟩))/\W.cell? ⟨g,12,be⟩=AI (Y a0)/\W.cell? ⟨g,13,be⟩=AI (Y a1)/\W.cell? ⟨g,14,be⟩=AI (Y a2)/\W.cell? ⟨g,15,be⟩=AI (Y a3)/\W.cell? ⟨g,16,be⟩=AI (U O a4)/\W.cell? ⟨g,17,be⟩=AI (U O a5)/\W.cell? ⟨g,18,be⟩=AI (Ia a6)/\W.cell? ⟨g,19,be⟩=AI (U O a7)/\W.cell? ⟨g,20,be⟩=AI (Ia a8)) (first|assumption|go_keep) (first|(go_at_call 85;refine(HW.out ()).mono ?_;rintro e w1 ⟨rfl,fh,aY⟩;have Vc:=HS.out _ fh)|(go_at_call 93;refine(HO.out _ aY.out).mono ?_;rintro e w2 ⟨A,rfl,iU,bp⟩;have Vd:=HS.out _ iU)|(go_at_call 84;refine(HB.out _ _ bp.out).mono ?_;rintro e w3 ⟨rfl,rI,HR⟩;have Ve:=HS.out _ rI))
 go_wp2_with fail;go_ret;exact⟨rfl,HR.out⟩
theorem Ac(C g nb pb j:Nat)(ul:Value)(ls:List Lt.fg)(v:Ev)(L:List Nx)(er:Int)(n':Nd)(w:World)(h:ky C w g (J (AI ⟨nb,0,be⟩) L.length L.length) ul ls v)(hN:cG C w nb L)(hC:C<=w.heap.size)(hv:v.which=(j:Int))(hj:j<L.length)(he:(L.getD j bW).n.e=0)(hp:w.heap[pb]?=AI (By #[If (AI ⟨g,0,be⟩)] 70 (0,0)))(dy:n'.name=(L.getD j bW).n.name)(uj:∀W vm vr vs vg vw,eT W (L.getD j bW).n vm vr vs vg vw->Calls AS 95 #[Ik (dw (L.getD j bW).n vm vr vs vg vw),Y v.name] W λe w'=>dx (L.getD j bW).n.e er n' W e w') :
 Calls AS 94 #[If (AI ⟨pb,0,be⟩)] w λe w'=>e=AT (U O er)/\Pa C w g nb j ul ls v L er n' w':=by
 obtain⟨eE,hW,hO,hB⟩:=lV C g nb pb j 95 (λx=>#[x,Y v.name]) ul ls v L er n' w h hN hC hv hj he hp dy uj;have HW:Hid _:=hW;have HO:Hid _:=hO;have HB:Hid _:=hB;have HS:Hid (∀W,rU pb g nb ul v L W->W.cell? ⟨pb,0,be⟩=AI (If (AI ⟨g,0,be⟩))/\W.cell? ⟨g,6,be⟩=AI (Y v.name)):=λW h=>⟨ae h.pb 0,ae h.pl 6⟩;have Vb:=HS.out w eE;clear hW hO hB eE h hN hv he hp dy uj;generalize(L.getD j bW)=x at *;generalize Aq:v.name=a0 at *;clear Aq;generalize L.length=nl at *;go_enter Tryz.func94,Tryz.ntmps94;go_wp2_with fail;go_region_held3 (λW=>W.cell? ⟨pb,0,be⟩=AI (If (AI ⟨g,0,be⟩))/\W.cell? ⟨g,6,be⟩=AI (Y a0)) (first|assumption|go_keep) (first|(go_at_call 85;refine(HW.out ()).mono ?_;rintro e w1 ⟨rfl,fh,aY⟩;have Vc:=HS.out _ fh)|(go_at_call 95;refine(HO.out _ aY.out).mono ?_;rintro e w2 ⟨A,rfl,iU,bp⟩;have Vd:=HS.out _ iU)|(go_at_call 84;refine(HB.out _ _ bp.out).mono ?_;rintro e w3 ⟨rfl,rI,HR⟩;have Ve:=HS.out _ rI))
 go_wp2_with fail;go_ret;exact⟨rfl,HR.out⟩
theorem Ad(C g nb pb j:Nat)(ul:Value)(ls:List Lt.fg)(v:Ev)(L:List Nx)(er:Int)(n':Nd)(w:World)(h:ky C w g (J (AI ⟨nb,0,be⟩) L.length L.length) ul ls v)(hN:cG C w nb L)(hC:C<=w.heap.size)(hv:v.which=(j:Int))(hj:j<L.length)(he:(L.getD j bW).n.e=0)(hp:w.heap[pb]?=AI (By #[If (AI ⟨g,0,be⟩)] 70 (0,0)))(dy:n'.name=(L.getD j bW).n.name)(uj:∀W vm vr vs vg vw,eT W (L.getD j bW).n vm vr vs vg vw->Calls AS 97 #[Ik (dw (L.getD j bW).n vm vr vs vg vw),U O v.n] W λe w'=>dx (L.getD j bW).n.e er n' W e w') :
 Calls AS 96 #[If (AI ⟨pb,0,be⟩)] w λe w'=>e=AT (U O er)/\Pa C w g nb j ul ls v L er n' w':=by
 obtain⟨eE,hW,hO,hB⟩:=lV C g nb pb j 97 (λx=>#[x,U O v.n]) ul ls v L er n' w h hN hC hv hj he hp dy uj;have HW:Hid _:=hW;have HO:Hid _:=hO;have HB:Hid _:=hB;have HS:Hid (∀W,rU pb g nb ul v L W->W.cell? ⟨pb,0,be⟩=AI (If (AI ⟨g,0,be⟩))/\W.cell? ⟨g,5,be⟩=AI (U O v.n)):=λW h=>⟨ae h.pb 0,ae h.pl 5⟩;have Vb:=HS.out w eE;clear hW hO hB eE h hN hv he hp dy uj;generalize(L.getD j bW)=x at *;generalize Aq:v.n=a0 at *;clear Aq;generalize L.length=nl at *;go_enter Tryz.func96,Tryz.ntmps96;go_wp2_with fail;go_region_held3 (λW=>W.cell? ⟨pb,0,be⟩=AI (If (AI ⟨g,0,be⟩))/\W.cell? ⟨g,5,be⟩=AI (U O a0)) (first|assumption|go_keep) (first|(go_at_call 85;refine(HW.out ()).mono ?_;rintro e w1 ⟨rfl,fh,aY⟩;have Vc:=HS.out _ fh)|(go_at_call 97;refine(HO.out _ aY.out).mono ?_;rintro e w2 ⟨A,rfl,iU,bp⟩;have Vd:=HS.out _ iU)|(go_at_call 84;refine(HB.out _ _ bp.out).mono ?_;rintro e w3 ⟨rfl,rI,HR⟩;have Ve:=HS.out _ rI))
 go_wp2_with fail;go_ret;exact⟨rfl,HR.out⟩
theorem FK(g:Nat)(a:Option Addr)(c:Nat)(td:Int)(tx:ByteArray)(w:World)(h:w.cell? ⟨g,1,be⟩=AI (J a 20 c)) :
 Calls AS 143 #[If (AI ⟨g,0,be⟩),Ik #[U O td,Y tx]] w λe w'=>e=AT (U O 2)/\Below w.heap.size w w':=by
 have di:=Iy w _ h;obtain⟨X,hX⟩:∃X,X=w.alloc (By #[U O td,Y tx] 102):=⟨_,rfl⟩;have Ms:Below w.heap.size w X:=by rw[hX];exact(Ib _ _).alloc (Ic _) _
 have y1:=(Ms.cell (p:=⟨g,1,be⟩) di).trans h;have HB:Hid _:=Ms;clear Ms h di;go_enter Tryz.func143,Tryz.ntmps143;go_upto_region 1 with fail
 rw[<- hX];clear hX;go_wp2_with fail;go_ret;exact⟨rfl,HB.out⟩
def kF(C:Nat)(w:World)(g:Nat)(un:Value)(ls:List Lt.fg)(v:Ev)(l:Lt.fg)(w':World)(er:Int):Prop:=Mv C w w'/\(ls.length<20->er=0)/\(er=0->ls.length<20/\∃a k c,ky C w' g un (J a k c) (ls++[l]) v)
theorem kF.after{C:Nat}{w W w':World}{g:Nat}{un:Value}{ls:List Lt.fg}{v:Ev}{l:Lt.fg}{er:Int}(h:kF C W g un ls v l w' er)(hW:Below w.heap.size w W)(hC:C<=w.heap.size):kF C w g un ls v l w' er:=⟨(Mv.of hW hC).trans h.1,h.2⟩
theorem Ae(C g:Nat)(un ul:Value)(ls:List Lt.fg)(v:Ev)(td:Int)(tx:ByteArray)(w:World)(h:ky C w g un ul ls v)(hC:C<=w.heap.size)(h20:ls.length<=20) :
 Calls AS 143 #[If (AI ⟨g,0,be⟩),Ik #[U O td,Y tx]] w λe w'=>∃er,e=AT (U O er)/\Hid (kF C w g un ls v ⟨td,tx⟩ w' er):=by
 by_cases hl:ls.length<20
 .refine(GX C g un ul ls v td tx w h hC hl).mono ?_
  rintro e w' ⟨rfl,hm,hp⟩;exact⟨0,rfl,hm,λ_=>rfl,λ_=>⟨hl,hp⟩⟩
 .have h2:ls.length=20:=by omega
  obtain⟨a,c,rfl⟩:=aJ h.ls;have h1:w.cell? ⟨g,1,be⟩=AI (J a 20 c):=by rw[<- h2];exact ae h.hg 1
  refine(FK g a c td tx w h1).mono ?_;rintro e w' ⟨rfl,hb⟩;exact⟨2,rfl,Mv.of hb hC,λh=>absurd h hl,λh=>by cases h⟩
theorem Co(C g j:Nat)(un ul:Value)(ls:List Lt.fg)(v:Ev)(w:World)(h:ky C w g un ul ls v)(hC:C<=w.heap.size)(h20:ls.length<=20)(hv:v.which=(j:Int))(hj:j<ls.length) :
 Calls AS 82 #[If (AI ⟨g,0,be⟩)] w λe w'=>∃er,e=AT (U O er)/\Hid (kF C w g un ls v (ls.getD j Lt.dm) w' er):=by
 obtain⟨lb,cu,LQ⟩:∃lb cu,ul=J (AI ⟨lb,0,be⟩) ls.length cu:=by
  rcases h.ls.2 with⟨_,h0⟩|⟨b',c,cur,rfl,_⟩
  .omega
  .exact⟨b',c,rfl⟩
 subst LQ;obtain⟨td,tx,hl⟩:∃td tx,ls.getD j Lt.dm=⟨td,tx⟩:=⟨_,_,rfl⟩;have Vf:∀i,i<2->w.cell? ⟨lb,j*2+i,be⟩=[U O td,Y tx][i]?:=λi hi=>by
  rw[World.ownsRow.cellAt h.ls _ (by have:=Lt.cM ls;omega)];have h2:=Lt.ec ls j hj i hi;rw[h2,hl];rfl
 have y1:w.cell? ⟨g,1,be⟩=AI (J (AI ⟨lb,0,be⟩) ls.length cu):=ae h.hg 1;have y3:w.cell? ⟨g,3,be⟩=AI (U O (j:Int)):=by rw[<- hv];exact ae h.hg 3
 have l0:w.cell? ⟨lb,j*2,be⟩=AI (U O td):=Vf 0 (by omega);have l1:w.cell? ⟨lb,j*2+1,be⟩=AI (Y tx):=Vf 1 (by omega);have HS:Hid (∀W,Below w.heap.size w W->Calls AS 143 #[If (AI ⟨g,0,be⟩),Ik #[U O td,Y tx]] W λe w'=>∃er,e=AT (U O er)/\Hid (kF C w g un ls v ⟨td,tx⟩ w' er)):=λW hW=>(Ae C g un _ ls v td tx W (h.below hW) (Ir hC hW.size) h20).mono (λe w' hh=>by
  obtain⟨er,h1,h2⟩:=hh;exact⟨er,h1,h2.out.after hW hC⟩)
 have hjm:(j:Int)<(ls.length:Int):=by omega
 have PN:(0:Int)<=(j:Int):=by omega
 have hjt:((j:Int)).toNat=j:=by omega
 have V6:Hid (Below w.heap.size w w.drew):=cA (Ib _ _);rw[hl];clear Vf h hv hj h20 hl;generalize hm:ls.length=m at *;clear hm;go_enter Tryz.func82,Tryz.ntmps82;go_wp2_with fail;go_region_with (first|(go_at_call 143;refine(HS.out _ V6.out).mono ?_;rintro e w1 ⟨er,rfl,HR⟩))
 all_goals
  go_wp2_with fail;go_ret;exact⟨er,rfl,HR⟩
theorem wq(C g:Nat)(un ul:Value)(ls:List Lt.fg)(v:Ev)(p:Pk)(zm zs zg zw:Value)(w:World)(h:ky C w g un ul ls v)(hC:C<=w.heap.size)(h20:ls.length<=20)(hx:jY w p zm zs zg zw)(hWr:∀W zm zs zg zw,lY W.heap.size W->jY W p zm zs zg zw->Calls AS 199 #[Ik #[Y p.cT,Ia p.whole,zm,zs,zg,zw]] W λe w'=>e=AT (Im #[Y p.T,U O p.e])/\Below W.heap.size W w')(hT:lY w.heap.size w) :
 Calls AS 141 #[If (AI ⟨g,0,be⟩),Ik #[Y p.cT,Ia p.whole,zm,zs,zg,zw]] w λe w'=>∃er,e=AT (U O er)/\Hid (kF C w g un ls v ⟨v.other,p.T⟩ w' er):=by
 have di:=(BY.1 h.hg).1;have HW:Hid (∀W,Below w.heap.size w W->Calls AS 199 #[Ik #[Y p.cT,Ia p.whole,zm,zs,zg,zw]] W λe w'=>e=AT (Im #[Y p.T,U O p.e])/\Below W.heap.size W w'):=λW hW=>hWr W zm zs zg zw (λW2 bL=>hT W2 (hW.trans (bL.mono hW.size))) (hx.below hW);have HS:Hid (∀W,Below w.heap.size w W->Calls AS 143 #[If (AI ⟨g,0,be⟩),Ik #[U O v.other,Y p.T]] W λe w'=>∃er,e=AT (U O er)/\Hid (kF C w g un ls v ⟨v.other,p.T⟩ w' er)):=λW hW=>(Ae C g un ul ls v v.other p.T W (h.below hW) (Ir hC hW.size) h20).mono (λe w' hh=>by
  obtain⟨er,h1,h2⟩:=hh;exact⟨er,h1,h2.out.after hW hC⟩)
 have HG:Hid (∀W,Below w.heap.size w W->W.cell? ⟨g,4,be⟩=AI (U O v.other)):=λW hW=>(hW.cell (p:=⟨g,4,be⟩) di).trans (ae h.hg 4);obtain⟨⟨a2,c2,rfl,_⟩,⟨a3,c3,rfl,_⟩,⟨a4,c4,rfl,_⟩,⟨a5,c5,rfl,_⟩,_,_⟩:=hx;clear h hWr hT h20;generalize p.T=tx at *;generalize p.e=pe at *;obtain⟨W0,bA,bM,-,dF⟩:=bV w #[Y p.cT,Ia p.whole,J a2 p.ms.length c2,J a3 p.sv.length c3,J a4 p.gw.length c4,J a5 p.wh.length c5] 53;obtain⟨q0,q1,q2,q3,q4,q5⟩:=fo dF;have cY:Hid _:=bM;clear dF bM;generalize p.cT=pf at *;generalize p.whole=pw at *;generalize p.ms.length=k2 at *;generalize p.sv.length=k3 at *;generalize p.gw.length=k4 at *;generalize p.wh.length=k5 at *;go_enter Tryz.func141,Tryz.ntmps141;go_upto_region 1 with fail
 rw[<- bA];clear bA;go_wp2_with fail;refine(HW.out W0 cY.out).mono ?_;rintro e w1 ⟨rfl,aB⟩;have aY:Hid _:=cY.out.trans (aB.mono cY.out.size);have y4:=HG.out w1 aY.out;clear aB HW HG;go_wp2_with fail;refine(HS.out w1 aY.out).mono ?_;rintro e w2 ⟨er,rfl,HR⟩;go_wp2_with fail;go_ret;exact⟨er,rfl,HR⟩
theorem ry(C g nb j:Nat)(ul:Value)(ls:List Lt.fg)(v:Ev)(L:List Nx)(w:World)(h:ky C w g (J (AI ⟨nb,0,be⟩) L.length L.length) ul ls v)(hN:cG C w nb L)(hC:C<=w.heap.size)(h20:ls.length<=20)(hv:v.which=(j:Int))(hj:j<L.length)(he:(L.getD j bW).n.e=0)(hV:Rv w.heap.size w)(hWr:∀W zm zs zg zw,lY W.heap.size W->jY W (eu (L.getD j bW).n) zm zs zg zw->Calls AS 199 #[Ik #[Y (eu (L.getD j bW).n).cT,Ia (eu (L.getD j bW).n).whole,zm,zs,zg,zw]] W λe w'=>e=AT (Im #[Y (eu (L.getD j bW).n).T,U O (eu (L.getD j bW).n).e])/\Below W.heap.size W w') :
 Calls AS 79 #[If (AI ⟨g,0,be⟩)] w λe w'=>∃er,e=AT (U O er)/\Hid (kF C w g (J (AI ⟨nb,0,be⟩) L.length L.length) ls v ⟨v.other,(eu (L.getD j bW).n).T⟩ w' er):=by
 have g0:=ae h.hg 0;have g3:w.cell? ⟨g,3,be⟩=AI (U O (j:Int)):=by rw[<- hv];exact ae h.hg 3
 have TA:=xB C g nb j L.length L.length L w hN hj rfl g0 g3;have hI:=(hN.own _ (gl hj)).is (hN.ok _ (gl hj));have Vg:=hN.ok _ (gl hj);generalize L.getD j bW=x at *;have V4:Hid (∀W,Below w.heap.size w W->Calls AS 23 #[Ik (dw x.n x.vm x.vr x.vs x.vg x.vw)] W λe w'=>Below W.heap.size W w'/\∃a2 n2 c2 a3 n3 c3 a4 n4 c4 a5 n5 c5,e=AT (Im #[Ik #[Y x.n.name,Ia true,J a2 n2 c2,J a3 n3 c3,J a4 n4 c4,J a5 n5 c5],U O 0])/\Hid (jY w' (eu x.n) (J a2 n2 c2) (J a3 n3 c3) (J a4 n4 c4) (J a5 n5 c5))):=λW hW=>by
  refine(vT x.n x.vm x.vr x.vs x.vg x.vw W (hI.below hW)).mono ?_;rintro e w' ⟨hb,⟨aT,_⟩|⟨_,um,us,ug,uw,rfl,h1,h2,h3,h4⟩⟩
  .exact absurd he aT
  .obtain⟨a2,c2,e2⟩:=aJ h1
   obtain⟨a3,c3,e3⟩:=aJ h2;obtain⟨a4,c4,e4⟩:=aJ h3;obtain⟨a5,c5,e5⟩:=aJ h4;subst e2 e3 e4 e5;exact⟨hb,_,_,_,_,_,_,_,_,_,_,_,_,rfl,bF h1 Vg.ms,Sv.bF h2 Vg.sv,Gw.bF h3 Vg.gw,Wh.bF h4 Vg.wh,Vg.name,nv h1⟩
 have Ps:Hid (∀W a2 n2 c2 a3 n3 c3 a4 n4 c4 a5 n5 c5,Below w.heap.size w W->jY W (eu x.n) (J a2 n2 c2) (J a3 n3 c3) (J a4 n4 c4) (J a5 n5 c5)->Calls AS 141 #[If (AI ⟨g,0,be⟩),Ik #[Y x.n.name,Ia true,J a2 n2 c2,J a3 n3 c3,J a4 n4 c4,J a5 n5 c5]] W λe w'=>∃er,e=AT (U O er)/\Hid (kF C w g (J (AI ⟨nb,0,be⟩) L.length L.length) ls v ⟨v.other,(eu x.n).T⟩ w' er)):=λW a2 n2 c2 a3 n3 c3 a4 n4 c4 a5 n5 c5 hW hx=>
  (wq C g _ ul ls v (eu x.n) _ _ _ _ W (h.below hW) (Ir hC hW.size) h20 hx hWr (hV.after hW).Vy).mono (λe w' hh=>by
    obtain⟨er,h1,h2⟩:=hh;exact⟨er,h1,h2.out.after hW hC⟩)
 clear h hN hv hI Vg hV g0 g3 he hWr;generalize L.length=n at *;generalize(eu x.n).T=tx at *;obtain⟨⟨nm,ct,ms,rs,sv,gw,⟨px,py,pz,ph,pq⟩,wh⟩,vm,vr,vs,vg,vw⟩:=x;simp only[dw] at TA V4 Ps;go_enter Tryz.func79,Tryz.ntmps79;go_wp2_with fail;refine TA.mono ?_;rintro e w1 ⟨rfl,aB⟩;have aY:Hid _:=aB;clear aB TA;go_wp2_with fail;refine(V4.out w1 aY.out).mono ?_;rintro e w2 ⟨aI,a2,n2,c2,a3,n3,c3,a4,n4,c4,a5,n5,c5,rfl,Wr⟩;have bp:Hid _:=aY.out.trans (aI.mono aY.out.size);clear aI aY V4;obtain⟨W3,ep⟩:∃W3,W3=w2.alloc (By #[Y nm,Ia true,J a2 n2 c2,J a3 n3 c3,J a4 n4 c4,J a5 n5 c5] 53):=⟨_,rfl⟩;have bU:Below w2.heap.size w2 W3:=by rw[ep];exact(Ib _ _).alloc (Ic _) _
 have cF:Hid _:=bp.out.trans (bU.mono bp.out.size);have sK:Hid _:=Wr.out.below bU;have lh:W3.heap[w2.heap.size]?=AI (By #[Y nm,Ia true,J a2 n2 c2,J a3 n3 c3,J a4 n4 c4,J a5 n5 c5] 53 (0,0)):=by rw[ep];exact Ii w2 _
 obtain⟨q0,q1,q2,q3,q4,q5⟩:=fo lh;clear bU lh bp Wr;go_wp2_with fail;rw[<- ep];refine(Ps.out W3 _ _ _ _ _ _ _ _ _ _ _ _ cF.out sK.out).mono ?_;rintro e w4 ⟨er,rfl,HR⟩;clear ep q0 q1 q2 q3 q4 q5 cF sK Ps;go_wp2_with fail;go_ret;exact⟨er,rfl,HR⟩
theorem Lq(g nb n j:Nat)(R:Array Value)(v0 v1 v2 v3 v4 v5 v6 v7 v8 v9 v10 v11:Value)(x0 x1:ByteArray)(a2 a3 a4 a5 a11:Option Addr)(n2 k2 n3 k3 n4 k4 n5 k5 n11 k11:Nat)(x6 x7 x8 x9 x10:Int)(w:World)(F:World->List Value->Value->Prop)(Rs:Int->World->Prop)(hj:j<n)(g0:w.cell? ⟨g,0,be⟩=AI (J (AI ⟨nb,0,be⟩) n n))(g3:w.cell? ⟨g,3,be⟩=AI (U O (j:Int)))(cO:w.heap[nb]?=AI (By R 42 (0,0)))(Md:nb≠g)(c0:R[j*12]?=AI v0)(c1:R[j*12+1]?=AI v1)(c2:R[j*12+2]?=AI v2)(c3:R[j*12+3]?=AI v3)(c4:R[j*12+4]?=AI v4)(c5:R[j*12+5]?=AI v5)(c6:R[j*12+6]?=AI v6)(c7:R[j*12+7]?=AI v7)(c8:R[j*12+8]?=AI v8)(c9:R[j*12+9]?=AI v9)(c10:R[j*12+10]?=AI v10)(c11:R[j*12+11]?=AI v11)(hWH:Calls AS 85 #[If (AI ⟨g,0,be⟩)] w λe w'=>e=AT (Ik #[Y x0,Y x1,J a2 n2 k2,J a3 n3 k3,J a4 n4 k4,J a5 n5 k5,U O x6,U O x7,U O x8,U O x9,U O x10,J a11 n11 k11])/\Below w.heap.size w w')(hTL:∀W,Below w.heap.size w W->Calls AS 18 #[Ik #[Y x0,Y x1,J a2 n2 k2,J a3 n3 k3,J a4 n4 k4,J a5 n5 k5,U O x6,U O x7,U O x8,U O x9,U O x10,J a11 n11 k11]] W λe w'=>Below W.heap.size W w'/\∃u0 u1 b2 m2 e2 b3 m3 e3 b4 m4 e4 b5 m5 e5 u6 u7 u8 u9 u10 b11 m11 e11 qa qk qc,e=AT (Im #[Ik #[Y u0,Y u1,J b2 m2 e2,J b3 m3 e3,J b4 m4 e4,J b5 m5 e5,U O u6,U O u7,U O u8,U O u9,U O u10,J b11 m11 e11],Ik #[Y x0,Ia false,J qa qk qc,J be 0 0,J be 0 0,J be 0 0],U O 0])/\Hid (F w' [Y u0,Y u1,J b2 m2 e2,J b3 m3 e3,J b4 m4 e4,J b5 m5 e5,U O u6,U O u7,U O u8,U O u9,U O u10,J b11 m11 e11] (J qa qk qc)))(hF:∀V V' xs q,F V xs q->Below V.heap.size V V'->F V' xs q)(hWR:∀V u0 u1 b2 m2 e2 b3 m3 e3 b4 m4 e4 b5 m5 e5 u6 u7 u8 u9 u10 b11 m11 e11 qa qk qc,Below w.heap.size w V->F V [Y u0,Y u1,J b2 m2 e2,J b3 m3 e3,J b4 m4 e4,J b5 m5 e5,U O u6,U O u7,U O u8,U O u9,U O u10,J b11 m11 e11] (J qa qk qc)->Calls AS 141 #[If (AI ⟨g,0,be⟩),Ik #[Y x0,Ia false,J qa qk qc,J be 0 0,J be 0 0,J be 0 0]] (JB (aD nb [Y u0,Y u1,J b2 m2 e2,J b3 m3 e3,J b4 m4 e4,J b5 m5 e5,U O u6,U O u7,U O u8,U O u9,U O u10,J b11 m11 e11] (j*12) V)) λe w'=>∃er,e=AT (U O er)/\Rs er w') :
 Calls AS 78 #[If (AI ⟨g,0,be⟩)] w λe w'=>∃er,e=AT (U O er)/\Rs er w':=by
 have di:=Iy w _ g0;have aN:=(BY.1 cO).1;have HTL:Hid _:=hTL;have HF:Hid _:=hF;have Ps:Hid _:=hWR;have HX:Hid (∀V,Below w.heap.size w V->V.cell? ⟨g,0,be⟩=AI (J (AI ⟨nb,0,be⟩) n n)/\V.cell? ⟨g,3,be⟩=AI (U O (j:Int))/\V.heap[nb]?=AI (By R 42 (0,0))):=λV hV=>⟨(hV.cell (p:=⟨g,0,be⟩) di).trans g0,(hV.cell (p:=⟨g,3,be⟩) di).trans g3,(hV.block nb aN).trans cO⟩;have HC:Hid (∀V:World,V.heap[nb]?=AI (By R 42 (0,0))->V.cell? ⟨nb,j*12,be⟩=AI v0/\V.cell? ⟨nb,j*12+1,be⟩=AI v1/\V.cell? ⟨nb,j*12+2,be⟩=AI v2/\V.cell? ⟨nb,j*12+3,be⟩=AI v3/\V.cell? ⟨nb,j*12+4,be⟩=AI v4/\V.cell? ⟨nb,j*12+5,be⟩=AI v5/\V.cell? ⟨nb,j*12+6,be⟩=AI v6/\V.cell? ⟨nb,j*12+7,be⟩=AI v7/\V.cell? ⟨nb,j*12+8,be⟩=AI v8/\V.cell? ⟨nb,j*12+9,be⟩=AI v9/\V.cell? ⟨nb,j*12+10,be⟩=AI v10/\V.cell? ⟨nb,j*12+11,be⟩=AI v11):=λV hV=>⟨(ae hV _).trans c0,(ae hV _).trans c1,(ae hV _).trans c2,(ae hV _).trans c3,(ae hV _).trans c4,(ae hV _).trans c5,(ae hV _).trans c6,(ae hV _).trans c7,(ae hV _).trans c8,(ae hV _).trans c9,(ae hV _).trans c10,(ae hV _).trans c11⟩;have HZ:Hid (∀V:World,V.heap[nb]?=AI (By R 42 (0,0))->V.frozen? ⟨nb,j*12,be⟩=false/\V.frozen? ⟨nb,j*12+1,be⟩=false/\V.frozen? ⟨nb,j*12+2,be⟩=false/\V.frozen? ⟨nb,j*12+3,be⟩=false/\V.frozen? ⟨nb,j*12+4,be⟩=false/\V.frozen? ⟨nb,j*12+5,be⟩=false/\V.frozen? ⟨nb,j*12+6,be⟩=false/\V.frozen? ⟨nb,j*12+7,be⟩=false/\V.frozen? ⟨nb,j*12+8,be⟩=false/\V.frozen? ⟨nb,j*12+9,be⟩=false/\V.frozen? ⟨nb,j*12+10,be⟩=false/\V.frozen? ⟨nb,j*12+11,be⟩=false):=λV hV=>⟨an hV _,an hV _,an hV _,an hV _,an hV _,an hV _,an hV _,an hV _,an hV _,an hV _,an hV _,an hV _⟩;have LR:Hid _:=aN;have Cz:(j:Int)<(n:Int):=by omega
 have PN:(0:Int)<=(j:Int):=by omega
 have hjt:((j:Int)).toNat=j:=by omega
 clear hTL hF hWR di aN g0 g3 cO hj c0 c1 c2 c3 c4 c5 c6 c7 c8 c9 c10 c11;go_enter Tryz.func78,Tryz.ntmps78;go_wp2_with fail;refine hWH.mono ?_;rintro e w1 ⟨rfl,aB⟩;have aY:Hid _:=aB;clear aB hWH;go_wp2_with fail;refine(HTL.out w1 aY.out).mono ?_;rintro e w2 ⟨aI,u0,u1,b2,m2,e2,b3,m3,e3,b4,m4,e4,b5,m5,e5,u6,u7,u8,u9,u10,b11,m11,e11,qa,qk,qc,rfl,rY⟩;have bp:Hid _:=aY.out.trans (aI.mono aY.out.size);clear aI HTL aY;obtain⟨V,hV⟩:∃V,V=(w2.alloc (By #[Y u0,Y u1,J b2 m2 e2,J b3 m3 e3,J b4 m4 e4,J b5 m5 e5,U O u6,U O u7,U O u8,U O u9,U O u10,J b11 m11 e11] 42)).alloc (By #[Y x0,Ia false,J qa qk qc,J be 0 0,J be 0 0,J be 0 0] 53):=⟨_,rfl⟩;have NC:Below w2.heap.size w2 V:=by rw[hV];exact((Ib _ _).alloc (Ic _) _).alloc (by simp) _
 have uZ:V.heap[w2.heap.size]?=AI (By #[Y u0,Y u1,J b2 m2 e2,J b3 m3 e3,J b4 m4 e4,J b5 m5 e5,U O u6,U O u7,U O u8,U O u9,U O u10,J b11 m11 e11] 42 (0,0)):=by rw[hV];exact(Lib.alloc_old _ _ _ (by simp)).trans (Ii w2 _)
 have GD:V.heap[w2.heap.size+1]?=AI (By #[Y x0,Ia false,J qa qk qc,J be 0 0,J be 0 0,J be 0 0] 53 (0,0)):=by
  rw[hV];have:=Ii (w2.alloc (By #[Y u0,Y u1,J b2 m2 e2,J b3 m3 e3,J b4 m4 e4,J b5 m5 e5,U O u6,U O u7,U O u8,U O u9,U O u10,J b11 m11 e11] 42)) (By #[Y x0,Ia false,J qa qk qc,J be 0 0,J be 0 0,J be 0 0] 53);simpa using this
 have oD:Hid _:=bp.out.trans (NC.mono bp.out.size);have TB:=HF.out _ _ _ _ rY.out NC;obtain⟨a0,a3,nO⟩:=HX.out V oD.out;obtain⟨d0,d1,d2,d3,d4,d5,d6,d7,d8,d9,d10,d11⟩:=HC.out V nO;obtain⟨z0,z1,z2,z3,z4,z5,z6,z7,z8,z9,z10,z11⟩:=HZ.out V nO;obtain⟨y0,y1,y2,y3,y4,y5,y6,y7,y8,y9,y10,y11⟩:=bu uZ;have Va:nb≠w2.heap.size:=by have:=LR.out;have:=bp.out.size;omega
 have nE3:nb≠w2.heap.size+1:=by have:=LR.out;have:=bp.out.size;omega
 obtain⟨W5,iV⟩:∃W5,W5=JB (aD nb [Y u0,Y u1,J b2 m2 e2,J b3 m3 e3,J b4 m4 e4,J b5 m5 e5,U O u6,U O u7,U O u8,U O u9,U O u10,J b11 m11 e11] (j*12) V):=⟨_,rfl⟩;have Me:=Ps.out V _ _ _ _ _ _ _ _ _ _ _ _ _ _ _ _ _ _ _ _ _ _ _ _ _ oD.out TB;rw[<- iV] at Me;have hp5:W5.heap[w2.heap.size+1]?=AI (By #[Y x0,Ia false,J qa qk qc,J be 0 0,J be 0 0,J be 0 0] 53 (0,0)):=by rw[iV,dA,aV (Ne.symm nE3)];exact GD
 obtain⟨t0,t1,t2,t3,t4,t5⟩:=fo hp5;simp only[aD,Nat.add_assoc,Jg] at iV;clear NC uZ GD hp5 nO TB rY bp oD HX HC HZ Ps HF;go_upto_region 2 with fail
 rw[<- hV];clear hV;go_region_held3 (λw'=>w'.cell? ⟨g,0,be⟩=AI (J (AI ⟨nb,0,be⟩) n n)/\w'.cell? ⟨g,3,be⟩=AI (U O (j:Int))/\w'.cell? ⟨w2.heap.size,0,be⟩=AI (Y u0)/\w'.cell? ⟨w2.heap.size,1,be⟩=AI (Y u1)/\w'.cell? ⟨w2.heap.size,2,be⟩=AI (J b2 m2 e2)/\w'.cell? ⟨w2.heap.size,3,be⟩=AI (J b3 m3 e3)/\w'.cell? ⟨w2.heap.size,4,be⟩=AI (J b4 m4 e4)/\w'.cell? ⟨w2.heap.size,5,be⟩=AI (J b5 m5 e5)/\w'.cell? ⟨w2.heap.size,6,be⟩=AI (U O u6)/\w'.cell? ⟨w2.heap.size,7,be⟩=AI (U O u7)/\w'.cell? ⟨w2.heap.size,8,be⟩=AI (U O u8)/\w'.cell? ⟨w2.heap.size,9,be⟩=AI (U O u9)/\w'.cell? ⟨w2.heap.size,10,be⟩=AI (U O u10)/\w'.cell? ⟨w2.heap.size,11,be⟩=AI (J b11 m11 e11)) (simp only[JO,Qh,ne_eq,Md,Va,not_false_eq_true,a0,a3,y0,y1,y2,y3,y4,y5,y6,y7,y8,y9,y10,y11,and_self]) (fail)
 obtain⟨W6,uh⟩:∃W6,W6=W5:=⟨_,rfl⟩;have Ek:=uh.trans iV;rw[<- Ek];rw[uh];clear iV uh Ek d0 z0 y0 d1 z1 y1 d2 z2 y2 d3 z3 y3 d4 z4 y4 d5 z5 y5 d6 z6 y6 d7 z7 y7 d8 z8 y8 d9 z9 y9 d10 z10 y10 d11 z11 y11 a0 a3;go_wp2_with fail;refine Me.mono ?_;rintro e w6 ⟨er,rfl,Rx⟩;have HR6:Hid (Rs er w6):=Rx;clear Rx Me;go_wp2_with fail;go_ret;exact⟨er,rfl,HR6.out⟩
theorem Lr(C g nb j:Nat)(ul:Value)(ls:List Lt.fg)(v:Ev)(L:List Nx)(w:World)(h:ky C w g (J (AI ⟨nb,0,be⟩) L.length L.length) ul ls v)(hN:cG C w nb L)(hC:C<=w.heap.size)(h20:ls.length<=20)(hv:v.which=(j:Int))(hj:j<L.length)(he:(L.getD j bW).n.e=0)(hT:∀V,Below C w V->lY V.heap.size V) :
 Calls AS 78 #[If (AI ⟨g,0,be⟩)] w λe w'=>∃er,e=AT (U O er)/\Below C w w'/\(ls.length<20->er=0)/\(er=0->ls.length<20/\∃y a k c l rest,jT (L.getD j bW).n l rest/\y.n={ (L.getD j bW).n with rs:=rest }/\cG C w' nb (L.set j y)/\ky C w' g (J (AI ⟨nb,0,be⟩) L.length L.length) (J a k c) (ls++[⟨v.other,(pW (L.getD j bW).n.name l).T⟩]) v):=by
 have dF:=ae h.hg 0;have lh:w.cell? ⟨g,3,be⟩=AI (U O (j:Int)):=by rw[<- hv];exact ae h.hg 3
 have Md:nb≠g:=λe=>by
  have h1:=hN.row;rw[e,h.hg] at h1;simp at h1
 have hWH:=xB C g nb j L.length L.length L w hN hj rfl dF lh;have hc:=λi hi=>lR L j hj i hi;have bZ:∀i,i<12->∃u,(iS L).toArray[j*12+i]?=AI u:=λi hi=>by
  refine⟨(L.getD j bW).cs[i]'(by rw[jv];exact hi),?_⟩;rw[QE,hc i hi,Ie]
 obtain⟨v0,c0⟩:=bZ 0 (by omega);obtain⟨v1,c1⟩:=bZ 1 (by omega);obtain⟨v2,c2⟩:=bZ 2 (by omega);obtain⟨v3,c3⟩:=bZ 3 (by omega);obtain⟨v4,c4⟩:=bZ 4 (by omega);obtain⟨v5,c5⟩:=bZ 5 (by omega);obtain⟨v6,c6⟩:=bZ 6 (by omega);obtain⟨v7,c7⟩:=bZ 7 (by omega);obtain⟨v8,c8⟩:=bZ 8 (by omega);obtain⟨v9,c9⟩:=bZ 9 (by omega);obtain⟨v10,c10⟩:=bZ 10 (by omega);obtain⟨v11,c11⟩:=bZ 11 (by omega);have ho:=hN.own _ (gl hj);have hY:=hN.ok _ (gl hj);clear hc bZ;generalize L.getD j bW=x at *;obtain⟨⟨nm,ct,ms,rs,sv,gw,⟨px,py,pz,ph,pq⟩,wh⟩,vm,vr,vs,vg,vw⟩:=x;obtain⟨a2,x2,h2⟩:=aJ ho.ms;obtain⟨a3,x3,h3⟩:=aJ ho.rs;obtain⟨a4,x4,h4⟩:=aJ ho.sv;obtain⟨a5,x5,h5⟩:=aJ ho.gw;obtain⟨a11,x11,h11⟩:=aJ ho.wh;simp only at h2 h3 h4 h5 h11;subst h2 h3 h4 h5 h11;refine Lq g nb L.length j (iS L).toArray v0 v1 v2 v3 v4 v5 v6 v7 v8 v9 v10 v11 nm ct a2 a3 a4 a5 a11 _ x2 _ x3 _ x4 _ x5 _ x11 px py pz ph pq w (λV xs q=>∃l rest,jT ⟨nm,ct,ms,rs,sv,gw,⟨px,py,pz,ph,pq⟩,wh⟩ l rest/\afn C ⟨nm,ct,ms,rest,sv,gw,⟨px,py,pz,ph,pq⟩,wh⟩ l V xs q) (λer w'=>_/\(ls.length<20->er=0)/\(er=0->_)) hj dF lh hN.row Md c0 c1 c2 c3 c4 c5 c6 c7 c8 c9 c10 c11 hWH ?_ ?_ ?_
 .intro W hW
  refine(zO _ _ _ _ _ _ W ((ho.is hY).below hW)).mono ?_;rintro e w' ⟨hb,⟨aT,_⟩|⟨_,n',um,ur,us,ug,uw,a,k,c,l,rfl,hn,ht,ho',Nb,zk⟩⟩
  .exact absurd he aT
  have Vh:=Ir hC hW.size;have fB:=ho'.mono Vh;clear ho';generalize n'.rs=rest at hn ht;subst hn;obtain⟨b2,d2,e2⟩:=aJ fB.ms;obtain⟨b3,d3,e3⟩:=aJ fB.rs;obtain⟨b4,d4,e4⟩:=aJ fB.sv;obtain⟨b5,d5,e5⟩:=aJ fB.gw;obtain⟨b11,d11,e11⟩:=aJ fB.wh;subst e2 e3 e4 e5 e11;exact⟨hb,_,_,b2,_,d2,b3,_,d3,b4,_,d4,b5,_,d5,_,_,_,_,_,b11,_,d11,a,k,c,rfl,l,rest,ht,⟨⟨_,_,_,_,_,_⟩,rfl,rfl,fB,Nb⟩,Own.mono zk Vh⟩
 .rintro V V' xs q ⟨l,rest,ht,⟨y,rfl,hy,fB,jd⟩,hq⟩ hb
  exact⟨l,rest,ht,⟨y,rfl,hy,fB.below hb,jd⟩,Own.below hq hb⟩
 .rintro V u0 u1 b2 m2 e2 b3 m3 e3 b4 m4 e4 b5 m5 e5 u6 u7 u8 u9 u10 b11 m11 e11 qa qk qc Cp ⟨l,rest,ht,⟨y,hys,hy,fB,jd⟩,hq⟩
  rw[hys];have hl:∀m∈l,m.name.size<=Io:=λm hm=>by
   obtain⟨told,h1,h2,_⟩:=ht;exact(vW h1 hY.rs).1 m (h2.mem_iff.1 hm)
  have hNt:=hN.turn Cp hC hj fB jd;have et:∀q,q≠nb->(JB (aD nb y.cs (j*12) V)).heap[q]?=V.heap[q]?:=λq hq=>by rw[dA];exact aV hq _ _ _
  have nO:=(hN.below Cp hC).row;have hP:=(h.below Cp).row nO et;have hbC:Below C w (JB (aD nb y.cs (j*12) V)):=cA (aP hN.le _ _ (Cp.mono hC));have hq5:=en hq (λq cs f e=>(et q (λe2=>by subst e2;rw[nO] at e;simp at e)).trans e);have hx5:jY (JB (aD nb y.cs (j*12) V)) (pW nm l) (J qa qk qc) (J be 0 0) (J be 0 0) (J be 0 0):=⟨bF hq5 hl,Sv.bF (Sv.bX 0 _) (λm hm=>by cases hm),Gw.bF (Gw.bX 0 _) (λm hm=>by cases hm),Wh.bF (Wh.bX 0 _) (λm hm=>by cases hm),hY.name,nv hq5⟩;have Vh:=Ir hC hbC.size;refine(wq C g _ ul ls v (pW nm l) _ _ _ _ _ hP Vh h20 hx5 (λW zm zs zg zw hT hx=>nY _ _ _ _ _ W hx (.inr (by simp[pW])) hT) (hT _ hbC)).mono ?_;rintro e w' ⟨er,rfl,HS⟩;refine⟨er,rfl,hbC.trans HS.out.1.below,HS.out.2.1,λhz=>?_⟩;obtain⟨mo,a,k,c,hp⟩:=HS.out.2.2 hz;exact⟨mo,y,a,k,c,l,rest,ht,hy,hNt.mv HS.out.1,hp⟩
theorem Lu(er:Int)(g nb n k lb m cu j:Nat)(tx:ByteArray)(R:Array Value)(x0 x1:ByteArray)(a2 a3 a4 a5 a11:Option Addr)(n2 k2 n3 k3 n4 k4 n5 k5 n11 k11:Nat)(x6 x7 x8 x9 x10:Int)(w:World)(F G:World->List Value->Prop)(Rs:World->Prop)(hk:k<n)(hj:j<m)(g0:w.cell? ⟨g,0,be⟩=AI (J (AI ⟨nb,0,be⟩) n n))(g1:w.cell? ⟨g,1,be⟩=AI (J (AI ⟨lb,0,be⟩) m cu))(g3:w.cell? ⟨g,3,be⟩=AI (U O (j:Int)))(l0:w.cell? ⟨lb,j*2,be⟩=AI (U O (k:Int)))(l1:w.cell? ⟨lb,j*2+1,be⟩=AI (Y tx))(cO:w.heap[nb]?=AI (By R 42 (0,0)))(c0:R[k*12]?=AI (Y x0))(c1:R[k*12+1]?=AI (Y x1))(c2:R[k*12+2]?=AI (J a2 n2 k2))(c3:R[k*12+3]?=AI (J a3 n3 k3))(c4:R[k*12+4]?=AI (J a4 n4 k4))(c5:R[k*12+5]?=AI (J a5 n5 k5))(c6:R[k*12+6]?=AI (U O x6))(c7:R[k*12+7]?=AI (U O x7))(c8:R[k*12+8]?=AI (U O x8))(c9:R[k*12+9]?=AI (U O x9))(c10:R[k*12+10]?=AI (U O x10))(c11:R[k*12+11]?=AI (J a11 n11 k11))(hG:∀V V' xs,G V xs->Below V.heap.size V V'->G V' xs)(hF:∀V V' xs,F V xs->Below V.heap.size V V'->F V' xs)(hFS:∀(V:World) xs (b:Nat) cs L,F V xs->V.heap[b]?=AI (By cs 42 (0,0))->F (aD b L 0 V) xs)(Md:R[0]? ≠ AI (J (AI ⟨nb,0,be⟩) n n))(hRD:∀W,Below w.heap.size w W->Calls AS 69 #[Y tx] W λe w'=>Below W.heap.size W w'/\∃pf pw p2 q2 r2 p3 q3 r3 p4 q4 r4 p5 q5 r5,e=AT (Im #[Ik #[Y pf,Ia pw,J p2 q2 r2,J p3 q3 r3,J p4 q4 r4,J p5 q5 r5],U O 0])/\Hid (G w' [Y pf,Ia pw,J p2 q2 r2,J p3 q3 r3,J p4 q4 r4,J p5 q5 r5]))(hHR:∀W pf pw p2 q2 r2 p3 q3 r3 p4 q4 r4 p5 q5 r5,Below w.heap.size w W->G W [Y pf,Ia pw,J p2 q2 r2,J p3 q3 r3,J p4 q4 r4,J p5 q5 r5]->Calls AS 24 #[Ik #[Y x0,Y x1,J a2 n2 k2,J a3 n3 k3,J a4 n4 k4,J a5 n5 k5,U O x6,U O x7,U O x8,U O x9,U O x10,J a11 n11 k11],Ik #[Y pf,Ia pw,J p2 q2 r2,J p3 q3 r3,J p4 q4 r4,J p5 q5 r5]] W λe w'=>Below W.heap.size W w'/\∃u0 u1 b2 m2 e2 b3 m3 e3 b4 m4 e4 b5 m5 e5 u6 u7 u8 u9 u10 b11 m11 e11,e=AT (Im #[Ik #[Y u0,Y u1,J b2 m2 e2,J b3 m3 e3,J b4 m4 e4,J b5 m5 e5,U O u6,U O u7,U O u8,U O u9,U O u10,J b11 m11 e11],U O er])/\Hid (F w' [Y u0,Y u1,J b2 m2 e2,J b3 m3 e3,J b4 m4 e4,J b5 m5 e5,U O u6,U O u7,U O u8,U O u9,U O u10,J b11 m11 e11]))(hLS:er=0->∀V u0 u1 b2 m2 e2 b3 m3 e3 b4 m4 e4 b5 m5 e5 u6 u7 u8 u9 u10 b11 m11 e11,Below w.heap.size w V->F V [Y u0,Y u1,J b2 m2 e2,J b3 m3 e3,J b4 m4 e4,J b5 m5 e5,U O u6,U O u7,U O u8,U O u9,U O u10,J b11 m11 e11]->Calls AS 81 #[If (AI ⟨g,0,be⟩)] (JB (aD nb [Y u0,Y u1,J b2 m2 e2,J b3 m3 e3,J b4 m4 e4,J b5 m5 e5,U O u6,U O u7,U O u8,U O u9,U O u10,J b11 m11 e11] (k*12) V)) λe w'=>e=AT (U O 0)/\Rs w')(hL2:er≠0->∀V,Below w.heap.size w V->Calls AS 81 #[If (AI ⟨g,0,be⟩)] V λe w'=>e=AT (U O 0)/\Rs w') :
 Calls AS 80 #[If (AI ⟨g,0,be⟩)] w λe w'=>e=AT (U O 0)/\Rs w':=by
 have di:=Iy w _ g0;have aN:=(BY.1 cO).1;have HG:Hid _:=hG;have HF:Hid _:=hF;have HFS:Hid _:=hFS;have HNG:Hid _:=Md;have jZ:Hid _:=aN;have PX:Hid _:=hRD;have HHR:Hid _:=hHR;have HLS:Hid _:=hLS;have MD:Hid _:=hL2;have HX:Hid (∀V,Below w.heap.size w V->V.cell? ⟨g,0,be⟩=AI (J (AI ⟨nb,0,be⟩) n n)/\V.heap[nb]?=AI (By R 42 (0,0))):=λV hV=>⟨(hV.cell (p:=⟨g,0,be⟩) di).trans g0,(hV.block nb aN).trans cO⟩;have HC:Hid (∀V:World,V.heap[nb]?=AI (By R 42 (0,0))->V.cell? ⟨nb,k*12,be⟩=AI (Y x0)/\V.cell? ⟨nb,k*12+1,be⟩=AI (Y x1)/\V.cell? ⟨nb,k*12+2,be⟩=AI (J a2 n2 k2)/\V.cell? ⟨nb,k*12+3,be⟩=AI (J a3 n3 k3)/\V.cell? ⟨nb,k*12+4,be⟩=AI (J a4 n4 k4)/\V.cell? ⟨nb,k*12+5,be⟩=AI (J a5 n5 k5)/\V.cell? ⟨nb,k*12+6,be⟩=AI (U O x6)/\V.cell? ⟨nb,k*12+7,be⟩=AI (U O x7)/\V.cell? ⟨nb,k*12+8,be⟩=AI (U O x8)/\V.cell? ⟨nb,k*12+9,be⟩=AI (U O x9)/\V.cell? ⟨nb,k*12+10,be⟩=AI (U O x10)/\V.cell? ⟨nb,k*12+11,be⟩=AI (J a11 n11 k11)):=λV hV=>⟨(ae hV _).trans c0,(ae hV _).trans c1,(ae hV _).trans c2,(ae hV _).trans c3,(ae hV _).trans c4,(ae hV _).trans c5,(ae hV _).trans c6,(ae hV _).trans c7,(ae hV _).trans c8,(ae hV _).trans c9,(ae hV _).trans c10,(ae hV _).trans c11⟩;have HZ:Hid (∀V:World,V.heap[nb]?=AI (By R 42 (0,0))->V.frozen? ⟨nb,k*12,be⟩=false/\V.frozen? ⟨nb,k*12+1,be⟩=false/\V.frozen? ⟨nb,k*12+2,be⟩=false/\V.frozen? ⟨nb,k*12+3,be⟩=false/\V.frozen? ⟨nb,k*12+4,be⟩=false/\V.frozen? ⟨nb,k*12+5,be⟩=false/\V.frozen? ⟨nb,k*12+6,be⟩=false/\V.frozen? ⟨nb,k*12+7,be⟩=false/\V.frozen? ⟨nb,k*12+8,be⟩=false/\V.frozen? ⟨nb,k*12+9,be⟩=false/\V.frozen? ⟨nb,k*12+10,be⟩=false/\V.frozen? ⟨nb,k*12+11,be⟩=false):=λV hV=>⟨an hV _,an hV _,an hV _,an hV _,an hV _,an hV _,an hV _,an hV _,an hV _,an hV _,an hV _,an hV _⟩;have hjm:(j:Int)<(m:Int):=by omega
 have gK:(k:Int)<(n:Int):=by omega
 have PN:(0:Int)<=(j:Int):=by omega
 have vq:(0:Int)<=(k:Int):=by omega
 have hjt:((j:Int)).toNat=j:=by omega
 have hkt:((k:Int)).toNat=k:=by omega
 obtain⟨Wa,hWa⟩:∃Wa,Wa=JB (w.alloc (By #[U O (k:Int),Y tx] 102)):=⟨_,rfl⟩;have rS:Below w.heap.size w Wa:=by rw[hWa];exact cA ((Ib _ _).alloc (Ic _) _)
 have gH:Wa.heap[w.heap.size]?=AI (By #[U O (k:Int),Y tx] 102 (0,0)):=by rw[hWa,dA];exact Ii w _
 have HSA:Hid _:=(BY.1 gH).1;have TC:Hid _:=rS;have T6:Hid _:=gH;have s1:=ae gH 1;clear hFS Md hG hF hRD hHR hLS hL2 rS gH c0 c1 c2 c3 c4 c5 c6 c7 c8 c9 c10 c11 cO g0 di aN hk hj;go_enter Tryz.func80,Tryz.ntmps80;go_wp2_with fail;go_region_held3 (λw'=>w'.cell? ⟨g,1,be⟩=AI (J (AI ⟨lb,0,be⟩) m cu)/\w'.cell? ⟨g,3,be⟩=AI (U O (j:Int))/\w'.cell? ⟨lb,j*2,be⟩=AI (U O (k:Int))/\w'.cell? ⟨lb,j*2+1,be⟩=AI (Y tx)) (go_keep) (fail)
 go_wp2_with fail;rw[<- hWa];clear hWa g1 g3 l0 l1 hjm PN hjt;refine(PX.out Wa TC.out).mono ?_;rintro e w1 ⟨aB,pf,pw,p2,q2,r2,p3,q3,r3,p4,q4,r4,p5,q5,r5,rfl,uJ⟩;have aY:Hid _:=TC.out.trans (aB.mono TC.out.size);have vt:Hid _:=(aB.block _ HSA.out).trans T6.out;clear aB PX s1;obtain⟨W2,bL,aI,-,vC⟩:=bV w1 #[Y pf,Ia pw,J p2 q2 r2,J p3 q3 r3,J p4 q4 r4,J p5 q5 r5] 53;have wC:Hid (G W2 [Y pf,Ia pw,J p2 q2 r2,J p3 q3 r3,J p4 q4 r4,J p5 q5 r5]):=HG.out _ _ _ uJ.out aI;have bp:Hid (Below w.heap.size w W2):=aY.out.trans (aI.mono aY.out.size);have uG:Hid (W2.heap[w.heap.size]?=AI (By #[U O (k:Int),Y tx] 102 (0,0))):=(aI.block _ (BY.1 vt.out).1).trans vt.out;have nZ:Hid _:=vC;have g0:=(HX.out W2 bp.out).1;have s0:W2.cell? ⟨w.heap.size,0,be⟩=AI (U O (k:Int)):=ae uG.out 0;obtain⟨c0,c1,c2,c3,c4,c5,c6,c7,c8,c9,c10,c11⟩:=HC.out W2 (HX.out W2 bp.out).2;obtain⟨q0_,q1_,q2_,q3_,q4_,q5_⟩:=fo vC;clear aI vC uJ aY;go_upto_region 3 with fail
 rw[<- bL];clear bL vt;have SJ:Hid (∀W,Below W2.heap.size W2 W->W.cell? ⟨g,0,be⟩=AI (J (AI ⟨nb,0,be⟩) n n)/\W.cell? ⟨w.heap.size,0,be⟩=AI (U O (k:Int))/\W.cell? ⟨nb,k*12,be⟩=AI (Y x0)/\W.cell? ⟨nb,k*12+1,be⟩=AI (Y x1)/\W.cell? ⟨nb,k*12+2,be⟩=AI (J a2 n2 k2)/\W.cell? ⟨nb,k*12+3,be⟩=AI (J a3 n3 k3)/\W.cell? ⟨nb,k*12+4,be⟩=AI (J a4 n4 k4)/\W.cell? ⟨nb,k*12+5,be⟩=AI (J a5 n5 k5)/\W.cell? ⟨nb,k*12+6,be⟩=AI (U O x6)/\W.cell? ⟨nb,k*12+7,be⟩=AI (U O x7)/\W.cell? ⟨nb,k*12+8,be⟩=AI (U O x8)/\W.cell? ⟨nb,k*12+9,be⟩=AI (U O x9)/\W.cell? ⟨nb,k*12+10,be⟩=AI (U O x10)/\W.cell? ⟨nb,k*12+11,be⟩=AI (J a11 n11 k11)/\W.cell? ⟨w1.heap.size,0,be⟩=AI (Y pf)/\W.cell? ⟨w1.heap.size,1,be⟩=AI (Ia pw)/\W.cell? ⟨w1.heap.size,2,be⟩=AI (J p2 q2 r2)/\W.cell? ⟨w1.heap.size,3,be⟩=AI (J p3 q3 r3)/\W.cell? ⟨w1.heap.size,4,be⟩=AI (J p4 q4 r4)/\W.cell? ⟨w1.heap.size,5,be⟩=AI (J p5 q5 r5)):=λW hW=>by
  have hx:=HX.out W (bp.out.trans (hW.mono bp.out.size));obtain⟨e0_,e1_,e2_,e3_,e4_,e5_,e6_,e7_,e8_,e9_,afB,afC⟩:=HC.out W hx.2;exact⟨hx.1,ae ((hW.block _ (BY.1 uG.out).1).trans uG.out) 0,e0_,e1_,e2_,e3_,e4_,e5_,e6_,e7_,e8_,e9_,afB,afC,fo ((hW.block _ (BY.1 nZ.out).1).trans nZ.out)⟩
 have Ss:W2.heap.size≠g:=λe=>by have:=bp.out.size;have:=Iy W2 ⟨g,0,be⟩ g0;simp at this;omega
 have Su:W2.heap.size≠w.heap.size:=λe=>by have:=(BY.1 uG.out).1;omega
 have Xj:W2.heap.size≠nb:=λe=>by have:=Iy W2 ⟨nb,k*12,be⟩ c0;simp at this;omega
 have Xk:W2.heap.size≠w1.heap.size:=λe=>by have:=(BY.1 nZ.out).1;omega
 go_region_held3 (λw'=>w'.cell? ⟨g,0,be⟩=AI (J (AI ⟨nb,0,be⟩) n n)/\w'.cell? ⟨w.heap.size,0,be⟩=AI (U O (k:Int))/\w'.cell? ⟨nb,k*12,be⟩=AI (Y x0)/\w'.cell? ⟨nb,k*12+1,be⟩=AI (Y x1)/\w'.cell? ⟨nb,k*12+2,be⟩=AI (J a2 n2 k2)/\w'.cell? ⟨nb,k*12+3,be⟩=AI (J a3 n3 k3)/\w'.cell? ⟨nb,k*12+4,be⟩=AI (J a4 n4 k4)/\w'.cell? ⟨nb,k*12+5,be⟩=AI (J a5 n5 k5)/\w'.cell? ⟨nb,k*12+6,be⟩=AI (U O x6)/\w'.cell? ⟨nb,k*12+7,be⟩=AI (U O x7)/\w'.cell? ⟨nb,k*12+8,be⟩=AI (U O x8)/\w'.cell? ⟨nb,k*12+9,be⟩=AI (U O x9)/\w'.cell? ⟨nb,k*12+10,be⟩=AI (U O x10)/\w'.cell? ⟨nb,k*12+11,be⟩=AI (J a11 n11 k11)/\w'.cell? ⟨w1.heap.size,0,be⟩=AI (Y pf)/\w'.cell? ⟨w1.heap.size,1,be⟩=AI (Ia pw)/\w'.cell? ⟨w1.heap.size,2,be⟩=AI (J p2 q2 r2)/\w'.cell? ⟨w1.heap.size,3,be⟩=AI (J p3 q3 r3)/\w'.cell? ⟨w1.heap.size,4,be⟩=AI (J p4 q4 r4)/\w'.cell? ⟨w1.heap.size,5,be⟩=AI (J p5 q5 r5)) (first|go_keep|(obtain⟨i0_,i1_,i2_,i3_,i4_,i5_,i6_,i7_,i8_,i9_,afD,afE,afF,afG,afH,afI,afJ,afK,afL,afM⟩:=hS;simp only[JO,Qh,ne_eq,Ss,Su,Xj,Xk,not_false_eq_true,i0_,i1_,i2_,i3_,i4_,i5_,i6_,i7_,i8_,i9_,afD,afE,afF,afG,afH,afI,afJ,afK,afL,afM,and_self])) (first|(go_at_call 24;refine Ou (HHR.out _ _ _ _ _ _ _ _ _ _ _ _ _ _ _ (by first|exact cA bp.out|exact cA (bp.out.alloc bp.out.size _)) (HG.out _ _ _ wC.out (by first|exact cA (Ib _ _)|exact cA ((Ib _ _).alloc (Ic _) _)))) ?_;rintro e w3 ⟨bU,u0,u1,b2,m2,e2,b3,m3,e3,b4,m4,e4,b5,m5,e5,u6,u7,u8,u9,u10,b11,m11,e11,rfl,rF⟩;first
  |(have cF:Hid (Below W2.heap.size W2 w3):=(Ib W2.heap.size W2).drew.trans bU
    have hS:=SJ.out w3 cF.out;clear bU)
  |(have cF:Hid (Below W2.heap.size W2 w3):=(cA ((Ib W2.heap.size W2).alloc (Ic _) _)).trans (bU.mono (by simp))
    have qb:w3.heap[W2.heap.size]?=AI (By #[Y ⟨#[]⟩,Y ⟨#[]⟩,J be 0 0,J be 0 0,J be 0 0,J be 0 0,U O 0,U O 0,U O 0,U O 0,U O 0,J be 0 0] 42 (0,0)):=(bU.block _ (by simp)).trans (Ii W2 _);have hS:=SJ.out w3 cF.out;obtain⟨f0,f1,f2,f3,f4,f5,f6,f7,f8,f9,f10,f11⟩:=bu qb;obtain⟨h0,h1,h2,h3,h4,h5,h6,h7,h8,h9,h10,h11⟩:=jS qb;clear bU)))
 all_goals
  first
  |(obtain⟨V,hV⟩:∃V,V=w3.alloc (By #[Y u0,Y u1,J b2 m2 e2,J b3 m3 e3,J b4 m4 e4,J b5 m5 e5,U O u6,U O u7,U O u8,U O u9,U O u10,J b11 m11 e11] 42):=⟨_,rfl⟩
    rw[<- hV];have uZ:V.heap[w3.heap.size]?=AI (By #[Y u0,Y u1,J b2 m2 e2,J b3 m3 e3,J b4 m4 e4,J b5 m5 e5,U O u6,U O u7,U O u8,U O u9,U O u10,J b11 m11 e11] 42 (0,0)):=by rw[hV];exact Ii w3 _
    have oD:Hid (Below W2.heap.size W2 V):=by rw[hV];exact cF.out.alloc cF.out.size _
    have TB:Hid (F V [Y u0,Y u1,J b2 m2 e2,J b3 m3 e3,J b4 m4 e4,J b5 m5 e5,U O u6,U O u7,U O u8,U O u9,U O u10,J b11 m11 e11]):=by rw[hV];exact HF.out _ _ _ rF.out ((Ib _ _).alloc (Ic _) _)
    have hmb:w.heap.size<=w3.heap.size:=Ir bp.out.size cF.out.size;clear hV rF cF hS;generalize w3.heap.size=mb at uZ hmb ⊢)
  |(obtain⟨V,hV⟩:∃V,V=((((((((((((w3.setCell ⟨W2.heap.size,0,be⟩ (Y u0)).setCell ⟨W2.heap.size,1,be⟩ (Y u1)).setCell ⟨W2.heap.size,2,be⟩ (J b2 m2 e2)).setCell ⟨W2.heap.size,3,be⟩ (J b3 m3 e3)).setCell ⟨W2.heap.size,4,be⟩ (J b4 m4 e4)).setCell ⟨W2.heap.size,5,be⟩ (J b5 m5 e5)).setCell ⟨W2.heap.size,6,be⟩ (U O u6)).setCell ⟨W2.heap.size,7,be⟩ (U O u7)).setCell ⟨W2.heap.size,8,be⟩ (U O u8)).setCell ⟨W2.heap.size,9,be⟩ (U O u9)).setCell ⟨W2.heap.size,10,be⟩ (U O u10)).setCell ⟨W2.heap.size,11,be⟩ (J b11 m11 e11)):=⟨_,rfl⟩
    rw[<- hV];have hV2:V=aD W2.heap.size [Y u0,Y u1,J b2 m2 e2,J b3 m3 e3,J b4 m4 e4,J b5 m5 e5,U O u6,U O u7,U O u8,U O u9,U O u10,J b11 m11 e11] 0 w3:=by rw[hV];simp only[aD,ID,Jg]
    clear hV f0 f1 f2 f3 f4 f5 f6 f7 f8 f9 f10 f11 h0 h1 h2 h3 h4 h5 h6 h7 h8 h9 h10 h11;have uZ:V.heap[W2.heap.size]?=AI (By #[Y u0,Y u1,J b2 m2 e2,J b3 m3 e3,J b4 m4 e4,J b5 m5 e5,U O u6,U O u7,U O u8,U O u9,U O u10,J b11 m11 e11] 42 (0,0)):=by rw[hV2];exact kK qb _ _ _ _ _ _ _ _ _ _ _ _
    have oD:Hid (Below W2.heap.size W2 V):=by rw[hV2];exact aP (Ic _) _ _ cF.out
    have TB:Hid (F V [Y u0,Y u1,J b2 m2 e2,J b3 m3 e3,J b4 m4 e4,J b5 m5 e5,U O u6,U O u7,U O u8,U O u9,U O u10,J b11 m11 e11]):=by rw[hV2];exact HFS.out _ _ _ _ _ rF.out qb
    have hmb:w.heap.size<=W2.heap.size:=bp.out.size;clear hV2 rF cF hS qb;generalize afN:W2.heap.size=mb at uZ hmb ⊢;clear afN)
  have jA:Hid (Below w.heap.size w V):=bp.out.trans (oD.out.mono bp.out.size);have hlv:V.heap[w.heap.size]?=AI (By #[U O (k:Int),Y tx] 102 (0,0)):=(oD.out.block _ (BY.1 uG.out).1).trans uG.out;clear g0 s0 c0  c1  c2  c3  c4  c5  c6  c7  c8  c9  c10  c11  q0_ q1_ q2_ q3_ q4_ q5_;have g0:=(HX.out V jA.out).1;have s0:V.cell? ⟨w.heap.size,0,be⟩=AI (U O (k:Int)):=ae hlv 0;obtain⟨c0,c1,c2,c3,c4,c5,c6,c7,c8,c9,c10,c11⟩:=HC.out V (HX.out V jA.out).2;obtain⟨z0,z1,z2,z3,z4,z5,z6,z7,z8,z9,z10,z11⟩:=HZ.out V (HX.out V jA.out).2;obtain⟨y0,y1,y2,y3,y4,y5,y6,y7,y8,y9,y10,y11⟩:=bu uZ;have nE1:nb≠g:=λe=>by
   have h1:=(HX.out V jA.out).1;rw[<- e,ae (HX.out V jA.out).2 0] at h1;exact HNG.out h1
  have Va:nb≠w.heap.size:=λe=>by have:=jZ.out;omega
  have nE3:nb≠mb:=λe=>by have:=jZ.out;omega
  by_cases her:er=0
  .subst her
   have Me:=HLS.out rfl V _ _ _ _ _ _ _ _ _ _ _ _ _ _ _ _ _ _ _ _ _ _ jA.out TB.out;clear jA oD TB uZ hlv hmb Ss Su Xj Xk;go_wp2_with fail;go_region_held3 (λw'=>w'.cell? ⟨g,0,be⟩=AI (J (AI ⟨nb,0,be⟩) n n)/\w'.cell? ⟨w.heap.size,0,be⟩=AI (U O (k:Int))/\w'.cell? ⟨mb,0,be⟩=AI (Y u0)/\w'.cell? ⟨mb,1,be⟩=AI (Y u1)/\w'.cell? ⟨mb,2,be⟩=AI (J b2 m2 e2)/\w'.cell? ⟨mb,3,be⟩=AI (J b3 m3 e3)/\w'.cell? ⟨mb,4,be⟩=AI (J b4 m4 e4)/\w'.cell? ⟨mb,5,be⟩=AI (J b5 m5 e5)/\w'.cell? ⟨mb,6,be⟩=AI (U O u6)/\w'.cell? ⟨mb,7,be⟩=AI (U O u7)/\w'.cell? ⟨mb,8,be⟩=AI (U O u8)/\w'.cell? ⟨mb,9,be⟩=AI (U O u9)/\w'.cell? ⟨mb,10,be⟩=AI (U O u10)/\w'.cell? ⟨mb,11,be⟩=AI (J b11 m11 e11)) (simp only[JO,Qh,ne_eq,nE1,Va,nE3,not_false_eq_true,g0,s0,y0,y1,y2,y3,y4,y5,y6,y7,y8,y9,y10,y11,and_self]) (fail)
   go_wp2_with fail;simp only[aD,Nat.add_assoc,Jg] at Me;refine Me.mono ?_;rintro e w6 ⟨rfl,Rx⟩;have HR6:Hid (Rs w6):=Rx;clear Rx Me g0 s0 c0 z0 y0 c1 z1 y1 c2 z2 y2 c3 z3 y3 c4 z4 y4 c5 z5 y5 c6 z6 y6 c7 z7 y7 c8 z8 y8 c9 z9 y9 c10 z10 y10 c11 z11 y11;go_wp2_with fail;go_ret;exact⟨rfl,HR6.out⟩
  .have Me:=MD.out her V jA.out
   have hd:(er==0)=false:=by simpa using her
   clear jA oD TB uZ hlv hmb Ss Su Xj Xk her c0 z0 y0 c1 z1 y1 c2 z2 y2 c3 z3 y3 c4 z4 y4 c5 z5 y5 c6 z6 y6 c7 z7 y7 c8 z8 y8 c9 z9 y9 c10 z10 y10 c11 z11 y11 nE1 Va nE3;go_wp2_with fail;refine Me.mono ?_;rintro e w6 ⟨rfl,Rx⟩;have HR6:Hid (Rs w6):=Rx;clear Rx Me g0 s0;go_wp2_with fail;go_ret;exact⟨rfl,HR6.out⟩
def Lv(L:List Nx)(k:Nat)(p:Pk)(L':List Nx):Prop:=(pJ (L.getD k bW).n p≠0/\L'=L)\/(pJ (L.getD k bW).n p=0/\∃y,y.n=rJ (L.getD k bW).n p/\L'=L.set k y)
theorem Af(C g nb j k:Nat)(ul:Value)(ls:List Lt.fg)(v:Ev)(L:List Nx)(p:Pk)(w:World)(h:ky C w g (J (AI ⟨nb,0,be⟩) L.length L.length) ul ls v)(hN:cG C w nb L)(hC:C<=w.heap.size)(h20:ls.length<=20)(hv:v.which=(j:Int))(hj:j<ls.length)(td:Int)(tx:ByteArray)(hl:ls.getD j Lt.dm=⟨td,tx⟩)(VV:td=(k:Int))(hk:k<L.length)(Tx:BM tx.data.toList=AI p)(cC:tx.data.toList.length<=16777216)(he:(L.getD k bW).n.e=0)(hV:Rv w.heap.size w)(hHr:∀W vm vr vs vg vw zm zs zg zw,eT W (L.getD k bW).n vm vr vs vg vw->jY W p zm zs zg zw->Calls AS 24 #[Ik (dw (L.getD k bW).n vm vr vs vg vw),Ik #[Y p.cT,Ia p.whole,zm,zs,zg,zw]] W λe w'=>dx (L.getD k bW).n.e (pJ (L.getD k bW).n p) (rJ (L.getD k bW).n p) W e w') :
 Calls AS 80 #[If (AI ⟨g,0,be⟩)] w λe w'=>e=AT (U O 0)/\Below C w w'/\∃L' a kk c,Lv L k p L'/\cG C w' nb L'/\ky C w' g (J (AI ⟨nb,0,be⟩) L.length L.length) (J a kk c) (ls.eraseIdx j) v:=by
 have dF:=ae h.hg 0;have cI:=ae h.hg 1;have lh:w.cell? ⟨g,3,be⟩=AI (U O (j:Int)):=by rw[<- hv];exact ae h.hg 3
 obtain⟨hpB,Db⟩:=kT.1 Tx;have afP:=nX Db;obtain⟨lb,cu,LQ⟩:∃lb cu,ul=J (AI ⟨lb,0,be⟩) ls.length cu:=by
  rcases h.ls.2 with⟨_,h0⟩|⟨b',c,cur,rfl,_⟩
  .omega
  .exact⟨b',c,rfl⟩
 have hls:=h.ls;rw[LQ] at hls cI;have Vf:∀i,i<2->w.cell? ⟨lb,j*2+i,be⟩=[U O (k:Int),Y tx][i]?:=λi hi=>by
  rw[World.ownsRow.cellAt hls _ (by have:=Lt.cM ls;omega)];have h2:=Lt.ec ls j hj i hi;rw[h2,hl,VV];rfl
 have hc:=λi hi=>lR L k hk i hi;have ho:=hN.own _ (gl hk);have hY:=hN.ok _ (gl hk);have aar:∀L',Lv L k p L'↔(pJ (L.getD k bW).n p≠0/\L'=L)\/(pJ (L.getD k bW).n p=0/\∃y,y.n=rJ (L.getD k bW).n p/\L'=L.set k y):=λL'=>Iff.rfl;generalize hx:L.getD k bW=x at *;obtain⟨⟨nm,ct,ms,rs,sv,gw,⟨px,py,pz,ph,pq⟩,wh⟩,vm,vr,vs,vg,vw⟩:=x;obtain⟨a2,c2,h2⟩:=aJ ho.ms;obtain⟨a3,c3,h3⟩:=aJ ho.rs;obtain⟨a4,c4,h4⟩:=aJ ho.sv;obtain⟨a5,c5,h5⟩:=aJ ho.gw;obtain⟨a11,c11,h11⟩:=aJ ho.wh;simp only at h2 h3 h4 h5 h11;subst h2 h3 h4 h5 h11;refine Lu (pJ ⟨nm,ct,ms,rs,sv,gw,⟨px,py,pz,ph,pq⟩,wh⟩ p) g nb L.length k lb ls.length cu j tx (iS L).toArray nm ct a2 a3 a4 a5 a11 _ c2 _ c3 _ c4 _ c5 _ c11 px py pz ph pq w (λV xs=>pJ ⟨nm,ct,ms,rs,sv,gw,⟨px,py,pz,ph,pq⟩,wh⟩ p=0->afi C (rJ ⟨nm,ct,ms,rs,sv,gw,⟨px,py,pz,ph,pq⟩,wh⟩ p) V xs) (afj p) _ hk hj dF cI lh (Vf 0 (by omega)) (Vf 1 (by omega)) hN.row
  (List.getElem?_toArray.trans (hc 0 (by omega))) (List.getElem?_toArray.trans (hc 1 (by omega))) (List.getElem?_toArray.trans (hc 2 (by omega))) (List.getElem?_toArray.trans (hc 3 (by omega))) (List.getElem?_toArray.trans (hc 4 (by omega))) (List.getElem?_toArray.trans (hc 5 (by omega))) (List.getElem?_toArray.trans (hc 6 (by omega))) (List.getElem?_toArray.trans (hc 7 (by omega))) (List.getElem?_toArray.trans (hc 8 (by omega))) (List.getElem?_toArray.trans (hc 9 (by omega))) (List.getElem?_toArray.trans (hc 10 (by omega))) (List.getElem?_toArray.trans (hc 11 (by omega)))
  ?_ ?_ ?_ ?_ ?_ ?_ ?_ ?_
 .rintro V V' xs ⟨vm,vs,vg,vw,rfl,hp⟩ hb
  exact⟨vm,vs,vg,vw,rfl,hp.below hb⟩
 .intro V V' xs hF hb hz
  obtain⟨y,rfl,hy,fB,jd⟩:=hF hz;exact⟨y,rfl,hy,fB.below hb,jd⟩
 .intro V xs b cs Ls hF hb hz
  obtain⟨y,rfl,hy,fB,jd⟩:=hF hz;exact⟨y,rfl,hy,fB.row hb (λq hq=>aV hq _ _ _),jd⟩
 .intro e
  have h0:=lR L 0 (by omega) 0 (by omega);simp only[QE] at e;rw[Nat.zero_mul,ID,e] at h0;simp[Nx.cs] at h0
 .intro W hW
  refine(Dh (l:=tx.data.toList) (hV.after hW) cC Tx).mono ?_;rintro e w' ⟨hb,wm,ws,wg,ww,rfl,hpo⟩;obtain⟨b2,d2,e2⟩:=aJ hpo.ms;obtain⟨b3,d3,e3⟩:=aJ hpo.sv;obtain⟨b4,d4,e4⟩:=aJ hpo.gw;obtain⟨b5,d5,e5⟩:=aJ hpo.wh;subst e2 e3 e4 e5;exact⟨hb,p.cT,p.whole,b2,_,d2,b3,_,d3,b4,_,d4,b5,_,d5,rfl,_,_,_,_,rfl,hpo.isW afP⟩
 .rintro W pf pw p2 q2 r2 p3 q3 r3 p4 q4 r4 p5 q5 r5 hW ⟨wm,ws,wg,ww,T0,hp⟩
  simp only[OX,Value.string.injEq,Value.bool.injEq,and_true] at T0;obtain⟨rfl,rfl,rfl,rfl,rfl,rfl⟩:=T0;have hI:=(ho.is hY).below hW;refine(hHr W _ _ _ _ _ _ _ _ _ hI hp).mono ?_;rintro e w' ⟨hb,⟨aT,_⟩|⟨_,aT,rfl⟩|⟨_,hz,um,ur,us,ug,uw,rfl,ho',Nb⟩⟩
  .exact absurd he aT
  .exact⟨hb,_,_,_,_,_,_,_,_,_,_,_,_,_,_,_,_,_,_,_,_,_,_,rfl,λh0=>absurd h0 aT⟩
  .have Vh:=Ir hC hW.size
   have fB:=ho'.mono Vh;clear ho';rw[hz];generalize rJ ⟨nm,ct,ms,rs,sv,gw,⟨px,py,pz,ph,pq⟩,wh⟩ p=n' at *;obtain⟨b2,d2,e2⟩:=aJ fB.ms;obtain⟨b3,d3,e3⟩:=aJ fB.rs;obtain⟨b4,d4,e4⟩:=aJ fB.sv;obtain⟨b5,d5,e5⟩:=aJ fB.gw;obtain⟨b11,d11,e11⟩:=aJ fB.wh;subst e2 e3 e4 e5 e11;exact⟨hb,n'.name,n'.aC,b2,_,d2,b3,_,d3,b4,_,d4,b5,_,d5,n'.p.x,n'.p.y,n'.p.z,n'.p.h,n'.p.s,b11,_,d11,rfl,λ_=>⟨⟨n',_,_,_,_,_⟩,rfl,rfl,fB,Nb⟩⟩
 .intro hz V u0 u1 b2 m2 e2 b3 m3 e3 b4 m4 e4 b5 m5 e5 u6 u7 u8 u9 u10 b11 m11 e11 Cp hF
  obtain⟨y,hys,hy,fB,jd⟩:=hF hz;rw[hys];have hNt:=hN.turn Cp hC hk fB jd;have et:∀q,q≠nb->(JB (aD nb y.cs (k*12) V)).heap[q]?=V.heap[q]?:=λq hq=>by rw[dA];exact aV hq _ _ _
  have hP:=(h.below Cp).row (hN.below Cp hC).row et;refine(tz C g j _ ul ls v _ hP h20 hv hj).mono ?_;rintro e w' ⟨rfl,hm,a,kk,c,hp⟩;exact⟨rfl,(cA (aP hN.le _ _ (Cp.mono hC))).trans hm.below,L.set k y,a,kk,c,(aar _).2 (.inr ⟨hz,y,hy,rfl⟩),hNt.mv hm,hp⟩
 .intro aT V Cp
  refine(tz C g j _ ul ls v V (h.below Cp) h20 hv hj).mono ?_;rintro e w' ⟨rfl,hm,a,kk,c,hp⟩;exact⟨rfl,(Cp.mono hC).trans hm.below,L,a,kk,c,(aar _).2 (.inl ⟨aT,rfl⟩),(hN.below Cp hC).mv hm,hp⟩
theorem Lw{ms:List Sv.aW}(hr:Sv.bl ms){t x:Sv.aW}{p:Nat}{f:Bool}(cH:Sv.At ms t p f)(hx:x∈ms)(h:Sv.ord x t=0):Sv.ev ms p f=x:=by
 obtain⟨rfl,e⟩:=aac hr cH hx h;exact e
theorem Lx(ms:List Sv.aW)(s:Sv.aW)(hs:s.ok)(hU:∀x∈ms,x.ok)(hc:Sv.bj ms=0):∃(E:Int) (X:List Sv.aW),(∀x∈X,x.ok)/\(E=0->∃d,Tu ms s.node d/\Sv.aE ms [d]=0/\X=Sv.av ms [d]) /\ (∀v W,Sv.Sl W v ms->Calls AS 202 #[v,T4 s] W λe w'=>∃p l c,e=AT (Im #[J p l c,U O E])/\Hid (Sv.Own W.heap.size w' (J p l c) X)/\Below W.heap.size W w'):=by
 obtain⟨p,f,cH⟩:=Sv.ku ms (Sv.af hc).2.1 (Sv.keyOf s);refine⟨Sv.aE ms [Sv.Az ms p f s],if Sv.aE ms [Sv.Az ms p f s]=0 then Sv.av ms [Sv.Az ms p f s] else[],?_,λh0=>⟨Sv.Az ms p f s,⟨rfl,λx hx e=>?_⟩,h0,if_pos h0⟩,λv W h=>?_⟩
 .split
  .intro x hx
   rcases Sv.eB _ ms x hx with h|h
   .exact hU x h
   .rw[Jo.1 h];exact Sv.S7 hs
  .intro x hx;cases hx
 .have:=Lw (Sv.af hc).2.1 cH hx e
  show _<(Sv.ev ms p f).version+1;rw[this];omega
 .refine(Sv.uY ms v s W h hc hs p f cH).mono ?_
  rintro e w' ⟨v',rfl,h1,h2,h3⟩;have ho:Sv.Own W.heap.size w' v' (if Sv.aE ms [Sv.Az ms p f s]=0 then Sv.av ms [Sv.Az ms p f s] else[]):=by
   by_cases h0:Sv.aE ms [Sv.Az ms p f s]=0
   .rw[if_pos h0];exact h3 h0
   .rw[if_neg h0,h2 h0];exact Sv.bX _ _
  obtain⟨q,c,rfl,_⟩:=aA ho;exact⟨q,_,c,rfl,ho,h1⟩
theorem FL(ms:List Sv.aW)(node bq:ByteArray)(hs:node.size<=Io)(ht:bq.size<=Io)(hU:∀x∈ms,x.ok)(hc:Sv.bj ms=0):∃(E:Int) (X:List Sv.aW),(∀x∈X,x.ok)/\(E=0->∃d,Tu ms node d/\Sv.aE ms [d]=0/\X=Sv.av ms [d]) /\ (∀v W,Sv.Sl W v ms->Calls AS 203 #[v,Y node,Y bq] W λe w'=>∃p l c,e=AT (Im #[J p l c,U O E])/\Hid (Sv.Own W.heap.size w' (J p l c) X)/\Below W.heap.size W w'):=by
 obtain⟨p,f,cH⟩:=Sv.ku ms (Sv.af hc).2.1 ⟨node,bq,⟨#[]⟩,⟨#[]⟩,0,0,false,0,false⟩;refine⟨Sv.nM ms p f node bq,if Sv.nM ms p f node bq=0 then RL.put ms (Sv.qN ms p f) p f else[],?_,λh0=>?_,λv W h=>?_⟩
 .split
  .exact Sv.Ta hU (Tc hU p f)
  .intro x hx;cases hx
 .have h1:f=true/\Sv.xD ms p f (Sv.pO (Sv.ev ms p f))=0:=by
   unfold Sv.nM at h0;split at h0
   .split at h0
    .rename_i h2
     cases f
     .cases h2
     .exact⟨rfl,h0⟩
    .cases h0
   .cases h0
  obtain⟨rfl,h2⟩:=h1;obtain⟨j1,j2⟩:=Sv.tP hc cH;have h3:=(cH.is.1 rfl).2;refine⟨Sv.qN ms p true,⟨(bR _ _).1 (RL.fT h3).1,λx hx e=>?_⟩,j1.trans h2,by rw[if_pos h0,j2]⟩;have:=Lw (Sv.af hc).2.1 cH hx (RL.Keyed.Gd Sv.keyed e h3);show _<(Sv.ev ms p true).version+1;rw[this];omega
 .refine(Sv.E8 ms v node bq W h hc hs ht p f cH).mono ?_
  rintro e w' ⟨v',rfl,h1,h23⟩;obtain⟨h2,h3⟩:=h23.out;have ho:Sv.Own W.heap.size w' v' (if Sv.nM ms p f node bq=0 then RL.put ms (Sv.qN ms p f) p f else[]):=by
   by_cases h0:Sv.nM ms p f node bq=0
   .rw[if_pos h0];exact h3 h0
   .rw[if_neg h0,h2 h0];exact Sv.bX _ _
  obtain⟨q,c,rfl,_⟩:=aA ho;exact⟨q,_,c,rfl,ho,h1⟩
theorem FM(gs:List Gw.bC)(name:ByteArray)(addr:Int)(hs:name.size<=Io)(hgs:∀x∈gs,x.ok)(hc:Gw.bj gs=0):∃(E:Int) (X:List Gw.bC),(∀x∈X,x.ok)/\(E=0->∃d,Gw.aE gs [d]=0/\X=Gw.av gs [d]) /\ (∀v W,Gw.Sl W v gs->Calls AS 204 #[v,Y name,U O addr] W λe w'=>∃p l c,e=AT (Im #[J p l c,U O E])/\Hid (Gw.Own W.heap.size w' (J p l c) X)/\Below W.heap.size W w'):=by
 obtain⟨p,f,cH⟩:=Gw.ku gs (Gw.af hc).2.1 ⟨name,0,0⟩;refine⟨Gw.aE gs [Gw.Gq gs p f name addr],if Gw.aE gs [Gw.Gq gs p f name addr]=0 then Gw.av gs [Gw.Gq gs p f name addr] else[],?_,λh0=>⟨_,h0,if_pos h0⟩,λv W h=>?_⟩
 .split
  .intro x hx
   rcases Gw.eB _ gs x hx with h|h
   .exact hgs x h
   .rw[Jo.1 h];exact hs
  .intro x hx;cases hx
 .refine(Gw.D2 gs v name addr W h hc hs p f cH).mono ?_
  rintro e w' ⟨v',rfl,h1,h2,h3⟩;have ho:Gw.Own W.heap.size w' v' (if Gw.aE gs [Gw.Gq gs p f name addr]=0 then Gw.av gs [Gw.Gq gs p f name addr] else[]):=by
   by_cases h0:Gw.aE gs [Gw.Gq gs p f name addr]=0
   .rw[if_pos h0];exact h3 h0
   .rw[if_neg h0,h2 h0];exact Gw.bX _ _
  obtain⟨q,c,rfl,_⟩:=aA ho;exact⟨q,_,c,rfl,ho,h1⟩
structure Ev.Ok(v:Ev):Prop where
 k:(Lit.int .i64 v.kind).wf=true
 nm:v.name.size<=Io
 s:v.s.ok
theorem eD{x:Int}{n:Nat}(h:within x 0 ((n:Int)-1)=true):∃j:Nat,x=(j:Int)/\j<n:=by
 have:=Q2.1 h;exact⟨x.toNat,by omega,by omega⟩
structure nP(t:Nt)(v:Ev)(C g nb:Nat)(ul:Value)(L:List Nx)(W:World):Prop where
 hC:C<=W.heap.size
 N:cG C W nb L
 map:L.map (·.n)=t.ns
 P:ky C W g (J (AI ⟨nb,0,be⟩) L.length L.length) ul t.ls v
 r:eU t
theorem nP.below{t:Nt}{v:Ev}{C g nb:Nat}{ul:Value}{L:List Nx}{W W':World}(h:nP t v C g nb ul L W)(hb:Below W.heap.size W W'):nP t v C g nb ul L W':=⟨Ir h.hC hb.size,h.N.below hb h.hC,h.map,h.P.below hb,h.r⟩
theorem nP.len{t:Nt}{v:Ev}{C g nb:Nat}{ul:Value}{L:List Nx}{W:World}(h:nP t v C g nb ul L W):L.length=t.ns.length:=by rw[<- h.map,Oa]
theorem nP.at{t:Nt}{v:Ev}{C g nb:Nat}{ul:Value}{L:List Nx}{W:World}(h:nP t v C g nb ul L W){j:Nat}(hj:j<L.length):(L.getD j bW).n=t.ns.getD j ek/\(L.getD j bW).n.e=0/\iq (L.getD j bW).n:=by
 have e:=tZ h.map hj;have hl:=h.len;exact⟨e,by rw[e];exact(Nt.bc h.r.e).2.2.1 _ (cS (by omega) ek),h.N.ok _ (gl hj)⟩
abbrev ia(t:Nt)(v:Ev)(C g nb:Nat)(L:List Nx)(W:World)(e:OR)(w':World):Prop:=∃er,e=AT (U O er)/\Below C W w'/\Hid (iH C w' g nb L v True (Rw t) er)
section
variable {t:Nt} {v:Ev} {C g nb:Nat} {ul:Value} {L:List Nx} {W:World}
theorem nP.so{W2:World}(h:nP t v C g nb ul L W)(hb:Below W.heap.size W W2){j:Nat}(hj:j<L.length){er:Int}{n':Nd}{e:OR}{w':World}(he:e=AT (U O er)/\Pa C W2 g nb j ul t.ls v L er n' w')(hB:er=0->xR (L.getD j bW).n n'):ia t v C g nb L W e w':=by
 obtain⟨rfl,h1,h2⟩:=he;refine⟨er,rfl,(hb.mono h.hC).trans h1,iH.of λhz=>?_⟩;obtain⟨y,hy,hN,hP⟩:=h2 hz;obtain⟨a,c,rfl⟩:=aJ hP.ls;have hl:=h.len;exact⟨⟨t.ns.set j n',t.ls⟩,.inl ⟨j,n',by omega,by rw[<- (h.at hj).1];exact hB hz,rfl⟩,a,_,c,L.set j y,IT,by rw[List.map_set,h.map,hy],hN,hP⟩
theorem nP.bad(h:nP t v C g nb ul L W){er:Int}(aT:er≠0){e:OR}{w':World}(he:e=AT (U O er)/\Below W.heap.size W w'):ia t v C g nb L W e w':=
 ⟨er,he.1,he.2.mono h.hC,iH.of λhz=>absurd hz aT⟩
theorem nP.Cq(h:nP t v C g nb ul L W)(hk:(Lit.int .i64 v.kind).wf=true)(kf:Nat)(fs cs:Array Value)(eg:∀args w,(Oz kf args).run AS w=.ok (.enter kf args) w)(hf:ui (tV g W.heap.size) v.kind=AI (IP (.func kf) fs cs))(b:Bool)(hT:∀W2,Below W.heap.size W W2->Calls AS 52 #[If (AI ⟨g,0,be⟩)] W2 λe w'=>e=AT (Ia b)/\Below W2.heap.size W2 w')(hF:b=true->∀W2,Below W.heap.size W W2->W2.heap[W.heap.size]?=AI (By #[If (AI ⟨g,0,be⟩)] 70 (0,0))->Calls AS kf (fs++cs) W2 (ia t v C g nb L W)) :
 Calls AS 33 #[If (AI ⟨g,0,be⟩)] W (ia t v C g nb L W):=by
 have e2:=ae h.P.hg 2;cases b
 .exact(Fz kf fs cs g v.kind W hk hf e2 hT).mono (λe w' he=>h.bad (by decide:(5:Int)≠0) he)
 .exact tW kf fs cs eg g v.kind _ W hk hf e2 hT (hF rfl)
theorem nP.cells(h:nP t v C g nb ul L W):∃a c,ul=J a t.ls.length c/\∀W2,Below W.heap.size W W2->W2.cell? ⟨g,0,be⟩=AI (J (AI ⟨nb,0,be⟩) L.length L.length)/\W2.cell? ⟨g,1,be⟩=AI (J a t.ls.length c)/\W2.cell? ⟨g,2,be⟩=AI (U O v.kind)/\W2.cell? ⟨g,3,be⟩=AI (U O v.which)/\W2.cell? ⟨g,4,be⟩=AI (U O v.other):=by
 obtain⟨a,c,hu⟩:=aJ h.P.ls;refine⟨a,c,hu,λW2 hb=>?_⟩;have hg:=(h.P.below hb).hg;rw[hu] at hg;exact⟨ae hg 0,ae hg 1,ae hg 2,ae hg 3,ae hg 4⟩
theorem nP.one(h:nP t v C g nb ul L W)(hv:v.Ok){c:Int}(hk:v.kind=c)(hc:c=6\/c=7\/c=8\/c=10\/c=11\/c=12)(kf:Nat)(eg:∀args w,(Oz kf args).run AS w=.ok (.enter kf args) w)(hf:ui (tV g W.heap.size) c=AI (IP (.func kf) #[] #[If (AI ⟨W.heap.size,0,be⟩)]))(hF:∀j:Nat,v.which=(j:Int)->j<L.length->∀W2,Below W.heap.size W W2->W2.heap[W.heap.size]?=AI (By #[If (AI ⟨g,0,be⟩)] 70 (0,0))->Calls AS kf #[If (AI ⟨W.heap.size,0,be⟩)] W2 (ia t v C g nb L W)) :
 Calls AS 33 #[If (AI ⟨g,0,be⟩)] W (ia t v C g nb L W):=by
 obtain⟨a,cc,hu,hq⟩:=h.cells;have BQ:L.length<=6:=by rw[h.len];exact(Nt.bc h.r.e).1
 refine h.Cq hv.k kf #[] #[If (AI ⟨W.heap.size,0,be⟩)] eg (by rw[hk];exact hf) (within v.which 0 ((L.length:Int)-1)) (λW2 bL=>?_) (λhb W2 bL rm=>?_)
 .obtain⟨q0,q1,q2,q3,q4⟩:=hq W2 bL
  exact Tt c hc g L.length _ _ v.which W2 q0 (by rw[<- hk];exact q2) q3 BQ
 .obtain⟨j,hw,hj⟩:=eD hb
  exact hF j hw hj W2 bL rm
theorem FN(h:nP t v C g nb ul L W)(hv:v.Ok)(hk:v.kind=6):Calls AS 33 #[If (AI ⟨g,0,be⟩)] W (ia t v C g nb L W):=
 h.one hv hk (.inl rfl) 83 (Jj Tryz.func83 (by kernel_rfl) rfl) rfl (λj hw hj W2 bL rm=>by
  obtain⟨hx,rz,hY⟩:=h.at hj;have h2:=h.below bL;exact(xU C g nb W.heap.size j ul t.ls v L _ _ W2 h2.P h2.N h2.hC hw hj rz rm ((ju _ _).name) (λW vm vr vs vg vw hI=>vS _ v.name _ _ _ _ _ W hI hv.nm)).mono (λe w' he=>h.so bL hj he (λhz=>.inl ⟨v.name,1,2,by decide,hz,rfl⟩)))
theorem Ly(h:nP t v C g nb ul L W)(hv:v.Ok)(hk:v.kind=7):Calls AS 33 #[If (AI ⟨g,0,be⟩)] W (ia t v C g nb L W):=
 h.one hv hk (.inr (.inl rfl)) 86 (Jj Tryz.func86 (by kernel_rfl) rfl) rfl (λj hw hj W2 bL rm=>by
  obtain⟨hx,rz,hY⟩:=h.at hj;have h2:=h.below bL;exact(Ab C g nb W.heap.size j ul t.ls v L _ _ W2 h2.P h2.N h2.hC hw hj rz rm ((ju _ _).name) (λW vm vr vs vg vw hI=>KV _ v.name _ _ _ _ _ W hI hv.nm)).mono (λe w' he=>h.so bL hj he (λhz=>.inl ⟨v.name,2,3,by decide,hz,rfl⟩)))
theorem FO(h:nP t v C g nb ul L W)(hv:v.Ok)(hk:v.kind=8):Calls AS 33 #[If (AI ⟨g,0,be⟩)] W (ia t v C g nb L W):=
 h.one hv hk (.inr (.inr (.inl rfl))) 88 (Jj Tryz.func88 (by kernel_rfl) rfl) rfl (λj hw hj W2 bL rm=>by
  obtain⟨hx,rz,hY⟩:=h.at hj;have h2:=h.below bL;exact(xV C g nb W.heap.size j ul t.ls v L _ _ W2 h2.P h2.N h2.hC hw hj rz rm ((ju _ _).name) (λW vm vr vs vg vw hI=>Fj _ _ _ _ _ _ W hI)).mono (λe w' he=>h.so bL hj he (λhz=>.inr (.inl ⟨hz,rfl⟩))))
theorem FP(h:nP t v C g nb ul L W)(hv:v.Ok)(hk:v.kind=9):Calls AS 33 #[If (AI ⟨g,0,be⟩)] W (ia t v C g nb L W):=by
 obtain⟨a,c,hu,hq⟩:=h.cells;have BQ:L.length<=6:=by rw[h.len];exact(Nt.bc h.r.e).1
 refine h.Cq hv.k 90 #[] #[If (AI ⟨W.heap.size,0,be⟩)] (Jj Tryz.func90 (by kernel_rfl) rfl) (by rw[hk];rfl) (within v.which 0 ((L.length:Int)-1)&&within v.other 0 ((L.length:Int)-1)) (λW2 bL=>?_) (λhb W2 bL rm=>?_)
 .obtain⟨q0,q1,q2,q3,q4⟩:=hq W2 bL
  exact xP 9 (.inr (.inr (rfl))) g L.length _ _ v.which v.other W2 q0 (by rw[<- hk];exact q2) q3 q4 BQ
 .rw[IW] at hb
  obtain⟨j,hw,hj⟩:=eD hb.1;obtain⟨k,ho,iI⟩:=eD hb.2;obtain⟨hx,rz,hY⟩:=h.at hj;have h2:=h.below bL;refine(xW C g nb W.heap.size j ul t.ls v L _ (Gy (L.getD j bW).n (L.getD k bW).n.name v.p v.n) W2 h2.P h2.N h2.hC hw hj rz rm (rfl) k ho iI (λW vm vr vs vg vw hI=>Fl _ (L.getD k bW).n.name v.p v.n _ _ _ _ _ W hI (h.at iI).2.2.name)).mono ?_;exact λe w' he=>h.so bL hj he (λhz=>.inr (.inr (.inl ⟨_,_,_,hz,rfl⟩)))
theorem FQ(h:nP t v C g nb ul L W)(hv:v.Ok)(hk:v.kind=10):Calls AS 33 #[If (AI ⟨g,0,be⟩)] W (ia t v C g nb L W):=
 h.one hv hk (.inr (.inr (.inr (.inl rfl)))) 92 (Jj Tryz.func92 (by kernel_rfl) rfl) rfl (λj hw hj W2 bL rm=>by
  obtain⟨hx,rz,hY⟩:=h.at hj;have h2:=h.below bL;obtain⟨E,X,hX,hd,hC⟩:=Lx (L.getD j bW).n.sv v.s hv.s hY.sv (Nd.parts (Nd.bc rz).1).sv;exact(xX C g nb W.heap.size j ul t.ls v L _ { (L.getD j bW).n with sv:=X } W2 h2.P h2.N h2.hC hw hj rz rm (rfl) (λW vm vr vs vg vw hI=>Fh _ v.s E X _ _ _ _ _ W hI hX (λ_=>hC))).mono (λe w' he=>h.so bL hj he (λhz=>.inr (.inr (.inr (.inl (by
   have hE:E=0/\v.s.node=(L.getD j bW).n.name:=by
    unfold rR at hz;split at hz
    .rename_i h;exact⟨hz,h⟩
    .cases hz
   obtain⟨d,d0,d1,d2⟩:=hd hE.1;exact⟨d,hE.2▸d0,d1,by rw[d2]⟩)))))))
theorem Lz(h:nP t v C g nb ul L W)(hv:v.Ok)(hk:v.kind=11):Calls AS 33 #[If (AI ⟨g,0,be⟩)] W (ia t v C g nb L W):=
 h.one hv hk (.inr (.inr (.inr (.inr (.inl rfl))))) 94 (Jj Tryz.func94 (by kernel_rfl) rfl) rfl (λj hw hj W2 bL rm=>by
  obtain⟨hx,rz,hY⟩:=h.at hj;have h2:=h.below bL;obtain⟨E,X,hX,hd,hC⟩:=FL (L.getD j bW).n.sv (L.getD j bW).n.name v.name hY.name hv.nm hY.sv (Nd.parts (Nd.bc rz).1).sv;exact(Ac C g nb W.heap.size j ul t.ls v L _ { (L.getD j bW).n with sv:=X } W2 h2.P h2.N h2.hC hw hj rz rm (rfl) (λW vm vr vs vg vw hI=>KT _ v.name E X _ _ _ _ _ W hI hX (λ_=>hC))).mono (λe w' he=>h.so bL hj he (λhz=>.inr (.inr (.inr (.inl (by
   obtain⟨d,d0,d1,d2⟩:=hd hz;exact⟨d,d0,d1,by rw[d2]⟩)))))))
theorem LA(h:nP t v C g nb ul L W)(hv:v.Ok)(hk:v.kind=12):Calls AS 33 #[If (AI ⟨g,0,be⟩)] W (ia t v C g nb L W):=
 h.one hv hk (.inr (.inr (.inr (.inr (.inr (rfl)))))) 96 (Jj Tryz.func96 (by kernel_rfl) rfl) rfl (λj hw hj W2 bL rm=>by
  obtain⟨hx,rz,hY⟩:=h.at hj;have h2:=h.below bL;obtain⟨E,X,hX,hd,hC⟩:=FM (L.getD j bW).n.gw (L.getD j bW).n.aC v.n hY.aC hY.gw (Nd.parts (Nd.bc rz).1).gw;exact(Ad C g nb W.heap.size j ul t.ls v L _ { (L.getD j bW).n with gw:=X } W2 h2.P h2.N h2.hC hw hj rz rm (rfl) (λW vm vr vs vg vw hI=>KU _ v.n E X _ _ _ _ _ W hI hX (λ_=>hC))).mono (λe w' he=>h.so bL hj he (λhz=>.inr (.inr (.inr (.inr (by
   obtain⟨d,d1,d2⟩:=hd hz;exact⟨d,d1,by rw[d2]⟩)))))))
theorem LB(h:nP t v C g nb ul L W)(hv:v.Ok)(hk:v.kind=4):Calls AS 33 #[If (AI ⟨g,0,be⟩)] W (ia t v C g nb L W):=by
 obtain⟨a,c,hu,hq⟩:=h.cells;have h20:=(Nt.bc h.r.e).2.1;refine h.Cq hv.k 81 #[If (AI ⟨g,0,be⟩)] #[] (Jj Tryz.func81 (by kernel_rfl) rfl) (by rw[hk];rfl) (within v.which 0 ((t.ls.length:Int)-1)) (λW2 bL=>?_) (λhb W2 bL _=>?_)
 .obtain⟨q0,q1,q2,q3,q4⟩:=hq W2 bL
  exact xO 4 (.inr (.inl rfl)) g t.ls.length _ _ v.which W2 q1 (by rw[<- hk];exact q2) q3 h20
 .obtain⟨j,hw,hj⟩:=eD hb
  have h2:=h.below bL;refine(tz C g j _ ul t.ls v W2 h2.P h20 hw hj).mono ?_;rintro e w' ⟨rfl,hm,a,kk,c,hp⟩;exact⟨0,rfl,(bL.mono h.hC).trans hm.below,iH.of λ_=>⟨⟨t.ns,t.ls.eraseIdx j⟩,.inr (.inr (.inr (.inr (.inl ⟨j,rfl⟩)))),a,kk,c,L,rfl,h.map,h2.N.mv hm,hp⟩⟩
theorem FR(h:nP t v C g nb ul L W)(hv:v.Ok)(hk:v.kind=5):Calls AS 33 #[If (AI ⟨g,0,be⟩)] W (ia t v C g nb L W):=by
 obtain⟨a,c,hu,hq⟩:=h.cells;have h20:=(Nt.bc h.r.e).2.1;refine h.Cq hv.k 82 #[If (AI ⟨g,0,be⟩)] #[] (Jj Tryz.func82 (by kernel_rfl) rfl) (by rw[hk];rfl) (within v.which 0 ((t.ls.length:Int)-1)) (λW2 bL=>?_) (λhb W2 bL _=>?_)
 .obtain⟨q0,q1,q2,q3,q4⟩:=hq W2 bL
  exact xO 5 (.inr (.inr rfl)) g t.ls.length _ _ v.which W2 q1 (by rw[<- hk];exact q2) q3 h20
 .obtain⟨j,hw,hj⟩:=eD hb
  have h2:=h.below bL;refine(Co C g j _ ul t.ls v W2 h2.P h2.hC h20 hw hj).mono ?_;rintro e w' ⟨er,rfl,HS⟩;refine⟨er,rfl,(bL.mono h.hC).trans HS.out.1.below,iH.of λhz=>?_⟩;obtain⟨hl,a,kk,c,hp⟩:=HS.out.2.2 hz;exact⟨⟨t.ns,t.ls++[t.ls.getD j Lt.dm]⟩,.inr (.inr (.inr (.inr (.inr ⟨j,hj,hl,rfl⟩)))),a,kk,c,L,rfl,h.map,h2.N.mv HS.out.1,hp⟩
theorem FT(h:nP t v C g nb ul L W)(hv:v.Ok)(hk:v.kind=2)(hV:Rv W.heap.size W):Calls AS 33 #[If (AI ⟨g,0,be⟩)] W (ia t v C g nb L W):=by
 obtain⟨a,c,hu,hq⟩:=h.cells;have h20:=(Nt.bc h.r.e).2.1;have hl:=h.len;have BQ:L.length<=6:=by rw[hl];exact(Nt.bc h.r.e).1
 refine h.Cq hv.k 79 #[If (AI ⟨g,0,be⟩)] #[] (Jj Tryz.func79 (by kernel_rfl) rfl) (by rw[hk];rfl) (within v.which 0 ((L.length:Int)-1)&&within v.other 0 ((L.length:Int)-1)) (λW2 bL=>?_) (λhb W2 bL _=>?_)
 .obtain⟨q0,q1,q2,q3,q4⟩:=hq W2 bL
  exact xP 2 (.inr (.inl rfl)) g L.length _ _ v.which v.other W2 q0 (by rw[<- hk];exact q2) q3 q4 BQ
 .rw[IW] at hb
  obtain⟨j,hw,hj⟩:=eD hb.1;obtain⟨k,ho,iI⟩:=eD hb.2;obtain⟨hx,rz,hY⟩:=h.at hj;have h2:=h.below bL;refine(ry C g nb j ul t.ls v L W2 h2.P h2.N h2.hC h20 hw hj rz (hV.after bL) (λW zm zs zg zw hT hx=>nY _ _ _ _ _ W hx (.inl rfl) hT)).mono ?_;rintro e w' ⟨er,rfl,HS⟩;refine⟨er,rfl,(bL.mono h.hC).trans HS.out.1.below,iH.of λhz=>?_⟩;obtain⟨mo,a,kk,c,hp⟩:=HS.out.2.2 hz;refine⟨⟨t.ns,t.ls++[⟨((k:Nat):Int),(eu (t.ns.getD j ek)).T⟩]⟩,.inr (.inr (.inl ⟨j,k,by omega,by omega,mo,rfl⟩)),a,kk,c,L,rfl,h.map,h2.N.mv HS.out.1,?_⟩;rw[<- hx,<- ho];exact hp
theorem LC(h:nP t v C g nb ul L W)(hv:v.Ok)(hk:v.kind=1){w:World}(hV:Rv w.heap.size w)(hW:Below w.heap.size w W)(hwC:w.heap.size<=C):Calls AS 33 #[If (AI ⟨g,0,be⟩)] W (ia t v C g nb L W):=by
 obtain⟨a,c,hu,hq⟩:=h.cells;have h20:=(Nt.bc h.r.e).2.1;have hl:=h.len;have BQ:L.length<=6:=by rw[hl];exact(Nt.bc h.r.e).1
 refine h.Cq hv.k 78 #[If (AI ⟨g,0,be⟩)] #[] (Jj Tryz.func78 (by kernel_rfl) rfl) (by rw[hk];rfl) (within v.which 0 ((L.length:Int)-1)&&within v.other 0 ((L.length:Int)-1)) (λW2 bL=>?_) (λhb W2 bL _=>?_)
 .obtain⟨q0,q1,q2,q3,q4⟩:=hq W2 bL
  exact xP 1 (.inl rfl) g L.length _ _ v.which v.other W2 q0 (by rw[<- hk];exact q2) q3 q4 BQ
 .rw[IW] at hb
  obtain⟨j,hw,hj⟩:=eD hb.1;obtain⟨k,ho,iI⟩:=eD hb.2;obtain⟨hx,rz,hY⟩:=h.at hj;have h2:=h.below bL;refine(Lr C g nb j ul t.ls v L W2 h2.P h2.N h2.hC h20 hw hj rz (λV Cp=>(hV.after ((hW.trans (bL.mono hW.size)).trans (Cp.mono hwC))).Vy)).mono ?_;rintro e w' ⟨er,rfl,aI,_,HS⟩;refine⟨er,rfl,(bL.mono h.hC).trans aI,iH.of λhz=>?_⟩;obtain⟨mo,y,a,kk,c,l,rest,ht,hy,hN,hp⟩:=HS hz;refine⟨⟨t.ns.set j { t.ns.getD j ek with rs:=rest },t.ls++[⟨((k:Nat):Int),(pW (t.ns.getD j ek).name l).T⟩]⟩,.inr (.inl ⟨j,k,l,rest,by omega,by omega,mo,by rw[<- hx];exact ht,rfl⟩),a,kk,c,L.set j y,IT,by rw[List.map_set,h.map,hy,hx],hN,?_⟩;rw[<- hx,<- ho];exact hp
theorem LD(h:nP t v C g nb ul L W)(hv:v.Ok)(hk:v.kind=3)(hV:Rv W.heap.size W):Calls AS 33 #[If (AI ⟨g,0,be⟩)] W (ia t v C g nb L W):=by
 obtain⟨a,c,hu,hq⟩:=h.cells;have hz:=Nt.bc h.r.e;have hl:=h.len;refine h.Cq hv.k 80 #[If (AI ⟨g,0,be⟩)] #[] (Jj Tryz.func80 (by kernel_rfl) rfl) (by rw[hk];rfl) (within v.which 0 ((t.ls.length:Int)-1)) (λW2 bL=>?_) (λhb W2 bL _=>?_)
 .obtain⟨q0,q1,q2,q3,q4⟩:=hq W2 bL
  exact xO 3 (.inl rfl) g t.ls.length _ _ v.which W2 q1 (by rw[<- hk];exact q2) q3 hz.2.1
 .obtain⟨j,hw,hj⟩:=eD hb
  have h2:=h.below bL;have hlm:=cS hj Lt.dm;have aR:=hz.2.2.2.2 _ hlm;have cC:=h.r.sh _ hlm;obtain⟨td,tx,Vi⟩:∃td tx,t.ls.getD j Lt.dm=⟨td,tx⟩:=⟨_,_,rfl⟩;rw[Vi] at aR cC;have h3:within td 0 ((t.ns.length:Int)-1)=true/\(BM tx.data.toList).isSome=true:=by
   unfold uW at aR;split at aR
   .rename_i a1
    split at aR
    .rename_i a2;exact⟨a1,a2⟩
    .cases aR
   .cases aR
  obtain⟨k,VV,gK⟩:=eD h3.1;obtain⟨p,hp⟩:=Option.isSome_iff_exists.1 h3.2;have iI:k<L.length:=by omega
  obtain⟨hx,rz,hY⟩:=h.at iI;have Db:=(kT.1 hp).2;have hlen:p.whole=true\/p.sv.length+p.gw.length+p.wh.length<=4611686018427387904:=by
   have C5:=nX Db;have b1:=C5.sv.1;have b2:=C5.gw.1;have b3:=C5.wh.1;right;omega
  refine(Af C g nb j k ul t.ls v L p W2 h2.P h2.N h2.hC hz.2.1 hw hj td tx Vi VV iI hp cC rz (hV.after bL) (λW vm vr vs vg vw zm zs zg zw hI hx=>tH _ p _ _ _ _ _ _ _ _ _ W hI hx hlen)).mono ?_;rintro e w' ⟨rfl,aI,L',a,kk,c,dN,hN,hP⟩;refine⟨0,rfl,(bL.mono h.hC).trans aI,iH.of λ_=>?_⟩;rcases dN with⟨_,rfl⟩|⟨hh,y,hy,rfl⟩
  .exact⟨⟨t.ns,t.ls.eraseIdx j⟩,.inr (.inr (.inr (.inr (.inl ⟨j,rfl⟩)))),a,kk,c,L',rfl,h.map,hN,hP⟩
  .rw[hx] at hh hy
   exact⟨⟨t.ns.set k (rJ (t.ns.getD k ek) p),t.ls.eraseIdx j⟩,.inr (.inr (.inr (.inl ⟨j,k,p,hj,gK,by rw[Vi];exact hp,hh,rfl⟩))),a,kk,c,L.set k y,IT,by rw[List.map_set,h.map,hy],hN,hP⟩
end
theorem LF(t:Nt)(vn vl:Value)(v:Ev)(w:World)(hV:Rv w.heap.size w)(h:fU w t vn vl)(hr:eU t)(hv:v.Ok) :
 Calls AS 19 #[Ik #[vn,vl],Ik (Ch v)] w (qQ w True (Rw t)):=by
 refine tY t True (Rw t) vn vl v w hV h hr.short hr.e (λW C g nb ul L hW hwC hC hN pV hP=>?_);have hp:nP t v C g nb ul L W:=⟨hC,hN,pV,hP,hr⟩;by_cases k6:v.kind=6
 .exact FN hp hv k6
 by_cases k7:v.kind=7
 .exact Ly hp hv k7
 by_cases k8:v.kind=8
 .exact FO hp hv k8
 by_cases k9:v.kind=9
 .exact FP hp hv k9
 by_cases k10:v.kind=10
 .exact FQ hp hv k10
 by_cases k11:v.kind=11
 .exact Lz hp hv k11
 by_cases k12:v.kind=12
 .exact LA hp hv k12
 by_cases k4:v.kind=4
 .exact LB hp hv k4
 by_cases k5:v.kind=5
 .exact FR hp hv k5
 by_cases k2:v.kind=2
 .exact FT hp hv k2 (hV.after hW)
 by_cases k1:v.kind=1
 .exact LC hp hv k1 hV hW hwC
 by_cases k3:v.kind=3
 .exact LD hp hv k3 (hV.after hW)
 refine(Fy g v.kind W hv.k ?_ (ae hP.hg 2)).mono (λe w' he=>hp.bad (by decide:(7:Int)≠0) he);simp[tV,ui,k1,k2,k3,k4,k5,k6,k7,k8,k9,k10,k11,k12]
theorem qQ.says{w w':World}{t':Nt}{e:OR}(h:qQ w False (λx=>x=t') e w'):tX w t' e w':=by
 obtain⟨hb,⟨_,_,hq,_⟩|⟨x,a,k,c,b,l,d,rfl,he,hn⟩⟩:=h
 .exact hq.elim
 .exact⟨hb,a,k,c,b,l,d,he,hn⟩
theorem Cr(t:Nt)(vn vl:Value)(v:Ev)(w:World)(j k:Nat)(hV:Rv w.heap.size w)(h:fU w t vn vl)(hr:eU t)(hk:v.kind=2)(hw:v.which=(j:Int))(hj:j<t.ns.length)(ho:v.other=(k:Int))(gK:k<t.ns.length)(h20:t.ls.length<20) :
 Calls AS 19 #[Ik #[vn,vl],Ik (Ch v)] w (tX w ⟨t.ns,t.ls++[⟨v.other,(eu (t.ns.getD j ek)).T⟩]⟩):=by
 refine(tY t False (λx=>x=⟨t.ns,t.ls++[⟨v.other,(eu (t.ns.getD j ek)).T⟩]⟩) vn vl v w hV h hr.short hr.e (λW C g nb ul L hW hwC hC hN pV hP=>?_)).mono (λe w' h=>h.says);have hp:nP t v C g nb ul L W:=⟨hC,hN,pV,hP,hr⟩;obtain⟨a,c,hu,hq⟩:=hp.cells;have hl:=hp.len;have BQ:L.length<=6:=by rw[hl];exact(Nt.bc hr.e).1
 refine tW 79 #[If (AI ⟨g,0,be⟩)] #[] (Jj Tryz.func79 (by kernel_rfl) rfl) g 2 (λer w'=>Below C W w'/\Hid (iH C w' g nb L v False (λx=>x=⟨t.ns,t.ls++[⟨v.other,(eu (t.ns.getD j ek)).T⟩]⟩) er)) W (by decide) rfl (by rw[<- hk];exact ae hP.hg 2) (λW2 bL=>?_) (λW2 bL _=>?_)
 .obtain⟨q0,q1,q2,q3,q4⟩:=hq W2 bL
  have:=xP 2 (.inr (.inl rfl)) g L.length _ _ v.which v.other W2 q0 (by rw[<- hk];exact q2) q3 q4 BQ;rw[hw,ho,lU (by omega),lU (by omega)] at this;exact this
 .obtain⟨hx,rz,hY⟩:=hp.at (j:=j) (by omega)
  have h2:=hp.below bL;refine(ry C g nb j ul t.ls v L W2 h2.P h2.N h2.hC (by omega) hw (by omega) rz ((hV.after hW).after bL) (λW zm zs zg zw hT hx=>nY _ _ _ _ _ W hx (.inl rfl) hT)).mono ?_;rintro e w' ⟨er,rfl,HS⟩;obtain rfl:=HS.out.2.1 h20;obtain⟨_,a,kk,c,vC⟩:=HS.out.2.2 rfl;rw[hx] at vC;exact⟨0,rfl,(bL.mono hC).trans HS.out.1.below,⟨λh=>absurd rfl h,λ_=>⟨_,rfl,a,kk,c,L,rfl,pV,h2.N.mv HS.out.1,vC⟩⟩⟩
theorem FU(t:Nt)(vn vl:Value)(v:Ev)(w:World)(j k:Nat)(p:Pk)(hV:Rv w.heap.size w)(h:fU w t vn vl)(hr:eU t)(hk:v.kind=3)(hw:v.which=(j:Int))(hj:j<t.ls.length)(tx:ByteArray)(Vi:t.ls.getD j Lt.dm=⟨(k:Int),tx⟩)(gK:k<t.ns.length)(Tx:BM tx.data.toList=AI p)(hh:pJ (t.ns.getD k ek) p=0) :
 Calls AS 19 #[Ik #[vn,vl],Ik (Ch v)] w (tX w ⟨t.ns.set k (rJ (t.ns.getD k ek) p),t.ls.eraseIdx j⟩):=by
 refine(tY t False (λx=>x=⟨t.ns.set k (rJ (t.ns.getD k ek) p),t.ls.eraseIdx j⟩) vn vl v w hV h hr.short hr.e (λW C g nb ul L hW hwC hC hN pV hP=>?_)).mono (λe w' h=>h.says);have hp:nP t v C g nb ul L W:=⟨hC,hN,pV,hP,hr⟩;obtain⟨a,c,hu,hq⟩:=hp.cells;have hl:=hp.len;have hz:=Nt.bc hr.e;refine tW 80 #[If (AI ⟨g,0,be⟩)] #[] (Jj Tryz.func80 (by kernel_rfl) rfl) g 3 (λer w'=>Below C W w'/\Hid (iH C w' g nb L v False (λx=>x=⟨t.ns.set k (rJ (t.ns.getD k ek) p),t.ls.eraseIdx j⟩) er)) W (by decide) rfl (by rw[<- hk];exact ae hP.hg 2) (λW2 bL=>?_) (λW2 bL _=>?_)
 .obtain⟨q0,q1,q2,q3,q4⟩:=hq W2 bL
  have:=xO 3 (.inl rfl) g t.ls.length _ _ v.which W2 q1 (by rw[<- hk];exact q2) q3 hz.2.1;rw[hw,lU hj] at this;exact this
 .obtain⟨hx,rz,hY⟩:=hp.at (j:=k) (by omega)
  have h2:=hp.below bL;have C5:=nX (kT.1 Tx).2;have cC:=hr.sh _ (cS hj Lt.dm);rw[Vi] at cC;refine(Af C g nb j k ul t.ls v L p W2 h2.P h2.N h2.hC hz.2.1 hw hj _ tx Vi rfl (by omega) Tx cC rz ((hV.after hW).after bL) (λW vm vr vs vg vw zm zs zg zw hI hx=>tH _ p _ _ _ _ _ _ _ _ _ W hI hx (.inr (by have b1:=C5.sv.1;have b2:=C5.gw.1;have b3:=C5.wh.1;omega)))).mono ?_;rintro e w' ⟨rfl,aI,L',a,kk,c,dN,hN,hP⟩;rcases dN with⟨aT,_⟩|⟨_,y,hy,rfl⟩
  .rw[hx] at aT;exact absurd hh aT
  .rw[hx] at hy
   exact⟨0,rfl,(bL.mono hC).trans aI,⟨λh=>absurd rfl h,λ_=>⟨_,rfl,a,kk,c,L.set k y,IT,by rw[List.map_set,pV,hy],hN,hP⟩⟩⟩
def FV:Nd:=Gu ⟨#[97]⟩ ⟨#[99]⟩ 1 false
def FW:Nd:=Gu ⟨#[98]⟩ ⟨#[99]⟩ 2 true
def Ag:Pk:=eu FV
def nbC:Nd:=rJ FW Ag
def ev1:Ev:=⟨2,0,1,0,⟨#[]⟩,⟨0,0,0,0,0⟩,⟨⟨#[]⟩,⟨#[]⟩,⟨#[]⟩,⟨#[]⟩,0,0,false,0,false⟩⟩
def ev2:Ev:=⟨3,0,0,0,⟨#[]⟩,⟨0,0,0,0,0⟩,⟨⟨#[]⟩,⟨#[]⟩,⟨#[]⟩,⟨#[]⟩,0,0,false,0,false⟩⟩
theorem aau:M5 ⟨#[97]⟩ ⟨#[99]⟩ 1=0:=by kernel_rfl
theorem aav:M5 ⟨#[98]⟩ ⟨#[99]⟩ 2=0:=by kernel_rfl
theorem Ry:(Nt.mk [FV,FW] []).e=0:=by kernel_rfl
theorem Rz:Ag.e=0:=by kernel_rfl
theorem TD:Ag.B.length<=1000:=of_decide_eq_true (by kernel_rfl)
theorem afR:pJ FW Ag=0:=by kernel_rfl
theorem aaw:nbC.ms.length=2:=by kernel_rfl
theorem aax:Ag.T.data.toList=Ag.B:=by unfold Pk.T;rw[if_pos Rz]
theorem RA:BM Ag.T.data.toList=AI Ag:=by rw[aax];exact kT.2 ⟨rfl,Rz⟩
theorem RB:Ag.T.data.toList.length<=1000:=by rw[aax];exact TD
theorem TE:j8 [FV,FW]=0:=by kernel_rfl
theorem aay:uW 2 ⟨1,Ag.T⟩=0:=by
 unfold uW;simp only[RA];rfl
theorem aaz:(Nt.mk [FV,FW] [⟨1,Ag.T⟩]).e=0:=by
 rw[Nt.qK (by simp) TE];exact if_pos aay
theorem bsize(s:ByteArray):s.size=s.data.toList.length:=by rw[Array.length_toList];rfl
theorem LG(nm ct:ByteArray)(ad:Int)(sv:Bool)(he:M5 nm ct ad=0)(hn:nm.size<=Io)(hc:ct.size<=Io)(W:World) :
 Calls AS 21 #[Y nm,Y ct,U O ad,Ia sv] W λe w'=>Below W.heap.size W w'/\∃a2 uk uo a3 uq uu a4 uv ux a5 uy uz a6 uA uB,e=AT (Im #[Ik #[Y nm,Y ct,J a2 uk uo,J a3 uq uu,J a4 uv ux,J a5 uy uz,U O 0,U O 0,U O 0,U O 0,U O 1000,J a6 uA uB],U O 0])/\Hid (eT w' (Gu nm ct ad sv) (J a2 uk uo) (J a3 uq uu) (J a4 uv ux) (J a5 uy uz) (J a6 uA uB)):=by
 refine(si nm ct ad sv W hn hc).mono ?_;rintro e w' ⟨hb,⟨aT,_⟩|⟨_,aT,_⟩|⟨_,_,um,ur,us,ug,uw,rfl,ho,hk⟩⟩
 .exact absurd he aT
 .exact absurd rfl aT
 .have hI:=ho.is hk
  obtain⟨x2,y2,e2⟩:=aJ ho.ms;obtain⟨x3,y3,e3⟩:=aJ ho.rs;obtain⟨x4,y4,e4⟩:=aJ ho.sv;obtain⟨x5,y5,e5⟩:=aJ ho.gw;obtain⟨x6,y6,e6⟩:=aJ ho.wh;subst e2 e3 e4 e5 e6;exact⟨hb,_,_,_,_,_,_,_,_,_,_,_,_,_,_,_,rfl,hI⟩
theorem afS{W:World}{b:Nat}{n m:Nd}{v1 v2 v3 v4 v5 u1 u2 u3 u4 u5:Value}(hb:W.heap[b]?=AI (By (dw n v1 v2 v3 v4 v5++dw m u1 u2 u3 u4 u5) 42 (0,0)))(hn:eT W n v1 v2 v3 v4 v5)(hm:eT W m u1 u2 u3 u4 u5):zy W (J (AI ⟨b,0,be⟩) 2 2) [n,m]:=by
 refine⟨_,_,rfl,.inr ⟨b,0,rfl,(BY.1 hb).1,λj hj=>?_⟩⟩;have hj2:j<2:=hj;rcases Nat.lt_or_ge j 1 with h1|h1
 .have:j=0:=by omega
  subst this;refine⟨_,_,_,_,_,hn,λi hi=>(ae hb _).trans ?_⟩;rw[show 0+0*12+i=i by omega,Array.getElem?_append_left (show i<(dw n v1 v2 v3 v4 v5).size from hi)];rfl
 .have:j=1:=by omega
  subst this;refine⟨_,_,_,_,_,hm,λi hi=>(ae hb _).trans ?_⟩;rw[show 0+1*12+i=12+i by omega,Array.getElem?_append_right (show(dw n v1 v2 v3 v4 v5).size<=12+i from Nat.le_add_right _ _),show 12+i-(dw n v1 v2 v3 v4 v5).size=i from Nat.add_sub_cancel_left _ _];rfl
theorem fJ.fa{C:Nat}{w w':World}{t:Nt}{un ul:Value}(h:fJ C w t un ul)(hk:∀b,C<=b->b<w.heap.size->w'.heap[b]?=w.heap[b]?):fJ C w' t un ul:=by
 obtain⟨nb,L,h1,h2,h3,h4⟩:=h;exact⟨nb,L,h1,h2,h3.fa hk,ee hk h4⟩
theorem ve(w:World)(hV:Rv w.heap.size w) :
 Calls AS 6 #[] w λe w'=>e=AT (Ia true)/\Below w.heap.size w w':=by
 have HNA:=LG ⟨#[97]⟩ ⟨#[99]⟩ 1 false aau (by decide) (by decide);have LR:=LG ⟨#[98]⟩ ⟨#[99]⟩ 2 true aav (by decide) (by decide);have aaA:Hid _:=HNA;have aaB:Hid _:=LR;clear HNA LR;have SH:Hid (∀W v,Below w.heap.size w W->zy W v [FV,FW]->Calls AS 22 #[v] W λe w'=>Below W.heap.size W w'/\∃a l c d m k,e=AT (Im #[Ik #[J a l c,J d m k],U O 0])/\Hid (fU w' ⟨[FV,FW],[]⟩ (J a l c) (J d m k))):=λW v hW hv=>by
  refine(tU [FV,FW] v W (hV.after hW) hv).mono ?_;rintro e w' ⟨hb,⟨_,a,l,c,d,m,k,nb,L,rfl,ho⟩|⟨aT,_⟩⟩
  .exact⟨hb,_,_,_,_,_,_,rfl,⟨ho.sl hv.ok,Lt.bF ho.ls (λm hm=>by cases hm)⟩⟩
  .exact absurd Ry aT
 have tr:Hid (∀W a l c d m k,Below w.heap.size w W->fU W ⟨[FV,FW],[]⟩ (J a l c) (J d m k)->Calls AS 19 #[Ik #[J a l c,J d m k],Ik #[U O 2,U O 0,U O 1,U O 0,Y ⟨#[]⟩,U O 0,U O 0,U O 0,U O 0,U O 0,Y ⟨#[]⟩,Y ⟨#[]⟩,Y ⟨#[]⟩,Y ⟨#[]⟩,U O 0,U O 0,Ia false,U O 0,Ia false]] W λe w'=>Below W.heap.size W w'/\∃a k c b l d,e=AT (Im #[Ik #[J a k c,J b l d],U O 0])/\Hid (fJ W.heap.size w' ⟨[FV,FW],[⟨1,Ag.T⟩]⟩ (J a k c) (J b l d))):=λW a l c d m k hW h=>
  Cr ⟨[FV,FW],[]⟩ _ _ ev1 W 0 1 (hV.after hW) h ⟨Ry,λl hl=>by cases hl⟩ rfl rfl (by simp) rfl (by simp) (by simp)
 have T3:Hid (∀W a l c d m k,Below w.heap.size w W->fU W ⟨[FV,FW],[⟨1,Ag.T⟩]⟩ (J a l c) (J d m k)->Calls AS 19 #[Ik #[J a l c,J d m k],Ik #[U O 3,U O 0,U O 0,U O 0,Y ⟨#[]⟩,U O 0,U O 0,U O 0,U O 0,U O 0,Y ⟨#[]⟩,Y ⟨#[]⟩,Y ⟨#[]⟩,Y ⟨#[]⟩,U O 0,U O 0,Ia false,U O 0,Ia false]] W λe w'=>Below W.heap.size W w'/\∃a k c b l d,e=AT (Im #[Ik #[J a k c,J b l d],U O 0])/\Hid (fJ W.heap.size w' ⟨[FV,nbC],[]⟩ (J a k c) (J b l d))):=λW a l c d m k hW h=>
  FU ⟨[FV,FW],[⟨1,Ag.T⟩]⟩ _ _ ev2 W 0 1 Ag (hV.after hW) h ⟨aaz,λl hl=>by rw[Jo.1 hl];show Ag.T.size<=16777216;rw[bsize];have:=RB;omega⟩ rfl rfl (by simp) Ag.T rfl (by simp) RA afR
 clear hV;go_enter Tryz.func6,Tryz.ntmps6;go_wp2_with fail;refine Ou (aaA.out _) ?_;rintro e w1 ⟨aB,a2,uk,uo,a3,uq,uu,a4,uv,ux,a5,uy,uz,a6,uA,uB,rfl,Xw⟩;have aY:Hid _:=aB;clear aB aaA;obtain⟨W1,cQ⟩:∃W1,W1=w1.alloc (By #[Y ⟨#[97]⟩,Y ⟨#[99]⟩,J a2 uk uo,J a3 uq uu,J a4 uv ux,J a5 uy uz,U O 0,U O 0,U O 0,U O 0,U O 1000,J a6 uA uB] 42):=⟨_,rfl⟩;have aB:Below w1.heap.size w1 W1:=by rw[cQ];exact(Ib _ _).alloc (Ic _) _
 have Xx:Hid _:=Xw.out.below aB;have iM:Hid _:=aY.out.trans (aB.mono aY.out.size);have uJ:Hid (W1.heap[w1.heap.size]?=AI (By #[Y ⟨#[97]⟩,Y ⟨#[99]⟩,J a2 uk uo,J a3 uq uu,J a4 uv ux,J a5 uy uz,U O 0,U O 0,U O 0,U O 0,U O 1000,J a6 uA uB] 42 (0,0))):=by show _=_;rw[cQ];exact Ii w1 _
 clear aB aY Xw;go_wp2_with fail;rw[<- cQ];clear cQ;refine Ou (aaB.out _) ?_;rintro e w2 ⟨aI,b2,bi2,bc2,b3,bi3,bc3,b4,bi4,bc4,b5,bi5,bc5,b6,bi6,bc6,rfl,VF⟩;have bp:Hid _:=iM.out.trans (aI.mono iM.out.size);have Xy:Hid _:=Xx.out.below aI;have wC:Hid _:=(aI.block _ (BY.1 uJ.out).1).trans uJ.out;clear aI aaB Xx uJ iM;obtain⟨W2,bL⟩:∃W2,W2=w2.alloc (By #[Y ⟨#[98]⟩,Y ⟨#[99]⟩,J b2 bi2 bc2,J b3 bi3 bc3,J b4 bi4 bc4,J b5 bi5 bc5,U O 0,U O 0,U O 0,U O 0,U O 1000,J b6 bi6 bc6] 42):=⟨_,rfl⟩;have aI:Below w2.heap.size w2 W2:=by rw[bL];exact(Ib _ _).alloc (Ic _) _
 have cI:=(aI.block _ (BY.1 wC.out).1).trans wC.out;have dS:W2.heap[w2.heap.size]?=AI (By #[Y ⟨#[98]⟩,Y ⟨#[99]⟩,J b2 bi2 bc2,J b3 bi3 bc3,J b4 bi4 bc4,J b5 bi5 bc5,U O 0,U O 0,U O 0,U O 0,U O 1000,J b6 bi6 bc6] 42 (0,0)):=by rw[bL];exact Ii w2 _
 have XA:Hid _:=Xy.out.below aI;have TW:Hid _:=VF.out.below aI;have oS:Hid _:=bp.out.trans (aI.mono bp.out.size);obtain⟨p0,p1,p2,p3,p4,p5,p6,p7,p8,p9,p10,p11⟩:=bu cI;obtain⟨q0,q1,q2,q3,q4,q5,q6,q7,q8,q9,q10,q11⟩:=bu dS;clear aI cI dS Xy VF bp wC;obtain⟨W3,ep,bU,-,lh⟩:=bV W2 #[Y ⟨#[97]⟩,Y ⟨#[99]⟩,J a2 uk uo,J a3 uq uu,J a4 uv ux,J a5 uy uz,U O 0,U O 0,U O 0,U O 0,U O 1000,J a6 uA uB,Y ⟨#[98]⟩,Y ⟨#[99]⟩,J b2 bi2 bc2,J b3 bi3 bc3,J b4 bi4 bc4,J b5 bi5 bc5,U O 0,U O 0,U O 0,U O 0,U O 1000,J b6 bi6 bc6] 42;have oT:Hid _:=oS.out.trans (bU.mono oS.out.size);have Dx:=SH.out W3 (J (AI ⟨W2.heap.size,0,be⟩) 2 2) oT.out (afS lh (XA.out.below bU) (TW.out.below bU));clear bU lh XA TW SH;go_upto_region 3 with fail
 rw[<- bL];clear bL;go_wp2_with fail;rw[<- ep];clear ep p0 q0 p1 q1 p2 q2 p3 q3 p4 q4 p5 q5 p6 q6 p7 q7 p8 q8 p9 q9 p10 q10 p11 q11;refine Ou Dx ?_;rintro e w4 ⟨eP,a,l,c,d,m,k,rfl,HN4⟩;have fE:Hid _:=oT.out.trans (eP.mono oT.out.size);clear eP Dx oT oS;obtain⟨W4,nL,eP,-,LH⟩:=bV w4 #[J a l c,J d m k] 27;have yD:Hid _:=fE.out.trans (eP.mono fE.out.size);have aaC:=tr.out W4 a l c d m k yD.out (HN4.out.below eP);have x0:=ae LH 0;have x1:=ae LH 1;have L0:Hid _:=LH;have MD:Hid (w.heap.size<=w4.heap.size):=fE.out.size;clear eP LH HN4 tr fE;go_upto_region 4 with fail
 rw[<- nL];clear nL;go_wp2_with fail;refine Ou aaC ?_;rintro e w5 ⟨jz,a5_,l5_,c5_,d5_,m5_,k5_,rfl,Gv⟩;have mQ:w5.heap[w4.heap.size]?=AI (By #[J a l c,J d m k] 27 (0,0)):=(jz.block _ (BY.1 L0.out).1).trans L0.out;have gX:Hid _:=yD.out.trans (jz.mono yD.out.size);have Xh:=(BY.1 L0.out).1;obtain⟨W5,iV⟩:∃W5,W5=aD w4.heap.size [J a5_ l5_ c5_,J d5_ m5_ k5_] 0 w5:=⟨_,rfl⟩;have Ft:W5.heap[w4.heap.size]?=AI (By #[J a5_ l5_ c5_,J d5_ m5_ k5_] 27 (0,0)):=by rw[iV];exact bD [J a5_ l5_ c5_,J d5_ m5_ k5_] [] [J a l c,J d m k] mQ rfl
 have et:∀q,q≠w4.heap.size->W5.heap[q]?=w5.heap[q]?:=λq hq=>by rw[iV];exact aV hq _ _ _
 have xM:Hid (Below w.heap.size w W5):=by show Below _ _ _;rw[iV];exact aP MD.out _ _ gX.out
 have hI5:=(Gv.out.fa (λq hq _=>et q (by omega))).is (λl hl=>by rw[Jo] at hl;subst hl;show _<=_;rw[bsize];exact Ir RB (by decide));have aaD:=T3.out W5 _ _ _ _ _ _ xM.out hI5;have y0:=ae mQ 0;have y1:=ae mQ 1;have z0:=an mQ 0;have z1:=an mQ 1;have r0:=ae Ft 0;have r1:=ae Ft 1;have AP:Hid _:=Ft;simp only[aD,ID] at iV;clear jz mQ Ft et Gv hI5 T3 aaC x0 x1 yD L0 Xh gX;go_upto_region 5 with fail
 rw[<- iV];clear iV y0 y1 z0 z1;go_wp2_with fail;refine Ou aaD ?_;rintro e w6 ⟨rK,a6_,l6_,c6_,d6_,m6_,k6_,rfl,HN6⟩;have Dj:=(rK.block _ (BY.1 AP.out).1).trans AP.out;have rD:Hid _:=xM.out.trans (rK.mono xM.out.size);have TF:=(BY.1 AP.out).1;obtain⟨W6,uh⟩:∃W6,W6=aD w4.heap.size [J a6_ l6_ c6_,J d6_ m6_ k6_] 0 w6:=⟨_,rfl⟩;have hk6:W6.heap[w4.heap.size]?=AI (By #[J a6_ l6_ c6_,J d6_ m6_ k6_] 27 (0,0)):=by rw[uh];exact bD [J a6_ l6_ c6_,J d6_ m6_ k6_] [] [J a5_ l5_ c5_,J d5_ m5_ k5_] Dj rfl
 have et:∀q,q≠w4.heap.size->W6.heap[q]?=w6.heap[q]?:=λq hq=>by rw[uh];exact aV hq _ _ _
 have af7:Hid (Below w.heap.size w W6):=by show Below _ _ _;rw[uh];exact aP MD.out _ _ rD.out
 obtain⟨nb,L,Te,pV,hN,hls⟩:=HN6.out.fa (w':=W6) (λq hq _=>et q (by omega));have hLl:L.length=2:=by have:=congrArg List.length pV;simpa using this
 rw[hLl] at Te;obtain⟨a7,c7,LQ⟩:=aJ hls;have hxn:(L.getD 1 bW).n=nbC:=tZ pV (j:=1) (by omega);have hU:=(hN.own _ (gl (j:=1) (by omega))).ms;rw[hxn] at hU;obtain⟨a8,c8,nF⟩:=aJ hU;rw[aaw] at nF;have fS:W6.cell? ⟨nb,14,be⟩=AI (J a8 2 c8):=by
  have h:=hN.cell (j:=1) (by omega) 2 (by omega);rw[<- nF];exact h
 have y0:=ae Dj 0;have y1:=ae Dj 1;have z0:=an Dj 0;have z1:=an Dj 1;have s0:W6.cell? ⟨w4.heap.size,0,be⟩=AI (J (AI ⟨nb,0,be⟩) 2 2):=by rw[<- Te];exact ae hk6 0
 have s1:W6.cell? ⟨w4.heap.size,1,be⟩=AI (J a7 0 c7):=by have h:W6.cell? ⟨w4.heap.size,1,be⟩=AI (J d6_ m6_ k6_):=ae hk6 1;rw[LQ] at h;exact h
 simp only[aD,ID] at uh;clear rK Dj hk6 et HN6 aaD r0 r1 xM AP TF rD Te pV hN hls hLl LQ hxn hU nF MD;go_upto_region 6 with fail
 rw[<- uh];clear uh y0 y1 z0 z1;go_wp2_with fail;go_ret;exact⟨rfl,af7.out⟩
def vf(i:Nat):ByteArray:=[(⟨#[97]⟩:ByteArray),⟨#[98]⟩,⟨#[101]⟩,⟨#[102]⟩,⟨#[103]⟩,⟨#[104]⟩].getD i ⟨#[]⟩
def ud(c i:Nat):ByteArray:=if i%(1+c)=0 then⟨#[99]⟩ else⟨#[100]⟩
def ml(c i:Nat):Nd:=Gu (vf i) (ud c i) (i:Int) (decide (i%2=0))
theorem aaE(c i:Nat)(hc:c<=1)(hi:i<6):M5 (vf i) (ud c i) (i:Int)=0:=by
 rcases(by omega:c=0\/c=1) with rfl|rfl<;>rcases(by omega:i=0\/i=1\/i=2\/i=3\/i=4\/i=5) with rfl|rfl|rfl|rfl|rfl|rfl<;>kernel_rfl
theorem RC(c k:Nat)(hc:c<=1)(hk:k<=5):(Nt.mk ((JC (k+1)).map (ml c)) []).e=0:=by
 rcases(by omega:c=0\/c=1) with rfl|rfl<;>rcases(by omega:k=0\/k=1\/k=2\/k=3\/k=4\/k=5) with rfl|rfl|rfl|rfl|rfl|rfl<;>kernel_rfl
theorem af8(c i:Nat):(ud c i).size<=Io:=by unfold ud;split<;>decide
theorem af9(c i:Nat)(hc:c<=1):(#[Y ⟨#[99]⟩,Y ⟨#[100]⟩]:Array Value)[i%(1+c)]?=AI (Y (ud c i)):=by
 unfold ud;split
 .rename_i h;rw[h];rfl
 .rename_i h
  have:i%(1+c)=1:=by have:=Nat.mod_lt i (by omega:0<1+c);omega
  rw[this];rfl
def TG(c n:Int):Int:=if c<0 then(-(c+1)).tmod n else c.tmod n
theorem Cs(c:Int){n:Int}(hn:0<n):0<=TG c n/\TG c n<n:=by
 unfold TG;split
 .exact⟨Int.tmod_nonneg _ (by omega),Int.tmod_lt_of_pos _ hn⟩
 .exact⟨Int.tmod_nonneg _ (by omega),Int.tmod_lt_of_pos _ hn⟩
theorem wu(c n:Int)(w:World)(hn:0<n)(VZ:n<=1000)(hc : -9223372036854775808<=c)(AA:c<=9223372036854775807) :
 Calls AS 17 #[U O c,U O n] w λe w'=>e=AT (U O (TG c n))/\w'=w:=by
 have hb:=Cs c hn;have h0:(n==0)=false:=by
  have h:n≠0:=by omega
  simpa using h
 unfold TG at hb ⊢;by_cases h:c<0
 .rw[if_pos h] at hb ⊢
  have h1:IntKind.i64.wrap (c+1)=c+1:=by rw[IY];omega
  have h2:IntKind.i64.wrap (-(c+1)) = -(c+1):=by rw[IY];omega
  have h5:IntKind.i64.wrap ((-(c+1)).tmod n)=(-(c+1)).tmod n:=by rw[IY];omega
  have h3:=decide_eq_true h;go_enter Tryz.func17,Tryz.ntmps17;go_wp2_with fail;go_ret;exact⟨by rw[Int.neg_tmod];rfl,rfl⟩
 .rw[if_neg h] at hb ⊢
  have h5:IntKind.i64.wrap (c.tmod n)=c.tmod n:=by rw[IY];omega
  have h3:=decide_eq_false h;go_enter Tryz.func17,Tryz.ntmps17;go_wp2_with fail;go_ret;exact⟨by rw[Int.tmod_eq_emod_of_nonneg (by omega)];rfl,rfl⟩
theorem aaF:∀i,i<6->(vf i).size<=Io
 |0,_=>by decide
 |1,_=>by decide
 |2,_=>by decide
 |3,_=>by decide
 |4,_=>by decide
 |5,_=>by decide
 |i+6,h=>absurd h (by omega)
theorem aaG:∀i,i<6->(#[Y ⟨#[97]⟩,Y ⟨#[98]⟩,Y ⟨#[101]⟩,Y ⟨#[102]⟩,Y ⟨#[103]⟩,Y ⟨#[104]⟩]:Array Value)[i]?=AI (Y (vf i))
 |0,_=>rfl
 |1,_=>rfl
 |2,_=>rfl
 |3,_=>rfl
 |4,_=>rfl
 |5,_=>rfl
 |i+6,h=>absurd h (by omega)
theorem Tryz.TH:(Tryz.prog.info? 42).map (λi=>(i.zero,i.size,i.bytes))=AI (AI (Ik #[Y ⟨#[]⟩,Y ⟨#[]⟩,J be 0 0,J be 0 0,J be 0 0,J be 0 0,U O 0,U O 0,U O 0,U O 0,U O 0,J be 0 0]),12,192):=by kernel_rfl
theorem Pb(c i:Nat)(hc:c<=1)(hi:i<6)(W:World) :
 Calls AS 21 #[Y (vf i),Y (ud c i),U O (i:Int),Ia (decide (i%2=0))] W λe w'=>Below W.heap.size W w'/\∃a2 uk uo a3 uq uu a4 uv ux a5 uy uz a6 uA uB,e=AT (Im #[Ik #[Y (vf i),Y (ud c i),J a2 uk uo,J a3 uq uu,J a4 uv ux,J a5 uy uz,U O 0,U O 0,U O 0,U O 0,U O 1000,J a6 uA uB],U O 0])/\Hid (cJ W.heap.size w' (ml c i) (J a2 uk uo) (J a3 uq uu) (J a4 uv ux) (J a5 uy uz) (J a6 uA uB)/\iq (ml c i)):=by
 refine(si (vf i) (ud c i) (i:Int) (decide (i%2=0)) W (aaF i hi) (af8 c i)).mono ?_;rintro e w' ⟨hb,⟨aT,_⟩|⟨_,aT,_⟩|⟨_,_,um,ur,us,ug,uw,rfl,ho,hk⟩⟩
 .exact absurd (aaE c i hc hi) aT
 .exact absurd rfl aT
 .obtain⟨x2,y2,e2⟩:=aJ ho.ms
  obtain⟨x3,y3,e3⟩:=aJ ho.rs;obtain⟨x4,y4,e4⟩:=aJ ho.sv;obtain⟨x5,y5,e5⟩:=aJ ho.gw;obtain⟨x6,y6,e6⟩:=aJ ho.wh;subst e2 e3 e4 e5 e6;exact⟨hb,_,_,_,_,_,_,_,_,_,_,_,_,_,_,_,rfl,ho,hk⟩
structure TI(C:Nat)(w:World)(v:Value)(L:List Nx):Prop where
 row:w.ownsRow C 42 12 v L.length (iS L)
 own:∀x∈L,cJ C w x.n x.vm x.vr x.vs x.vg x.vw/\iq x.n
theorem TI.below{C:Nat}{w w':World}{v:Value}{L:List Nx}(h:TI C w v L)(hb:Below w.heap.size w w'):TI C w' v L:=
 ⟨en h.row (λb _ _ e=>(hb.block b (BY.1 e).1).trans e),λx hx=>⟨(h.own x hx).1.below hb,(h.own x hx).2⟩⟩
theorem cJ.grown{B:Nat}{w w':World}{n:Nd}{vm vr vs vg vw:Value}{row:Option Nat}(h:cJ B w n vm vr vs vg vw)(hg:w.grownBy w' row)(hr:∀b,row=AI b->∃cs,w.heap[b]?=AI (By cs 42 (0,0))):cJ B w' n vm vr vs vg vw:=by
 have hq:∀(q:Nat) (c:Array Value) (T:TypeId) (f:Nat×Nat),T≠42->w.heap[q]?=AI (By c T f)->w'.heap[q]?=AI (By c T f):=λq c T f hT e=>(hg.block q (BY.1 e).1 (λe2=>by
  obtain⟨cs,h2⟩:=hr q e2.symm;rw[h2] at e;simp at e;exact hT e.2.1.symm)).trans e
 exact⟨en h.ms (λq c f e=>hq q c _ f (by decide) e),en h.rs (λq c f e=>hq q c _ f (by decide) e),en h.sv (λq c f e=>hq q c _ f (by decide) e),en h.gw (λq c f e=>hq q c _ f (by decide) e),en h.wh (λq c f e=>hq q c _ f (by decide) e)⟩
theorem TI.nsl{C:Nat}{w:World}{v:Value}{L:List Nx}(h:TI C w v L):zy w v (L.map (·.n)):=by
 rcases h.row.2 with⟨rfl,h0⟩|⟨b,c,cur,rfl,ey,hb,hn,dN,bZ,M4⟩
 .have:L=[]:=List.eq_nil_of_length_eq_zero h0
  subst this;exact⟨be,0,rfl,.inl rfl⟩
 .refine⟨AI ⟨b,0,be⟩,c,by rw[Oa],.inr ⟨b,0,rfl,(BY.1 hb).1,λj hj=>?_⟩⟩
  have Fm:j<L.length:=by simpa using hj
  have VZ:(L.getD j bW).n=(L.map (·.n)).getD j ek:=by
   rw[Iq,Iq,List.getElem?_map,Ie Fm];rfl
  have ho:=h.own _ (gl Fm);rw[<- VZ];refine⟨_,_,_,_,_,ho.1.is ho.2,λi hi=>?_⟩;have hg:=lR L j Fm i hi;rw[ae hb,show 0+j*12+i=j*12+i by omega,<- On,<- List.getElem?_take_of_lt (show j*12+i<L.length*12 by omega),M4,hg,Nx.cs,On]
theorem Ct(nodes eO:Int)(k z:Nat)(hk:k<=5)(hc:z<=1)(w:World)(hV:Rv w.heap.size w)(jd:∀W:World,Calls AS 17 #[U O nodes,U O 6] W λe w'=>e=AT (U O (k:Int))/\w'=W)(AA:∀W:World,Calls AS 17 #[U O eO,U O 2] W λe w'=>e=AT (U O (z:Int))/\w'=W) :
 Calls AS 8 #[U O nodes,U O eO] w λe w'=>Below w.heap.size w w'/\∃a l c2 d m q,e=AT (Im #[Ik #[J a l c2,J d m q],Ia true])/\Hid (fU w' ⟨(JC (k+1)).map (ml z),[]⟩ (J a l c2) (J d m q)):=by
 obtain⟨i0,fW,dd,gY,gG⟩:=info_parts Tryz.TH;have he:=RC z k hc hk;have Dx:Hid (∀W v,Below w.heap.size w W->zy W v ((JC (k+1)).map (ml z))->Calls AS 22 #[v] W λe w'=>Below W.heap.size W w'/\∃a l c d m q,e=AT (Im #[Ik #[J a l c,J d m q],U O 0])/\Hid (fJ W.heap.size w' ⟨(JC (k+1)).map (ml z),[]⟩ (J a l c) (J d m q))):=λW v hW hv=>by
  refine(tU _ v W (hV.after hW) hv).mono ?_;rintro e w' ⟨hb,⟨_,a,l,c,d,m,q,nb,L,rfl,ho⟩|⟨aT,_⟩⟩
  .have hns:L.map (·.n)=(JC (k+1)).map (ml z):=ho.ns
   have hLn:L.length=((JC (k+1)).map (ml z)).length:=by rw[<- hns,Oa]
   exact⟨hb,_,_,_,_,_,_,rfl,nb,L,by rw[hLn];exact ho.un,ho.ns,⟨ho.le,ho.row,λx hx=>(ho.own x hx).mono (by have:=ho.le;omega),λx hx=>hv.ok _ (by rw[<- hns];exact List.mem_map_of_mem hx)⟩,Lt.Own.mono ho.ls (by have:=ho.le;omega)⟩
  .exact absurd he aT
 have HCH:Hid _:=jd;have pP:Hid _:=AA;have hwc:IntKind.i64.wrap (1+(z:Int))=1+(z:Int):=by rw[IY];omega
 have yM:(1+(z:Int)==0)=false:=by
  have h:1+(z:Int)≠0:=by omega
  simpa using h
 have My:IntKind.i64.wrap (1+(k:Int))=1+(k:Int):=by rw[IY];omega
 clear hV he jd AA;obtain⟨W0,bA,bM,-,hz⟩:=bV w #[J be 0 0,J be 0 0] 27;have rG:Hid (w.heap.size+1<=W0.heap.size):=by show _<=_;rw[bA];simp
 have cY:Hid (Below w.heap.size w W0/\W0.heap[w.heap.size]?=AI (By #[J be 0 0,J be 0 0] 27 (0,0))):=⟨bM,hz⟩;clear bM hz;go_enter Tryz.func8,Tryz.ntmps8;go_wp2_with fail;rw[<- bA];clear bA;go_loopw [6,7] (λv i wr=>∃(j:Nat) (L:List Nx) (a:Option Addr) (c:Nat),j<=k+1/\i=U O j/\v=J a j c/\Hid (L.map (·.n)=(JC j).map (ml z)/\L.length=j)/\Hid (TI (w.heap.size+1) wr (J a j c) L)/\Hid (Below w.heap.size w wr/\wr.heap[w.heap.size]?=AI (By #[J be 0 0,J be 0 0] 27 (0,0)))) (λ_ i _=>k+1-(intOf i).toNat)
 case atStart=>exact⟨0,[],be,0,IH _,rfl,rfl,⟨rfl,rfl⟩,⟨World.ownsRow_nil _ _ _ _,λx hx=>by cases hx⟩,cY⟩
 case round=>
  obtain⟨j,L,a,c,hj,rfl,rfl,HL,HG,HB⟩:=hrel;by_cases aR:j<k+1
  .have hd:=decide_eq_true (by omega)
   have hj6:j<6:=by omega
   obtain⟨r,hr⟩:∃r,r=j%(1+z):=⟨_,rfl⟩;have qU:r<2:=by have:=Nat.mod_lt j (by omega:0<1+z);omega
   have po:(j:Int)%(1+(z:Int))=(r:Int):=by rw[hr,Int.natCast_emod];rfl
   have hm2:=(Int.tmod_eq_emod_of_nonneg (by omega)).trans po;have hmw:IntKind.i64.wrap (r:Int)=(r:Int):=by rw[IY];omega
   have hr3:(r:Int)<2:=by omega
   have FA:(0:Int)<=(r:Int):=by omega
   have hr5:((r:Int)).toNat=r:=by omega
   have SL:=(af9 z j hc).trans rfl;rw[<- hr] at SL;clear hr qU;have hm4:((j:Int)%2==0)=decide (j%2=0):=by
    by_cases h:j%2=0
    .rw[decide_eq_true h]
     have:(j:Int)%2=0:=by omega
     simpa using this
    .rw[decide_eq_false h]
     have:(j:Int)%2≠0:=by omega
     simpa using this
   have HM4:Hid _:=hm4;clear hm4;have HNO:=Pb z j hc hj6;have aaH:Hid _:=HNO;clear HNO;go_wp2_with fail;refine(HCH.out wr).mono ?_;rintro e w' ⟨rfl,zk⟩;have LI:=zk.symm;subst LI;go_wp2_with fail;obtain⟨W1,cQ⟩:∃W1,W1=wr.alloc (By #[Y ⟨#[99]⟩,Y ⟨#[100]⟩] 9):=⟨_,rfl⟩;rw[<- cQ];refine(pP.out W1).mono ?_;rintro e w' ⟨rfl,zk⟩;have LI:=zk.symm;subst LI;have hx1:W1.heap[wr.heap.size]?=AI (By #[Y ⟨#[99]⟩,Y ⟨#[100]⟩] 9 (0,0)):=by rw[cQ];exact Ii wr _
   have aY:Hid (Below wr.heap.size wr W1):=by show Below _ _ _;rw[cQ];exact(Ib _ _).alloc (Ic _) _
   have x0:=(ae hx1 r).trans SL;have y0:(W1.alloc (By #[Y ⟨#[97]⟩,Y ⟨#[98]⟩,Y ⟨#[101]⟩,Y ⟨#[102]⟩,Y ⟨#[103]⟩,Y ⟨#[104]⟩] 9)).cell? ⟨W1.heap.size,j,be⟩=AI (Y (vf j)):=(ae (Ii W1 _) j).trans (aaG j hj6);have hj7:(j:Int)<6:=by omega
   clear cQ hx1;go_wp2_with fail;obtain⟨W2,bL⟩:∃W2,W2=W1.alloc (By #[Y ⟨#[97]⟩,Y ⟨#[98]⟩,Y ⟨#[101]⟩,Y ⟨#[102]⟩,Y ⟨#[103]⟩,Y ⟨#[104]⟩] 9):=⟨_,rfl⟩;rw[<- bL];have bp:Hid (Below wr.heap.size wr W2):=by show Below _ _ _;rw[bL];exact aY.out.alloc aY.out.size _
   rw[HM4.out];refine Ou (aaH.out W2) ?_;rintro e w3 ⟨bU,a2,uk,uo,a3,uq,uu,a4,uv,ux,a5,uy,uz,a6,uA,uB,rfl,HN3⟩;have cF:Hid _:=bp.out.trans (bU.mono bp.out.size);clear bU bL x0 y0 aaH;generalize dy:vf j=nm at *;generalize Hu:ud z j=ct at *;have MU:Hid (vf j=nm/\ud z j=ct):=⟨dy,Hu⟩;clear dy Hu;have cC:=cF.out.size;obtain⟨W4,nL,eP,-,LH⟩:=bV w3 #[Y nm,Y ct,J a2 uk uo,J a3 uq uu,J a4 uv ux,J a5 uy uz,U O 0,U O 0,U O 0,U O 0,U O 1000,J a6 uA uB] 42;have fE:Hid _:=cF.out.trans (eP.mono cF.out.size);have jA:Hid _:=HB.out.1.trans (fE.out.mono HB.out.1.size);have L0:=(HG.out.below fE.out);have cO:W4.ownsRow (w.heap.size+1) 42 12 (J a j c) j (iS L):=by have h:=L0.row;rw[HL.out.2] at h;exact h
   have nD:Hid (cJ (w.heap.size+1) W4 (ml z j) (J a2 uk uo) (J a3 uq uu) (J a4 uv ux) (J a5 uy uz) (J a6 uA uB)/\iq (ml z j)):=⟨(HN3.out.1.below eP).mono (by have:=bp.out.size;have:=HB.out.1.size;have:=(BY.1 HB.out.2).1;omega),HN3.out.2⟩;have HOO:Hid _:=L0.own;obtain⟨p0,p1,p2,p3,p4,p5,p6,p7,p8,p9,p10,p11⟩:=bu LH;have PA:Hid _:=(fE.out.block _ (BY.1 HB.out.2).1).trans HB.out.2;have hbs:w.heap.size+1<=W4.heap.size:=by have:=fE.out.size;have:=(BY.1 HB.out.2).1;omega
   clear eP LH L0 HN3;go_upto_region 7 with fail
   rw[<- nL];clear nL;have L8:Hid (∀b,(J a j c).ownBlock=AI b->∃cs,W4.heap[b]?=AI (By cs 42 (0,0))):=λb e=>(ik cO e).2;have HRL:Hid (∀b,(J a j c).ownBlock=AI b->w.heap.size+1<=b):=λb e=>(ik cO e).1;have h63:j+1<=Io:=by unfold Io;omega
   have GY:(j+1)*192<=140737488355328:=by omega
   go_wp2_with (at_builtin;refine wpList_append_lies _ rfl _ _ 24 rfl (w.heap.size+1) 42 i0 _ 12 192 Tryz.underlying24 fW dd gY gG rfl (by omega) (J a j c) j (iS L) rfl (World.ownsRow.alloc cO _) ⟨W4.heap.size,0,be⟩ 1 1 [Y nm,Y ct,J a2 uk uo,J a3 uq uu,J a4 uv ux,J a5 uy uz,U O 0,U O 0,U O 0,U O 0,U O 1000,J a6 uA uB] rfl rfl (World.news_of_block (cs:=#[Y nm,Y ct,J a2 uk uo,J a3 uq uu,J a4 uv ux,J a5 uy uz,U O 0,U O 0,U O 0,U O 0,U O 1000,J a6 uA uB]) (t:=42) (fr:=(0,0)) (Ii W4 _)) (by simp[Value.oneCell']) (by omega) h63 GY (by simp;omega) (W4.heap.size+1) (by simp) ?_;intro gg cap w5 hown fI cH TF);have Vj:Below W4.heap.size W4 (W4.alloc (By #[Y nm,Y ct,J a2 uk uo,J a3 uq uu,J a4 uv ux,J a5 uy uz,U O 0,U O 0,U O 0,U O 0,U O 1000,J a6 uA uB] 42)):=(Ib _ _).alloc (Ic _) _;have HGR:Hid (TI (w.heap.size+1) w5 (J (AI ⟨gg,0,be⟩) (j+1) cap) (L++[⟨ml z j,J a2 uk uo,J a3 uq uu,J a4 uv ux,J a5 uy uz,J a6 uA uB⟩])):=by
    have Dw:∀b,(J a j c).ownBlock=AI b->∃cs,(W4.alloc (By #[Y nm,Y ct,J a2 uk uo,J a3 uq uu,J a4 uv ux,J a5 uy uz,U O 0,U O 0,U O 0,U O 0,U O 1000,J a6 uA uB] 42)).heap[b]?=AI (By cs 42 (0,0)):=λb e=>by
     obtain⟨cs,h2⟩:=L8.out b e;exact⟨cs,(Vj.block b (BY.1 h2).1).trans h2⟩
    refine⟨?_,λx hx=>?_⟩
    .have hl:(L++[(⟨ml z j,J a2 uk uo,J a3 uq uu,J a4 uv ux,J a5 uy uz,J a6 uA uB⟩:Nx)]).length=j+1:=by rw[Ih,HL.out.2];rfl
     rw[hl,ko,sn];have bZ:(⟨ml z j,J a2 uk uo,J a3 uq uu,J a4 uv ux,J a5 uy uz,J a6 uA uB⟩:Nx).cs=[Y nm,Y ct,J a2 uk uo,J a3 uq uu,J a4 uv ux,J a5 uy uz,U O 0,U O 0,U O 0,U O 0,U O 1000,J a6 uA uB]:=by rw[<- MU.out.1,<- MU.out.2];rfl
     rw[bZ];exact hown
    .rcases List.mem_append.1 hx with h1|h1
     .exact⟨((HOO.out x h1).1.below Vj).grown fI Dw,(HOO.out x h1).2⟩
     .rw[Jo] at h1
      subst h1;exact⟨(nD.out.1.below Vj).grown fI Dw,nD.out.2⟩
   have DU:Hid ((L++[(⟨ml z j,J a2 uk uo,J a3 uq uu,J a4 uv ux,J a5 uy uz,J a6 uA uB⟩:Nx)]).map (·.n)=(JC (j+1)).map (ml z)/\(L++[(⟨ml z j,J a2 uk uo,J a3 uq uu,J a4 uv ux,J a5 uy uz,J a6 uA uB⟩:Nx)]).length=j+1):=⟨by rw[O2,HL.out.1,List.range_succ,O2];rfl,by rw[Ih,HL.out.2];rfl⟩;have hlw:=(BY.1 PA.out).1;have HBF:Hid (Below w.heap.size w w5/\w5.heap[w.heap.size]?=AI (By #[J be 0 0,J be 0 0] 27 (0,0))):=⟨(jA.out.trans (Vj.mono jA.out.size)).grown fI (by simp;omega) (λb e=>by have:=HRL.out b e;omega),((fI.block _ (by simp;omega) (λe=>by have:=HRL.out _ e.symm;omega)).trans (Vj.block _ hlw)).trans PA.out⟩;clear hown fI cH TF Vj cO p0 p1 p2 p3 p4 p5 p6 p7 p8 p9 p10 p11 HOO nD PA jA fE cF bp aY L8 HRL HL HG HB hlw hbs;go_wp2_with fail;go_roundw
   case rel=>exact⟨j+1,_,AI ⟨gg,0,be⟩,cap,by omega,by go_num,rfl,DU,HGR,HBF⟩
   case measure=>simp[intOf];omega
  .have hd:=decide_eq_false (by omega)
   have L6:j=k+1:=by omega
   have hN:=HG.out.nsl;rw[HL.out.1,L6] at hN;have HC:=Dx.out wr _ HB.out.1 hN;rw[<- L6] at HC;have HJK:Hid _:=L6;clear HG HL hN Dx pP L6;go_wp2_with fail;refine(HCH.out wr).mono ?_;rintro e w' ⟨rfl,zk⟩;have LI:=zk.symm;subst LI;go_wp2_with fail;refine Ou HC ?_;rintro e w1 ⟨aB,a1,l1,c1,d1,m1,q1,rfl,LW⟩;have aY:Hid _:=HB.out.1.trans (aB.mono HB.out.1.size);have cX:=(aB.block _ (BY.1 HB.out.2).1).trans HB.out.2;have BK:=(BY.1 HB.out.2).1;clear aB HC HB HCH;obtain⟨W2,bL,aI,-,dS⟩:=bV w1 #[J a1 l1 c1,J d1 m1 q1] 27;have ny:=(aI.block _ (BY.1 cX).1).trans cX;obtain⟨W3,ep⟩:∃W3,W3=aD w.heap.size [J a1 l1 c1,J d1 m1 q1] 0 W2:=⟨_,rfl⟩;have jw:W3.heap[w.heap.size]?=AI (By #[J a1 l1 c1,J d1 m1 q1] 27 (0,0)):=by rw[ep];exact bD [J a1 l1 c1,J d1 m1 q1] [] [J be 0 0,J be 0 0] ny rfl
   have gO:Hid (Below w.heap.size w W3/\fU W3 ⟨(JC (k+1)).map (ml z),[]⟩ (J a1 l1 c1) (J d1 m1 q1)):=by
    refine⟨by rw[ep];exact aP (Ic _) _ _ (aY.out.trans (aI.mono aY.out.size)),by rw[<- HJK.out];exact((LW.out.fa (w':=W2) (λq hq hl=>aI.block q hl)).fa (w':=W3) (λq hq _=>by rw[ep];exact aV (by omega) _ _ _)).is (λl hl=>by cases hl)⟩
   have x0:=ae dS 0;have x1:=ae dS 1;have g0:=ae ny 0;have g1:=ae ny 1;have f0:=an ny 0;have f1:=an ny 1;have q0:=ae jw 0;have q1':=ae jw 1;clear aI dS ny cX jw LW aY BK;go_upto_region 11 with fail
   rw[<- bL];clear bL;go_wp2_with fail;simp only[aD,ID] at ep;rw[<- ep];clear ep x0 x1 g0 g1 f0 f1;exact IL (v:=Im #[Ik #[J a1 l1 c1,J d1 m1 q1],Ia true]) (by simp[results,Tryz.results8,go_sem,q0,q1']) rfl ⟨gO.out.1,_,_,_,_,_,_,rfl,gO.out.2⟩
def Mf:Ev:=⟨0,0,0,0,⟨#[]⟩,⟨0,0,0,0,0⟩,⟨⟨#[]⟩,⟨#[]⟩,⟨#[]⟩,⟨#[]⟩,0,0,false,0,false⟩⟩
structure FX(w:World)(a:Option Addr)(l:List Ev):Prop where
 ok:∀v∈l,v.Ok
 row:∀k,k<l.length->∃G off,a=AI ⟨G,off,be⟩/\w.rangeAt G (off+k*19) (Ch (l.getD k Mf)).toList
theorem vh{P:Program}{a:Act}{o:Oper}{W:World}(ty:TypeId)(x:Operand)(ho:o.op=.load ty x)(b off:Nat)(hx:a.eval x=If (AI ⟨b,off,be⟩))(cs:List Value)(d:TypeDesc)(hc:W.rangeAt b off cs)(hu:P.underlying ty=AI d)(hd:d.isRow=true)(hi:(P.info? ty).map (·.size)=AI cs.length):(execOp a.eval o).run P W=.ok (.value (Ik cs.toArray)) W:=by
 unfold execOp;simp only[ho,hx,run_loadAt_mid W b off ty cs d hc hu hd hi,Sem.run_bind,Sem.run_pure,Result.andThen_ok]
theorem rA{w W:World}{b off:Nat}{cs:List Value}(h:w.rangeAt b off cs)(hb:Below w.heap.size w W):W.rangeAt b off cs:=λi v hi=>by
 have h1:=h i v hi;exact(hb.cell (Iy w _ h1)).trans h1
theorem ue{C:Nat}{w:World}{t:Nt}{un ul:Value}(h:fJ C w t un ul)(hr:eU t):fU w t un ul:=h.is (λl hl=>by
 have:=hr.sh l hl;show _<=Io;unfold Io;omega)
theorem Inv.is{w wr:World}{t:Nt}{un ul:Value}{C:Nat}(h:fU w t un ul\/fJ C wr t un ul)(hr:eU t)(hb:Below w.heap.size w wr):fU wr t un ul:=h.elim (·.below hb) (ue · hr)
theorem fJ.mono{A C:Nat}{w:World}{t:Nt}{un ul:Value}(h:fJ C w t un ul)(hA:A<=C):fJ A w t un ul:=by
 obtain⟨nb,L,h1,h2,h3,h4⟩:=h;exact⟨nb,L,h1,h2,h3.mono hA,Lt.Own.mono h4 hA⟩
theorem Pc(kf:Nat)(eg:∀args w,(Oz kf args).run AS w=.ok (.enter kf args) w)(l:List Ev)(la:Option Addr)(lc:Nat)(t0:Nt)(vn vl:Value)(w:World)(hV:Rv w.heap.size w)(hl:FX w la l)(h:fU w t0 vn vl)(I:Nt->Prop)(hr:eU t0/\I t0)(hI:∀t t',eU t->FG t t'->I t->Rw t t'->I t')(KG:l.length<=Io)(hIs:∀W t t' a1 n1 c1 d1 l1 q1 a2 n2 c2 d2 l2 q2,Below w.heap.size w W->fU W t (J a1 n1 c1) (J d1 l1 q1)->fU W t' (J a2 n2 c2) (J d2 l2 q2)->eU t->FG t t'->I t'->Calls AS kf #[Ik #[J a1 n1 c1,J d1 l1 q1],Ik #[J a2 n2 c2,J d2 l2 q2]] W λe w'=>e=AT (Ia true)/\Below W.heap.size W w') :
 Calls AS 9 #[Ik #[vn,vl],J la l.length lc,IP (.func kf) #[] #[]] w λe w'=>Below w.heap.size w w'/\∃t a k c b m d,e=AT (Im #[Ik #[J a k c,J b m d],Ia true])/\Hid (fU w' t (J a k c) (J b m d)/\(eU t/\I t)/\t.ns.length=t0.ns.length):=by
 have HV:Hid _:=hV;have l9:Hid _:=hIs;have CN:Hid _:=hI;have Wo:Hid (∀k,k<l.length->∃G off,la=AI ⟨G,off,be⟩/\(l.getD k Mf).Ok/\∀W,Below w.heap.size w W->W.rangeAt G (off+k*19) (Ch (l.getD k Mf)).toList):=λk hk=>by
  obtain⟨G,off,e,hg⟩:=hl.row k hk;exact⟨G,off,e,hl.ok _ (cS hk Mf),λW hW=>rA hg hW⟩
 obtain⟨⟨pn,cn,EJ,_⟩,⟨pl,cl,kY,_,_⟩⟩:=id h;subst EJ kY;generalize hn1:t0.ns.length=n0 at *;generalize Av:t0.ls.length=m0 at *;obtain⟨W0,bA⟩:∃W0,W0=(w.alloc (By #[J pn n0 cn,J pl m0 cl] 27)).alloc (By #[J be 0 0,J be 0 0] 27):=⟨_,rfl⟩;have bM:Below w.heap.size w W0:=by rw[bA];exact((Ib _ _).alloc (Ic _) _).alloc (by simp) _
 have HI0:Hid (W0.heap[w.heap.size]?=AI (By #[J pn n0 cn,J pl m0 cl] 27 (0,0))/\W0.heap[w.heap.size+1]?=AI (By #[J be 0 0,J be 0 0] 27 (0,0))/\(fU w t0 (J pn n0 cn) (J pl m0 cl)\/fJ (w.heap.size+2) W0 t0 (J pn n0 cn) (J pl m0 cl))/\(eU t0/\I t0)/\t0.ns.length=n0/\Below w.heap.size w W0):=by
  refine⟨?_,?_,.inl h,hr,hn1,bM⟩
  .rw[bA];exact(Lib.alloc_old _ _ _ (by simp)).trans (Ii w _)
  .rw[bA]
   have:=Ii (w.alloc (By #[J pn n0 cn,J pl m0 cl] 27)) (By #[J be 0 0,J be 0 0] 27);simpa using this
 have hlm:(l.length:Int)<=9223372036854775807:=by unfold Io at KG;omega
 clear hV hIs hI hl h hr bM hn1 Av KG;generalize hnn:l.length=n at *;go_enter Tryz.func9,Tryz.ntmps9;go_wp2_with fail;rw[<- bA];clear bA;go_loopw [8] (λi wr=>∃(k n1 c1 l1 q1:Nat) (a1 d1:Option Addr) (t:Nt),k<=n/\i=U O k/\Hid (wr.heap[w.heap.size]?=AI (By #[J a1 n1 c1,J d1 l1 q1] 27 (0,0))/\wr.heap[w.heap.size+1]?=AI (By #[J be 0 0,J be 0 0] 27 (0,0))/\(fU w t (J a1 n1 c1) (J d1 l1 q1)\/fJ (w.heap.size+2) wr t (J a1 n1 c1) (J d1 l1 q1))/\(eU t/\I t)/\t.ns.length=n0/\Below w.heap.size w wr)) (λi _=>n-(intOf i).toNat)
 case atStart=>exact⟨0,n0,cn,m0,cl,pn,pl,t0,IH _,rfl,HI0⟩
 case round=>
  obtain⟨k,n1,c1,l1,q1,a1,d1,t,hk,rfl,HR⟩:=hrel;by_cases aR:k<n/\k<40
  .have hd:=decide_eq_true (by omega)
   have age:decide ((k:Int)<40)=true:=decide_eq_true (by omega);obtain⟨G,off,gH,hvo,WU⟩:=Wo.out k aR.1;subst gH;have Dl:Hid (∀W,Below wr.heap.size wr W->Calls AS 19 #[Ik #[J a1 n1 c1,J d1 l1 q1],Ik (Ch (l.getD k Mf))] W λe w'=>Below W.heap.size W w'/\∃a2 n2 c2 d2 l2 q2 er,e=AT (Im #[Ik #[J a2 n2 c2,J d2 l2 q2],U O er])/\Hid (er=0->∃t',Rw t t'/\fJ W.heap.size w' t' (J a2 n2 c2) (J d2 l2 q2))):=λW hW=>by
    obtain⟨_,_,i3,i4,_,i6⟩:=HR.out;refine(LF t _ _ (l.getD k Mf) W (HV.out.after (i6.trans (hW.mono i6.size))) ((Inv.is i3 i4.1 i6).below hW) i4.1 hvo).mono ?_;rintro e w' ⟨hb,⟨er,aT,_,rfl⟩|⟨t',a2,n2,c2,d2,l2,q2,hx,rfl,hN⟩⟩
    .exact⟨hb,_,_,_,_,_,_,er,rfl,λhz=>absurd hz aT⟩
    .exact⟨hb,_,_,_,_,_,_,0,rfl,λ_=>⟨t',hx,hN⟩⟩
   have Pd:Hid (∀W,Below wr.heap.size wr W->W.heap[w.heap.size]?=AI (By #[J a1 n1 c1,J d1 l1 q1] 27 (0,0))/\W.rangeAt G (off+k*19) (Ch (l.getD k Mf)).toList):=λW hW=>by
    obtain⟨i1,_,_,_,_,i6⟩:=HR.out;exact⟨(hW.block _ (BY.1 i1).1).trans i1,WU W (i6.trans (hW.mono i6.size))⟩
   have vq:(k:Int)<(n:Int):=by omega
   have jj:¬ (k:Int)<0:=by omega
   have jd:(0:Int)<=(k:Int):=by omega
   have jw:((k:Int)).toNat=k:=by omega
   have L5:Hid (k<n):=aR.1;clear WU hvo aR;generalize l.getD k Mf=v at *;go_upto_region 4 with fail
   go_cut [9,10] from 11 to 38 (λp9 e10 wx=>∃(B9 n2 c2 l2 q2:Nat) (a2 d2:Option Addr) (er:Int),p9=If (AI ⟨B9,0,be⟩)/\e10=U O er/\Hid (wx.heap[B9]?=AI (By #[J a2 n2 c2,J d2 l2 q2] 27 (0,0))/\wr.heap.size<=B9)/\Hid ((er=0->∃t',Rw t t'/\fJ wr.heap.size wx t' (J a2 n2 c2) (J d2 l2 q2))/\Below wr.heap.size wr wx))
   case first=>
    clear HR Wo l9 CN L5 HV;refine wp_region_held_drew (S:=λW=>W.heap[w.heap.size]?=AI (By #[J a1 n1 c1,J d1 l1 q1] 27 (0,0))/\W.rangeAt G (off+k*19) (Ch v).toList) (by kernel_rfl) (Pd.out _ (Ib _ _).drew) (λbP=>?_);refine bY 0 (v:=Ik #[J a1 n1 c1,J d1 l1 q1]) ?_ (hy:=Or.inl ⟨by rfl,λW LS=>nN 27 (.tmp 3) rfl w.heap.size rfl 27 #[J a1 n1 c1,J d1 l1 q1] (0,0) _ LS.1 Tryz.underlying27 rfl (by kernel_rfl)⟩);refine bY 1 (v:=J (AI ⟨G,off,be⟩) n lc) ?_;refine bY 2 (v:=U O (k:Int)) ?_;refine bY 3 (v:=If (AI ⟨G,off+k*19,be⟩)) ?_;refine bY 4 (v:=Ik (Ch v)) ?_ (hy:=Or.inl ⟨by rfl,λW LS=>vh 59 (.tmp 25) rfl G (off+k*19) rfl (Ch v).toList _ LS.2 Tryz.underlying59 rfl (by kernel_rfl)⟩);refine wpAnyH_ready (rs:=[5,9]) (by kernel_rfl) (by simp) ?_;refine AllReadyH.cons rfl (λK hK=>?_) (AllReadyH.cons rfl (λK hK=>?_) AllReadyH.nil)
    .have HK:Hid _:=hK
     clear hK;go_simp;refine Ou (Dl.out _ (Ib _ _).drew) ?_;rintro e w5 ⟨jz,a2,n2,c2,d2,l2,q2,er,rfl,Gv⟩;have gX:Hid _:=(Ib wr.heap.size wr).drew.trans jz;clear jz Dl;refine HK.out _ _ (Pd.out w5 gX.out) (λbP=>?_);clear HK K;refine bY 6 (v:=Im #[Ik #[J a2 n2 c2,J d2 l2 q2],U O er]) ?_;refine bY 7 (v:=Ik #[J a2 n2 c2,J d2 l2 q2]) ?_;refine bY 8 (v:=U O er) ?_;refine cd 9 (λK hK=>?_);have HK:Hid _:=hK;clear hK;go_simp;have rD:Hid (Below wr.heap.size wr (w5.alloc (By #[J be 0 0,J be 0 0] 27))):=gX.out.alloc gX.out.size _;refine HK.out _ _ (Pd.out _ rD.out) (λbP=>?_);clear HK K;refine cd 10 (λK hK=>?_);have HK:Hid _:=hK;clear hK;go_simp;have DQ:Hid (Below wr.heap.size wr (w5.alloc (By #[J a2 n2 c2,J d2 l2 q2] 27))):=gX.out.alloc gX.out.size _;refine HK.out _ _ (Pd.out _ DQ.out) (λbP=>?_);clear HK K;refine bY 11 (v:=U O er) ?_;refine QC (by kernel_rfl) ?_ _;clear bP;go_wp2_with fail;go_meet
     case rel=>exact⟨w5.heap.size,n2,c2,l2,q2,a2,d2,er,rfl,rfl,⟨Ii w5 _,gX.out.size⟩,⟨λhz=>by
      obtain⟨t',hx,hN⟩:=Gv.out hz;exact⟨t',hx,hN.fa (λb _ hb=>((Ib w5.heap.size w5).alloc (Ic _) _).block b hb)⟩,DQ.out⟩⟩
    .have HK:Hid _:=hK
     clear hK;go_simp;have rD:Hid (Below wr.heap.size wr ((wr.alloc (By #[J be 0 0,J be 0 0] 27)).drew)):=((Ib wr.heap.size wr).alloc (Ic _) _).drew;have Dj:((wr.alloc (By #[J be 0 0,J be 0 0] 27)).drew).heap[wr.heap.size]?=AI (By #[J be 0 0,J be 0 0] 27 (0,0)):=Ii wr _;have XY:((wr.alloc (By #[J be 0 0,J be 0 0] 27)).drew).heap.size=wr.heap.size+1:=by simp
     refine HK.out _ _ (Pd.out _ rD.out) (λbP=>?_);clear HK K;generalize(wr.alloc (By #[J be 0 0,J be 0 0] 27)).drew=W6b at *;have HS6:Hid _:=XY;clear XY;refine cd 5 (λK hK=>?_);have HK:Hid _:=hK;clear hK;go_simp;refine Ou (Dl.out _ rD.out) ?_;rintro e w5 ⟨jz,a2,n2,c2,d2,l2,q2,er,rfl,Gv⟩;have gX:Hid _:=rD.out.trans (jz.mono rD.out.size);have mQ:=(jz.block _ (BY.1 Dj).1).trans Dj;clear jz Dl Dj;refine HK.out _ _ (Pd.out w5 gX.out) (λbP=>?_);clear HK K;refine bY 6 (v:=Im #[Ik #[J a2 n2 c2,J d2 l2 q2],U O er]) ?_;refine bY 7 (v:=Ik #[J a2 n2 c2,J d2 l2 q2]) ?_;refine bY 8 (v:=U O er) ?_;obtain⟨W7,Ek⟩:∃W7,W7=aD wr.heap.size [J a2 n2 c2,J d2 l2 q2] 0 w5:=⟨_,rfl⟩;have Mn:Hid (W7.heap[wr.heap.size]?=AI (By #[J a2 n2 c2,J d2 l2 q2] 27 (0,0))):=by show _=_;rw[Ek];exact bD [J a2 n2 c2,J d2 l2 q2] [] [J be 0 0,J be 0 0] mQ rfl
     have HN7:Hid ((er=0->∃t',Rw t t'/\fJ wr.heap.size W7 t' (J a2 n2 c2) (J d2 l2 q2))/\Below wr.heap.size wr W7):=by
      refine⟨λhz=>?_,by rw[Ek];exact aP (Ic _) _ _ gX.out⟩;obtain⟨t',hx,nb7,L7,e1,e2,e3,e4⟩:=Gv.out hz;have hle:=HS6.out;have rZ:∀b,W6b.heap.size<=b->b<w5.heap.size->W7.heap[b]?=w5.heap[b]?:=λb hb _=>by rw[Ek];exact aV (by omega) _ _ _
      exact⟨t',hx,nb7,L7,e1,e2,(e3.fa rZ).mono (by omega),Lt.Own.mono (ee rZ e4) (by omega)⟩
     have g0:=ae mQ 0;have g1:=ae mQ 1;have f0:=an mQ 0;have f1:=an mQ 1;clear mQ;refine cd 10 (λK hK=>?_);have HK:Hid _:=hK;clear hK;go_simp;simp only[aD,ID] at Ek;rw[<- Ek];clear Ek g0 g1 f0 f1;refine HK.out _ _ (Pd.out _ HN7.out.2) (λbP=>?_);clear HK K;refine bY 11 (v:=U O er) ?_;refine QC (by kernel_rfl) ?_ _;clear bP;go_wp2_with fail;go_meet
     case rel=>exact⟨wr.heap.size,n2,c2,l2,q2,a2,d2,er,rfl,rfl,⟨Mn.out,Ic _⟩,HN7.out⟩
   case rest=>
    obtain⟨B9,n2,c2,l2,q2,a2,d2,er,rfl,rfl,H9,HN9⟩:=hcut;have C5:IntKind.i64.wrap ((k:Int)+1)=(k:Int)+1:=by rw[IY];omega
    by_cases her:er=0
    .subst her
     obtain⟨t',hx,hN⟩:=HN9.out.1 rfl;have yX:=HN9.out.2;obtain⟨i1,i2,i3,i4,i5,i6⟩:=HR.out;have i7:=Inv.is i3 i4.1 i6;have Pn:=Lh i4.1 i7.ns.ok hx;have Wj:=CN.out t t' i4.1 Pn i4.2 hx;have BK:=(BY.1 i2).1;have HC:=l9.out wc t t' a1 n1 c1 d1 l1 q1 a2 n2 c2 d2 l2 q2 (i6.trans (yX.mono i6.size)) (i7.below yX) (ue hN Pn.right) i4.1 Pn Wj;have mQ:=(yX.block _ (by omega)).trans i1;have iY:=(yX.block _ BK).trans i2;have y0:=ae H9.out.1 0;have y1:=ae H9.out.1 1;have g0:=ae mQ 0;have g1:=ae mQ 1;have HG:Hid (∀W,Below wc.heap.size wc W->W.heap[B9]?=AI (By #[J a2 n2 c2,J d2 l2 q2] 27 (0,0))/\W.heap[w.heap.size]?=AI (By #[J a1 n1 c1,J d1 l1 q1] 27 (0,0))/\W.heap[w.heap.size+1]?=AI (By #[J be 0 0,J be 0 0] 27 (0,0))/\B9≠w.heap.size/\Below w.heap.size w W/\∀W8,W8=aD w.heap.size [J a2 n2 c2,J d2 l2 q2] 0 W->W8.heap[w.heap.size]?=AI (By #[J a2 n2 c2,J d2 l2 q2] 27 (0,0))/\W8.heap[w.heap.size+1]?=AI (By #[J be 0 0,J be 0 0] 27 (0,0))/\(fU w t' (J a2 n2 c2) (J d2 l2 q2)\/fJ (w.heap.size+2) W8 t' (J a2 n2 c2) (J d2 l2 q2))/\(eU t'/\I t')/\t'.ns.length=n0/\Below w.heap.size w W8):=λW hW=>by
      have k1:=(hW.block B9 (BY.1 H9.out.1).1).trans H9.out.1;have k2:=(hW.block _ (BY.1 mQ).1).trans mQ;have k3:=(hW.block _ (BY.1 iY).1).trans iY;have k4:=(i6.trans (yX.mono i6.size)).trans (hW.mono (Ir i6.size yX.size));have hle:=H9.out.2;refine⟨k1,k2,k3,by omega,k4,λW8 e8=>?_⟩;have et:∀q,q≠w.heap.size->W8.heap[q]?=W.heap[q]?:=λq hq=>by rw[e8];exact aV hq _ _ _
      refine⟨by rw[e8];exact bD [J a2 n2 c2,J d2 l2 q2] [] [J a1 n1 c1,J d1 l1 q1] k2 rfl,(et _ (by omega)).trans k3,?_,⟨Pn.right,Wj⟩,Pn.len.trans i5,by rw[e8];exact aP (Ic _) _ _ k4⟩;exact .inr (((hN.fa (λb _ hb=>hW.block b hb)).fa (λb hb _=>et b (by omega))).mono (by omega))
     clear hN yX i1 i2 i3 i4 i5 i6 i7 Wj Pn BK mQ iY hx HN9 H9 HR Dl Pd;go_wp2_with fail;refine HC.mono ?_;rintro e w6 ⟨rfl,rK⟩;obtain⟨j1,j2,j3,j4,j5,j6⟩:=HG.out w6 rK;clear y0 y1 g0 g1 HC;have y0:=ae j1 0;have y1:=ae j1 1;have g0:=ae j2 0;have g1:=ae j2 1;have f0:=an j2 0;have f1:=an j2 1;obtain⟨W8,DD⟩:∃W8,W8=aD w.heap.size [J a2 n2 c2,J d2 l2 q2] 0 w6:=⟨_,rfl⟩;have HR8:=j6 W8 DD;have agf:Hid _:=HR8;clear HR8 j1 j2 j3 j5 j6 HG rK;go_wp2_with fail;simp only[aD,ID] at DD;rw[<- DD];clear DD y0 y1 g0 g1 f0 f1;go_roundw
     case rel=>exact⟨k+1,n2,c2,l2,q2,a2,d2,t',by have:=L5.out;omega,by go_num,agf⟩
     case measure=>simp[intOf];have:=L5.out;omega
    .have hd2:(er==0)=false:=by simpa using her
     have hd3:(er !=0)=true:=by simpa using her
     have HR8:Hid (wc.heap[w.heap.size]?=AI (By #[J a1 n1 c1,J d1 l1 q1] 27 (0,0))/\wc.heap[w.heap.size+1]?=AI (By #[J be 0 0,J be 0 0] 27 (0,0))/\(fU w t (J a1 n1 c1) (J d1 l1 q1)\/fJ (w.heap.size+2) wc t (J a1 n1 c1) (J d1 l1 q1))/\(eU t/\I t)/\t.ns.length=n0/\Below w.heap.size w wc):=by
      obtain⟨i1,i2,i3,i4,i5,i6⟩:=HR.out;have yX:=HN9.out.2;exact⟨(yX.block _ (BY.1 i1).1).trans i1,(yX.block _ (BY.1 i2).1).trans i2,i3.imp id (λh=>h.fa (λb _ hb=>yX.block b hb)),i4,i5,i6.trans (yX.mono i6.size)⟩
     clear HR HN9 H9 Dl Pd her;go_wp2_with fail;go_roundw
     case rel=>exact⟨k+1,n1,c1,l1,q1,a1,d1,t,by have:=L5.out;omega,by go_num,HR8⟩
     case measure=>simp[intOf];have:=L5.out;omega
  .have hdd:(k:Int)<(n:Int)->¬ (k:Int)<40:=λh1 h2=>aR ⟨by omega,by omega⟩
   obtain⟨i1,i2,i3,i4,i5,i6⟩:=HR.out;have x0:=ae i1 0;have x1:=ae i1 1;have g0:=ae i2 0;have g1:=ae i2 1;have f0:=an i2 0;have f1:=an i2 1;obtain⟨W8,DD⟩:∃W8,W8=aD (w.heap.size+1) [J a1 n1 c1,J d1 l1 q1] 0 wr:=⟨_,rfl⟩;have T1:W8.heap[w.heap.size+1]?=AI (By #[J a1 n1 c1,J d1 l1 q1] 27 (0,0)):=by rw[DD];exact bD [J a1 n1 c1,J d1 l1 q1] [] [J be 0 0,J be 0 0] i2 rfl
   have gO:Hid (Below w.heap.size w W8/\fU W8 t (J a1 n1 c1) (J d1 l1 q1)/\(eU t/\I t)/\t.ns.length=n0):=by
    have XZ:Below w.heap.size w W8:=by rw[DD];exact aP (by omega) _ _ i6
    refine⟨XZ,?_,i4,i5⟩;rcases i3 with i3|i3
    .exact i3.below XZ
    .exact ue (i3.fa (λb hb _=>by rw[DD];exact aV (by omega) _ _ _)) i4.1
   have q0:=ae T1 0;have q1':=ae T1 1;clear HR Wo l9 CN HV i1 i2 i3 i4 i5 i6 T1;by_cases gK:k<n
   .have hd:=decide_eq_true (by omega)
    have age:=decide_eq_false (hdd (by omega));clear hdd aR;go_wp2_with fail;simp only[aD,ID] at DD;rw[<- DD];clear DD x0 x1 g0 g1 f0 f1;exact IL (v:=Im #[Ik #[J a1 n1 c1,J d1 l1 q1],Ia true]) (by simp[results,Tryz.results9,go_sem,q0,q1']) rfl ⟨gO.out.1,t,_,_,_,_,_,_,rfl,gO.out.2⟩
   .have hd:=decide_eq_false (by omega)
    clear hdd aR;go_wp2_with fail;simp only[aD,ID] at DD;rw[<- DD];clear DD x0 x1 g0 g1 f0 f1;exact IL (v:=Im #[Ik #[J a1 n1 c1,J d1 l1 q1],Ia true]) (by simp[results,Tryz.results9,go_sem,q0,q1']) rfl ⟨gO.out.1,t,_,_,_,_,_,_,rfl,gO.out.2⟩
theorem FX.below{w W:World}{a:Option Addr}{l:List Ev}(h:FX w a l)(hb:Below w.heap.size w W):FX W a l:=⟨h.ok,λk hk=>by
 obtain⟨G,off,e,hr⟩:=h.row k hk;exact⟨G,off,e,rA hr hb⟩⟩
def aaJ(t:Nt):Prop:=t.ls=[]/\∀x∈t.ns,(∀m∈x.ms,m.name=x.name)/\x.sv=[]
theorem Cu(nodes eO:Int)(w:World)(hV:Rv w.heap.size w)(hn : -9223372036854775808<=nodes/\nodes<=9223372036854775807)(hc : -9223372036854775808<=eO/\eO<=9223372036854775807) :
 Calls AS 8 #[U O nodes,U O eO] w λe w'=>Below w.heap.size w w'/\∃t a m c d l q,e=AT (Im #[Ik #[J a m c,J d l q],Ia true])/\Hid (fU w' t (J a m c) (J d l q)/\eU t/\aaJ t):=by
 have b1:=Cs nodes (show(0:Int)<6 by omega);have b2:=Cs eO (show(0:Int)<2 by omega);have e1:=Int.toNat_of_nonneg b1.1;have e2:=Int.toNat_of_nonneg b2.1;refine(Ct nodes eO (TG nodes 6).toNat (TG eO 2).toNat (by omega) (by omega) w hV (λW=>?_) (λW=>?_)).mono ?_
 .rw[e1];exact wu nodes 6 W (by omega) (by omega) hn.1 hn.2
 .rw[e2];exact wu eO 2 W (by omega) (by omega) hc.1 hc.2
 .rintro e w' ⟨hb,a,m,c,d,l,q,rfl,HN⟩
  exact⟨hb,_,_,_,_,_,_,_,rfl,HN.out,⟨RC _ _ (by omega) (by omega),λl hl=>by cases hl⟩,rfl,λx hx=>by
   obtain⟨i,_,rfl⟩:=List.mem_map.1 hx;exact⟨λm hm=>by rw[Jo.1 hm];rfl,rfl⟩⟩
theorem uC(nodes eO:Int)(l:List Ev)(la:Option Addr)(lc:Nat)(w:World)(hV:Rv w.heap.size w)(hn : -9223372036854775808<=nodes/\nodes<=9223372036854775807)(hc : -9223372036854775808<=eO/\eO<=9223372036854775807)(hl:FX w la l)(KG:l.length<=Io) :
 Calls AS 3 #[U O nodes,U O eO,J la l.length lc] w λe w'=>e=AT (Ia true)/\Below w.heap.size w w':=by
 have LR:Hid (∀W,Below w.heap.size w W->Calls _ _ _ _ _):=λW hW=>ve W (hV.after hW);have HOB:Hid (∀W,Calls _ _ _ _ _):=λW=>vc W;have Gg:Hid (∀W,Below w.heap.size w W->Calls _ _ _ _ _):=λW hW=>Cu nodes eO W (hV.after hW) hn hc;have HRU:Hid (∀W t a m c d k q,Below w.heap.size w W->fU W t (J a m c) (J d k q)/\eU t->Calls AS 9 #[Ik #[J a m c,J d k q],J la l.length lc,IP (.func 10) #[] #[]] W λe w'=>Below W.heap.size W w'/\∃a k c b m d,e=AT (Im #[Ik #[J a k c,J b m d],Ia true])):=λW t a m c d k q hW ht=>by
  refine(Pc 10 (Jj Tryz.func10 (by kernel_rfl) rfl) l la lc t _ _ W (hV.after hW) (hl.below hW) ht.1 (λ_=>True) ⟨ht.2,trivial⟩ (λ_ _ _ _ _ _=>trivial) KG (λW2 t t' a1 n1 c1 d1 l1 q1 a2 n2 c2 d2 l2 q2 hb h1 h2 hr hg _=>Lj t t' a1 d1 a2 d2 n1 c1 l1 q1 n2 c2 l2 q2 W2 ((hV.after hW).after hb) h1 h2 hr hg)).mono ?_;rintro e w' ⟨hb,_,_,_,_,_,_,_,rfl,_⟩;exact⟨hb,_,_,_,_,_,_,rfl⟩
 clear hV hn hc hl KG;generalize l.length=ll at *;go_enter Tryz.func3,Tryz.ntmps3;go_wp2_with fail;refine(LR.out w (Ib _ _)).mono ?_;rintro e w1 ⟨rfl,aB⟩;have aY:Hid _:=aB;clear aB LR;go_wp2_with fail;refine(HOB.out w1).mono ?_;rintro e w2 ⟨rfl,aI⟩;have bp:Hid _:=aY.out.trans (aI.mono aY.out.size);clear aI HOB aY;go_wp2_with fail;refine(Gg.out w2 bp.out).mono ?_;rintro e w3 ⟨bU,t,a,m,c,d,k,q,rfl,HN⟩;have cF:Hid _:=bp.out.trans (bU.mono bp.out.size);obtain⟨W4,nL⟩:∃W4,W4=w3.alloc (By #[J a m c,J d k q] 27):=⟨_,rfl⟩;have eP:Below w3.heap.size w3 W4:=by rw[nL];exact(Ib _ _).alloc (Ic _) _
 have fE:Hid _:=cF.out.trans (eP.mono cF.out.size);have LH:W4.heap[w3.heap.size]?=AI (By #[J a m c,J d k q] 27 (0,0)):=by rw[nL];exact Ii w3 _
 have x0:=ae LH 0;have x1:=ae LH 1;have HC:=HRU.out W4 t a m c d k q fE.out ⟨HN.out.1.below eP,HN.out.2.1⟩;clear bU eP LH Gg bp cF HN HRU;go_upto_region 4 with fail
 rw[<- nL];clear nL;go_wp2_with fail;refine HC.mono ?_;rintro e w5 ⟨jz,a5,k5,c5,b5,m5,d5,rfl⟩;have gX:Hid _:=fE.out.trans (jz.mono fE.out.size);clear jz HC x0 x1;go_wp2_with fail;go_ret;exact⟨rfl,gX.out⟩
end Go.Proofs.YtfidhgjmifendaaGreatDoor
namespace Go.Proofs.YtfidhgjmifendaaGreatDoor
namespace Sv
open Go.ChangeShapes Go.WideShapes Go.ChangeAt Go.RowKit
section
variable {H:Type} {enc:TypeId × Value→H} {w:World} {base:Nat} {spare:Nat→Bool} {held:Bool}
theorem Tryz.kcT:Tryz.prog.cellsOf 46=9:=by kernel_rfl
theorem Tryz.kc9:Tryz.prog.cellsOf 9=1:=by kernel_rfl
theorem Tryz.Mk:Tryz.prog.cellsOf 3=1:=by kernel_rfl
theorem Tryz.kc4:Tryz.prog.cellsOf 4=1:=by kernel_rfl
theorem Ah{fuel:Nat}{cs:List Value}{x:DataW H×List MemPlace}(h:DataW.trod enc AS w base spare held fuel 46 cs=AI x) :
 ∃m:aW,cs=[Y m.node,Y m.bq,Y m.name,Y m.tag,U O m.addr,U O m.port,Ia m.aj,U O m.version,Ia m.gone]/\(m).ok:=by
 obtain⟨xs,n,_,_,hl,hlen,hf⟩:=DataW.trod_struct Tryz.underlying46 h;rw[Tryz.kcT] at hl
 match cs,hl with
 |[c0,c1,c2,c3,c4,c5,c6,c7,c8],_=>
  match xs,hlen with
  |[y0,y1,y2,y3,y4,y5,y6,y7,y8],_=>
   have h0:=hf 0 _ rfl;have h1:=hf 1 _ rfl;have h2:=hf 2 _ rfl;have h3:=hf 3 _ rfl;have h4:=hf 4 _ rfl;have h5:=hf 5 _ rfl;have h6:=hf 6 _ rfl;have h7:=hf 7 _ rfl;have h8:=hf 8 _ rfl;simp[Tryz.kc9] at h0;simp[Tryz.kc9] at h1;simp[Tryz.kc9] at h2;simp[Tryz.kc9] at h3;simp[Tryz.Mk] at h4;simp[Tryz.Mk] at h5;simp[Tryz.kc4] at h6;simp[Tryz.Mk] at h7;simp[Tryz.kc4] at h8;obtain⟨z0,e0,_,g0⟩:=QF Jb h0;obtain⟨z1,e1,_,g1⟩:=QF Jb h1;obtain⟨z2,e2,_,g2⟩:=QF Jb h2;obtain⟨z3,e3,_,g3⟩:=QF Jb h3;obtain⟨z4,e4,_⟩:=JZ IF h4;obtain⟨z5,e5,_⟩:=JZ IF h5;obtain⟨z6,e6,_⟩:=DataW.trod_bool JT h6;obtain⟨z7,e7,_⟩:=JZ IF h7;obtain⟨z8,e8,_⟩:=DataW.trod_bool JT h8;simp only[OX,and_true] at e0 e1 e2 e3 e4 e5 e6 e7 e8;subst e0 e1 e2 e3 e4 e5 e6 e7 e8;exact⟨⟨z0,z1,z2,z3,z4,z5,z6,z7,z8⟩,rfl,⟨g0,g1,g2,g3⟩⟩
end
end Sv
end Go.Proofs.YtfidhgjmifendaaGreatDoor
namespace Go.Proofs.YtfidhgjmifendaaGreatDoor
open Go.ChangeShapes Go.WideShapes Go.ChangeAt Go.RowKit
section
variable {H:Type} {enc:TypeId × Value→H} {w:World} {base:Nat} {spare:Nat→Bool} {held:Bool}
theorem Tryz.kcE:Tryz.prog.cellsOf 59=19:=by kernel_rfl
theorem Tryz.agi:Tryz.prog.cellsOf 46=9:=by kernel_rfl
theorem Tryz.Pe:Tryz.prog.cellsOf 3=1:=by kernel_rfl
theorem Tryz.agj:Tryz.prog.cellsOf 9=1:=by kernel_rfl
theorem Cv{fuel:Nat}{cs:List Value}{x:DataW H×List MemPlace}(h:DataW.trod enc AS w base spare held fuel 59 cs=AI x) :
 ∃v:Ev,cs=(Ch v).toList/\v.Ok:=by
 obtain⟨xs,n,_,_,hl,hlen,hf⟩:=DataW.trod_struct Tryz.underlying59 h;rw[Tryz.kcE] at hl
 match cs,hl with
 |[c0,c1,c2,c3,c4,c5,c6,c7,c8,c9,c10,c11,c12,c13,c14,c15,c16,c17,c18],_=>
  match xs,hlen with
  |[y0,y1,y2,y3,y4,y5,y6],_=>
   have h0:=hf 0 _ rfl;have h1:=hf 1 _ rfl;have h2:=hf 2 _ rfl;have h3:=hf 3 _ rfl;have h4:=hf 4 _ rfl;have h5:=hf 5 _ rfl;have h6:=hf 6 _ rfl;simp[Tryz.Pe] at h0;simp[Tryz.Pe] at h1;simp[Tryz.Pe] at h2;simp[Tryz.Pe] at h3;simp[Tryz.agj] at h4;simp[Wh.kcP] at h5;simp[Tryz.agi] at h6;obtain⟨i0,e0,_,w0⟩:=JZ IF h0;obtain⟨i1,e1,_,_⟩:=JZ IF h1;obtain⟨i2,e2,_,_⟩:=JZ IF h2;obtain⟨i3,e3,_,_⟩:=JZ IF h3;obtain⟨s,e4,_,w4⟩:=QF Jb h4;obtain⟨a,b,c,d,e,e5⟩:=Wh.yr h5;obtain⟨sv,e6,w6⟩:=Sv.Ah h6;simp only[OX,and_true] at e0 e1 e2 e3 e4 e5 e6;obtain⟨r1,r2,r3,r4,r5⟩:=e5;obtain⟨q1,q2,q3,q4,q5,q6,q7,q8,q9⟩:=e6;subst e0 e1 e2 e3 e4 r1 r2 r3 r4 r5 q1 q2 q3 q4 q5 q6 q7 q8 q9;exact⟨⟨i0,i1,i2,i3,s,⟨a,b,c,d,e⟩,sv⟩,rfl,w0,w4,w6⟩
theorem yh{r:Reach}{b0:Nat}{v:Value}{d:DataW H}{p:List MemPlace}(hv:Value.okWide AS w r b0 22 v)(h:DataW.Trod enc AS w base spare held 22 v d p) :
 ∃(l:List Ev) (a:Option Addr) (c:Nat),v=J a l.length c/\FX w a l/\l.length<=Io:=by
 obtain⟨a,len,cap,rfl⟩:=okWide_slice Tryz.underlying22 hv;obtain⟨fuel,hf⟩:=h;rcases Go.Deep.open_slice Tryz.underlying22 hf with⟨bZ,_⟩|⟨x,anI,anJ,m,n,D,Pl,bZ,hb,hl,hm,Ml,_,hx⟩
 .simp only[Value.cells,OX,and_true,Value.slice.injEq] at bZ
  obtain⟨rfl,rfl,rfl⟩:=bZ;exact⟨[],be,0,rfl,⟨λv hv=>(by cases hv),λk hk=>absurd hk (by simp)⟩,by simp⟩
 .simp only[Value.cells,OX,and_true,Value.slice.injEq] at bZ
  obtain⟨rfl,rfl,rfl⟩:=bZ;have hlm:len<=m:=by rw[Ml];split<;>omega
  have kp:∀i,i<len->∃q:Ev,q.Ok/\∀t,t<19->w.cell? (x.add (i*19+t))=(Ch q).toList[t]?:=λi hi=>by
   obtain⟨cs',h1,h2⟩:=hx i (by omega);obtain⟨q,hq,hs⟩:=Cv h2;rw[Tryz.kcE] at h1;obtain⟨_,_,h3⟩:=World.cells?_some h1;refine⟨q,hs,λt ht=>?_⟩;rw[<- Go.Deep.add_add,h3 t ht,hq]
  have ael:Inhabited Ev:=⟨Mf⟩;obtain⟨F,hF⟩:=Go.Deep.choose_lt (α:=Ev) (p:=λi q=>q.Ok/\∀t,t<19->w.cell? (x.add (i*19+t))=(Ch q).toList[t]?) kp;have kB:∀j,j<len->((JC len).map F).getD j Mf=F j:=λj hj=>by simp[Iq,hj]
  refine⟨(JC len).map F,AI x,cap,by simp,⟨λv hv=>?_,λk hk=>?_⟩,by simp;omega⟩
  .obtain⟨j,hj,rfl⟩:=List.mem_map.1 hv
   exact(hF j (List.mem_range.1 hj)).1
  .have Nb:k<len:=by simpa using hk
   obtain⟨b,off,spot⟩:=x;have hc0:=(hF 0 (by omega)).2 0 (by omega);have aaK:spot=be:=by simpa[Addr.add] using World.cell?_spot hc0
   subst aaK;refine⟨b,off,rfl,λi v hi=>?_⟩;rw[kB k Nb] at hi;have hi2:=(List.getElem?_eq_some_iff.1 hi).1;have:=(hF k Nb).2 i hi2;rw[Go.WideShapes.add_plain,<- Nat.add_assoc,hi] at this;exact this
end
end Go.Proofs.YtfidhgjmifendaaGreatDoor
