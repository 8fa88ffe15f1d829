import Derived.Test.YtfidhgjmifendaaGreatDoorns47
import Derived.Test.YtfidhgjmifendaaGreatDoorns46
set_option maxHeartbeats 25600000
set_option maxRecDepth 100000
open Go.Value renaming pointer→Ie,agg→Ij,string→Y,slice→J,int→U,tuple→Ik,bool→Ia
open Go.IntKind renaming i64→O
open Go.Ending renaming returned→AT
open Option renaming some→AI,none→be
open Go.Proofs.Tryz renaming prog→AS
open Go.Obj renaming cells→By
open Go.RowKit.Below renaming refl→Ib
open Nat renaming le_refl→Ic,le_trans→Ir,reduceAdd→Jf,zero_add→IC
open Array renaming getElem?_eq_some_iff→BY
open List renaming length_set→IM,getD→Ip,getElem?_set_self→Of,getElem?_set_ne→JQ,getElem?_toArray→QE,getElem?_eq_getElem→If,getElem_of_mem→IX,map_set→QO,mem_or_eq_of_mem_set→Jm,getElem_mem→IJ,mem_map_of_mem→OI,mem_map→OY,pairwise_iff_getElem→I3,length_append→Ig,mem_append→Jq,mem_singleton→I8,length_eraseIdx_le→Ui,mem_of_mem_eraseIdx→JI,length_map→JJ,mem_cons_of_mem→J3,mem_cons_self→J2,length_cons→Iw
open Go.World renaming block_lt_of_cell?→Iy,drew→JD,cell?_setCell_far→JO,cell?_drew→Qh
open Go renaming heap_alloc_new→Ih,maxLen→Il
open Go.Proofs renaming enters_of→Jj
open Bool renaming and_eq_true→IF
namespace Go.Proofs.YtfidhgjmifendaaGreatDoor
open Go.RowKit
theorem CD(g:Nat)(er:Int)(w:World)(he:er≠0) :
 Calls AS 84 #[Ie (AI ⟨g,0,be⟩),Ij #[Y ⟨#[]⟩,Y ⟨#[]⟩,J be 0 0,J be 0 0,J be 0 0,J be 0 0,U O 0,U O 0,U O 0,U O 0,U O 0,J be 0 0],U O er] w λe w'=>e=AT (U O er)/\Below w.heap.size w w':=by
 have hd:(er==0)=false:=by simpa using he
 have HB:Hid (Below w.heap.size w (w.alloc (By #[Y ⟨#[]⟩,Y ⟨#[]⟩,J be 0 0,J be 0 0,J be 0 0,J be 0 0,U O 0,U O 0,U O 0,U O 0,U O 0,J be 0 0] 42))):=(Ib _ _).alloc (Ic _) _;clear he;go_enter Tryz.func84,Tryz.ntmps84;go_wp2_with fail;go_ret;exact⟨rfl,HB.out⟩
structure sH(pb g nb:Nat)(ul:Value)(v:Ev)(L:List Nx)(W:World):Prop where
 pb:W.heap[pb]?=AI (By #[Ie (AI ⟨g,0,be⟩)] 70 (0,0))
 pl:W.heap[g]?=AI (By (Vi (J (AI ⟨nb,0,be⟩) L.length L.length) ul v) 72 (0,0))
 nm:∀i,i<L.length->W.cell? ⟨nb,i*12,be⟩=AI (Y (L.getD i bZ).n.name)
def Pd(C:Nat)(w:World)(g nb j:Nat)(ul:Value)(ls:List Lt.fg)(v:Ev)(L:List Nx)(er:Int)(n':Nd)(w':World):Prop:=Below C w w'/\(er=0->∃y,y.n=n'/\cM C w' nb (L.set j y)/\kN C w' g (J (AI ⟨nb,0,be⟩) L.length L.length) ul ls v)
def OkA(C:Nat)(A:Array Value)(er:Int)(n':Nd)(W:World):Prop:=(er≠0/\A=#[Y ⟨#[]⟩,Y ⟨#[]⟩,J be 0 0,J be 0 0,J be 0 0,J be 0 0,U O 0,U O 0,U O 0,U O 0,U O 0,J be 0 0])\/(er=0/\∃y:Nx,A=dv y.n y.vm y.vr y.vs y.vg y.vw/\y.n=n'/\cP C W y.n y.vm y.vr y.vs y.vg y.vw/\iw y.n)
theorem cM.names{C nb:Nat}{w:World}{L:List Nx}(h:cM C w nb L):∀i,i<L.length->w.cell? ⟨nb,i*12,be⟩=AI (Y (L.getD i bZ).n.name):=λi hi=>by
 have:=h.cell hi 0 (by omega);simpa[Nx.cs,dv] using this
theorem mr(C g nb pb j kf:Nat)(F:Value->Array Value)(ul:Value)(ls:List Lt.fg)(v:Ev)(L:List Nx)(er:Int)(n':Nd)(w:World)(h:kN C w g (J (AI ⟨nb,0,be⟩) L.length L.length) ul ls v)(hN:cM C w nb L)(hC:C<=w.heap.size)(hv:v.which=(j:Int))(hj:j<L.length)(he:(L.getD j bZ).n.e=0)(hp:w.heap[pb]?=AI (By #[Ie (AI ⟨g,0,be⟩)] 70 (0,0)))(cZ:n'.name=(L.getD j bZ).n.name)(uQ:∀W vm vr vs vg vw,eY W (L.getD j bZ).n vm vr vs vg vw->Calls AS kf (F (Ij (dv (L.getD j bZ).n vm vr vs vg vw))) W λe w'=>dB (L.getD j bZ).n.e er n' W e w') :
 sH pb g nb ul v L w/\(Unit->Calls AS 85 #[Ie (AI ⟨g,0,be⟩)] w.drew λe w'=>e=AT (Ij (dv (L.getD j bZ).n (L.getD j bZ).vm (L.getD j bZ).vr (L.getD j bZ).vs (L.getD j bZ).vg (L.getD j bZ).vw))/\sH pb g nb ul v L w'/\Hid (Below w.heap.size w w')) /\
 (∀W,Below w.heap.size w W->Calls AS kf (F (Ij (dv (L.getD j bZ).n (L.getD j bZ).vm (L.getD j bZ).vr (L.getD j bZ).vs (L.getD j bZ).vg (L.getD j bZ).vw))) W λe w'=>∃A,e=AT (Ik #[Ij A,U O er])/\sH pb g nb ul v L w'/\Hid (Below w.heap.size w w'/\OkA C A er n' w')) /\
 (∀W A,Below w.heap.size w W/\OkA C A er n' W->Calls AS 84 #[Ie (AI ⟨g,0,be⟩),Ij A,U O er] W λe w'=>e=AT (U O er)/\sH pb g nb ul v L w'/\Hid (Pd C w g nb j ul ls v L er n' w')):=by
 have Mo:=(BY.1 hp).1;have Hw:pb≠nb:=λe=>by
  have h1:=hN.row;rw[<- e,hp] at h1;simp at h1
 have hS:∀W,Below w.heap.size w W->sH pb g nb ul v L W:=λW hW=>⟨(hW.block pb Mo).trans hp,(h.below hW).hg,(hN.below hW hC).names⟩;refine⟨hS w (Ib _ _),λ_=>?_,λW hW=>?_,?_⟩
 .refine(yc C g nb j L.length L.length L w.drew (hN.below (cF (Ib _ _)) hC) hj rfl (ae h.hg 0) (by rw[<- hv];exact ae h.hg 3)).mono ?_
  rintro e w' ⟨he,hb⟩;have aK:=(cF (Ib w.heap.size w)).trans hb;exact⟨he,hS w' aK,aK⟩
 .refine(uQ W _ _ _ _ _ (((hN.own _ (gv hj)).is (hN.ok _ (gv hj))).below hW)).mono ?_
  rintro e w' ⟨hb,⟨aQ,_⟩|⟨_,aQ,rfl⟩|⟨_,hz,um,ur,us,ug,uw,rfl,ho,hk⟩⟩
  .exact absurd he aQ
  .have aK:=hW.trans (hb.mono hW.size)
   exact⟨_,rfl,hS w' aK,aK,.inl ⟨aQ,rfl⟩⟩
  .have aK:=hW.trans (hb.mono hW.size)
   exact⟨_,by rw[hz],hS w' aK,aK,.inr ⟨hz,⟨n',um,ur,us,ug,uw⟩,rfl,rfl,ho.mono (Ir hC hW.size),hk⟩⟩
 .rintro W A ⟨hW,⟨aQ,rfl⟩|⟨hz,y,rfl,hy,ho,hk⟩⟩
  .refine(CD g er W aQ).mono ?_
   rintro e w' ⟨rfl,hb⟩;have aK:=hW.trans (hb.mono hW.size);exact⟨rfl,hS w' aK,aK.mono hC,λhz=>absurd hz aQ⟩
  .subst hz
   refine(CA C g nb j ul ls v L y W (h.below hW) (hN.below hW hC) (Ir hC hW.size) hv hj ho hk).mono ?_;rintro e w' ⟨rfl,hb,h1,h2,h3⟩;have hpW:=(hW.block pb Mo).trans hp;refine⟨rfl,⟨(h3 pb Hw (Nat.lt_of_lt_of_le Mo hW.size)).trans hpW,h2.hg,λi hi=>?_⟩,(hW.mono hC).trans hb,λ_=>⟨y,hy,h1,h2⟩⟩;have h4:=h1.names i (by rw[IM];exact hi);rw[h4];by_cases iS:i=j
   .subst iS
    rw[Ip,Of hi,Option.getD_some,hy,cZ]
   .rw[Ip,JQ (Ne.symm iS),Ip]
theorem yu(C g nb pb j:Nat)(ul:Value)(ls:List Lt.fg)(v:Ev)(L:List Nx)(er:Int)(n':Nd)(w:World)(h:kN C w g (J (AI ⟨nb,0,be⟩) L.length L.length) ul ls v)(hN:cM C w nb L)(hC:C<=w.heap.size)(hv:v.which=(j:Int))(hj:j<L.length)(he:(L.getD j bZ).n.e=0)(hp:w.heap[pb]?=AI (By #[Ie (AI ⟨g,0,be⟩)] 70 (0,0)))(cZ:n'.name=(L.getD j bZ).n.name)(uQ:∀W vm vr vs vg vw,eY W (L.getD j bZ).n vm vr vs vg vw->Calls AS 25 #[Ij (dv (L.getD j bZ).n vm vr vs vg vw),Y v.name] W λe w'=>dB (L.getD j bZ).n.e er n' W e w') :
 Calls AS 83 #[Ie (AI ⟨pb,0,be⟩)] w λe w'=>e=AT (U O er)/\Pd C w g nb j ul ls v L er n' w':=by
 obtain⟨eK,hW,hO,hB⟩:=mr C g nb pb j 25 (λx=>#[x,Y v.name]) ul ls v L er n' w h hN hC hv hj he hp cZ uQ;have HW:Hid _:=hW;have HO:Hid _:=hO;have HB:Hid _:=hB;have HS:Hid (∀W,sH pb g nb ul v L W->W.cell? ⟨pb,0,be⟩=AI (Ie (AI ⟨g,0,be⟩))/\W.cell? ⟨g,6,be⟩=AI (Y v.name)):=λW h=>⟨ae h.pb 0,ae h.pl 6⟩;have Vz:=HS.out w eK;clear hW hO hB eK h hN hv he hp cZ uQ;generalize(L.getD j bZ)=x at *;generalize AX:v.name=a0 at *;clear AX;generalize L.length=nl at *;go_enter Tryz.func83,Tryz.ntmps83;go_wp2_with fail;go_region_held3 (λW=>W.cell? ⟨pb,0,be⟩=AI (Ie (AI ⟨g,0,be⟩))/\W.cell? ⟨g,6,be⟩=AI (Y a0)) (first|assumption|go_keep) (first|(go_at_call 85;refine(HW.out ()).mono ?_;rintro e w1 ⟨rfl,ft,ba⟩;have VA:=HS.out _ ft)|(go_at_call 25;refine(HO.out _ ba.out).mono ?_;rintro e w2 ⟨A,rfl,iv,bu⟩;have VB:=HS.out _ iv)|(go_at_call 84;refine(HB.out _ _ bu.out).mono ?_;rintro e w3 ⟨rfl,sn,HR⟩;have VC:=HS.out _ sn))
 go_wp2_with fail;go_ret;exact⟨rfl,HR.out⟩
theorem Ag(C g nb pb j:Nat)(ul:Value)(ls:List Lt.fg)(v:Ev)(L:List Nx)(er:Int)(n':Nd)(w:World)(h:kN C w g (J (AI ⟨nb,0,be⟩) L.length L.length) ul ls v)(hN:cM C w nb L)(hC:C<=w.heap.size)(hv:v.which=(j:Int))(hj:j<L.length)(he:(L.getD j bZ).n.e=0)(hp:w.heap[pb]?=AI (By #[Ie (AI ⟨g,0,be⟩)] 70 (0,0)))(cZ:n'.name=(L.getD j bZ).n.name)(uQ:∀W vm vr vs vg vw,eY W (L.getD j bZ).n vm vr vs vg vw->Calls AS 87 #[Ij (dv (L.getD j bZ).n vm vr vs vg vw),Y v.name] W λe w'=>dB (L.getD j bZ).n.e er n' W e w') :
 Calls AS 86 #[Ie (AI ⟨pb,0,be⟩)] w λe w'=>e=AT (U O er)/\Pd C w g nb j ul ls v L er n' w':=by
 obtain⟨eK,hW,hO,hB⟩:=mr C g nb pb j 87 (λx=>#[x,Y v.name]) ul ls v L er n' w h hN hC hv hj he hp cZ uQ;have HW:Hid _:=hW;have HO:Hid _:=hO;have HB:Hid _:=hB;have HS:Hid (∀W,sH pb g nb ul v L W->W.cell? ⟨pb,0,be⟩=AI (Ie (AI ⟨g,0,be⟩))/\W.cell? ⟨g,6,be⟩=AI (Y v.name)):=λW h=>⟨ae h.pb 0,ae h.pl 6⟩;have Vz:=HS.out w eK;clear hW hO hB eK h hN hv he hp cZ uQ;generalize(L.getD j bZ)=x at *;generalize AX:v.name=a0 at *;clear AX;generalize L.length=nl at *;go_enter Tryz.func86,Tryz.ntmps86;go_wp2_with fail;go_region_held3 (λW=>W.cell? ⟨pb,0,be⟩=AI (Ie (AI ⟨g,0,be⟩))/\W.cell? ⟨g,6,be⟩=AI (Y a0)) (first|assumption|go_keep) (first|(go_at_call 85;refine(HW.out ()).mono ?_;rintro e w1 ⟨rfl,ft,ba⟩;have VA:=HS.out _ ft)|(go_at_call 87;refine(HO.out _ ba.out).mono ?_;rintro e w2 ⟨A,rfl,iv,bu⟩;have VB:=HS.out _ iv)|(go_at_call 84;refine(HB.out _ _ bu.out).mono ?_;rintro e w3 ⟨rfl,sn,HR⟩;have VC:=HS.out _ sn))
 go_wp2_with fail;go_ret;exact⟨rfl,HR.out⟩
theorem yx(C g nb pb j:Nat)(ul:Value)(ls:List Lt.fg)(v:Ev)(L:List Nx)(er:Int)(n':Nd)(w:World)(h:kN C w g (J (AI ⟨nb,0,be⟩) L.length L.length) ul ls v)(hN:cM C w nb L)(hC:C<=w.heap.size)(hv:v.which=(j:Int))(hj:j<L.length)(he:(L.getD j bZ).n.e=0)(hp:w.heap[pb]?=AI (By #[Ie (AI ⟨g,0,be⟩)] 70 (0,0)))(cZ:n'.name=(L.getD j bZ).n.name)(uQ:∀W vm vr vs vg vw,eY W (L.getD j bZ).n vm vr vs vg vw->Calls AS 89 #[Ij (dv (L.getD j bZ).n vm vr vs vg vw)] W λe w'=>dB (L.getD j bZ).n.e er n' W e w') :
 Calls AS 88 #[Ie (AI ⟨pb,0,be⟩)] w λe w'=>e=AT (U O er)/\Pd C w g nb j ul ls v L er n' w':=by
 obtain⟨eK,hW,hO,hB⟩:=mr C g nb pb j 89 (λx=>#[x]) ul ls v L er n' w h hN hC hv hj he hp cZ uQ;have HW:Hid _:=hW;have HO:Hid _:=hO;have HB:Hid _:=hB;have HS:Hid (∀W,sH pb g nb ul v L W->W.cell? ⟨pb,0,be⟩=AI (Ie (AI ⟨g,0,be⟩))):=λW h=>ae h.pb 0;have Vz:=HS.out w eK;clear hW hO hB eK h hN hv he hp cZ uQ;generalize(L.getD j bZ)=x at *;generalize L.length=nl at *;go_enter Tryz.func88,Tryz.ntmps88;go_wp2_with fail;go_region_held3 (λW=>W.cell? ⟨pb,0,be⟩=AI (Ie (AI ⟨g,0,be⟩))) (first|assumption|go_keep) (first|(go_at_call 85;refine(HW.out ()).mono ?_;rintro e w1 ⟨rfl,ft,ba⟩;have VA:=HS.out _ ft)|(go_at_call 89;refine(HO.out _ ba.out).mono ?_;rintro e w2 ⟨A,rfl,iv,bu⟩;have VB:=HS.out _ iv)|(go_at_call 84;refine(HB.out _ _ bu.out).mono ?_;rintro e w3 ⟨rfl,sn,HR⟩;have VC:=HS.out _ sn))
 go_wp2_with fail;go_ret;exact⟨rfl,HR.out⟩
theorem yy(C g nb pb j:Nat)(ul:Value)(ls:List Lt.fg)(v:Ev)(L:List Nx)(er:Int)(n':Nd)(w:World)(h:kN C w g (J (AI ⟨nb,0,be⟩) L.length L.length) ul ls v)(hN:cM C w nb L)(hC:C<=w.heap.size)(hv:v.which=(j:Int))(hj:j<L.length)(he:(L.getD j bZ).n.e=0)(hp:w.heap[pb]?=AI (By #[Ie (AI ⟨g,0,be⟩)] 70 (0,0)))(cZ:n'.name=(L.getD j bZ).n.name)(k:Nat)(ho:v.other=(k:Int))(hk:k<L.length)(uQ:∀W vm vr vs vg vw,eY W (L.getD j bZ).n vm vr vs vg vw->Calls AS 91 #[Ij (dv (L.getD j bZ).n vm vr vs vg vw),Y (L.getD k bZ).n.name,Ij #[U O v.p.x,U O v.p.y,U O v.p.z,U O v.p.h,U O v.p.s],U O v.n] W λe w'=>dB (L.getD j bZ).n.e er n' W e w') :
 Calls AS 90 #[Ie (AI ⟨pb,0,be⟩)] w λe w'=>e=AT (U O er)/\Pd C w g nb j ul ls v L er n' w':=by
 obtain⟨eK,hW,hO,hB⟩:=mr C g nb pb j 91 (λx=>#[x,Y (L.getD k bZ).n.name,Ij #[U O v.p.x,U O v.p.y,U O v.p.z,U O v.p.h,U O v.p.s],U O v.n]) ul ls v L er n' w h hN hC hv hj he hp cZ uQ;have HW:Hid _:=hW;have HO:Hid _:=hO;have HB:Hid _:=hB;have HS:Hid (∀W,sH pb g nb ul v L W->W.cell? ⟨pb,0,be⟩=AI (Ie (AI ⟨g,0,be⟩))/\W.cell? ⟨g,0,be⟩=AI (J (AI ⟨nb,0,be⟩) L.length L.length)/\W.cell? ⟨g,4,be⟩=AI (U O (k:Int))/\W.cell? ⟨nb,k*12,be⟩=AI (Y (L.getD k bZ).n.name)/\W.cell? ⟨g,5,be⟩=AI (U O v.n)/\W.cell? ⟨g,7,be⟩=AI (U O v.p.x)/\W.cell? ⟨g,8,be⟩=AI (U O v.p.y)/\W.cell? ⟨g,9,be⟩=AI (U O v.p.z)/\W.cell? ⟨g,10,be⟩=AI (U O v.p.h)/\W.cell? ⟨g,11,be⟩=AI (U O v.p.s)):=λW h=>⟨ae h.pb 0,ae h.pl 0,(by rw[<- ho];exact ae h.pl 4),h.nm k hk,ae h.pl 5,ae h.pl 7,ae h.pl 8,ae h.pl 9,ae h.pl 10,ae h.pl 11⟩;have xL:(0:Int)<=(k:Int):=by omega
 have jn:(k:Int)<(L.length:Int):=by omega
 have jJ:((k:Int)).toNat=k:=by omega
 have Vz:=HS.out w eK;clear hW hO hB eK h hN hv he hp cZ uQ;generalize(L.getD j bZ)=x at *;generalize AX:v.n=a0 at *;clear AX;generalize AW:(L.getD k bZ).n.name=a1 at *;clear AW;generalize P5:v.p.x=a2 at *;clear P5;generalize zz:v.p.y=a3 at *;clear zz;generalize hv4:v.p.z=a4 at *;clear hv4;generalize hv5:v.p.h=a5 at *;clear hv5;generalize Kk:v.p.s=a6 at *;clear Kk;generalize L.length=nl at *;go_enter Tryz.func90,Tryz.ntmps90;go_wp2_with fail;go_region_held3 (λW=>W.cell? ⟨pb,0,be⟩=AI (Ie (AI ⟨g,0,be⟩))/\W.cell? ⟨g,0,be⟩=AI (J (AI ⟨nb,0,be⟩) nl nl)/\W.cell? ⟨g,4,be⟩=AI (U O (k:Int))/\W.cell? ⟨nb,k*12,be⟩=AI (Y a1)/\W.cell? ⟨g,5,be⟩=AI (U O a0)/\W.cell? ⟨g,7,be⟩=AI (U O a2)/\W.cell? ⟨g,8,be⟩=AI (U O a3)/\W.cell? ⟨g,9,be⟩=AI (U O a4)/\W.cell? ⟨g,10,be⟩=AI (U O a5)/\W.cell? ⟨g,11,be⟩=AI (U O a6)) (first|assumption|go_keep) (first|(go_at_call 85;refine(HW.out ()).mono ?_;rintro e w1 ⟨rfl,ft,ba⟩;have VA:=HS.out _ ft)|(go_at_call 91;refine(HO.out _ ba.out).mono ?_;rintro e w2 ⟨A,rfl,iv,bu⟩;have VB:=HS.out _ iv)|(go_at_call 84;refine(HB.out _ _ bu.out).mono ?_;rintro e w3 ⟨rfl,sn,HR⟩;have VC:=HS.out _ sn))
 go_wp2_with fail;go_ret;exact⟨rfl,HR.out⟩
theorem yz(C g nb pb j:Nat)(ul:Value)(ls:List Lt.fg)(v:Ev)(L:List Nx)(er:Int)(n':Nd)(w:World)(h:kN C w g (J (AI ⟨nb,0,be⟩) L.length L.length) ul ls v)(hN:cM C w nb L)(hC:C<=w.heap.size)(hv:v.which=(j:Int))(hj:j<L.length)(he:(L.getD j bZ).n.e=0)(hp:w.heap[pb]?=AI (By #[Ie (AI ⟨g,0,be⟩)] 70 (0,0)))(cZ:n'.name=(L.getD j bZ).n.name)(uQ:∀W vm vr vs vg vw,eY W (L.getD j bZ).n vm vr vs vg vw->Calls AS 93 #[Ij (dv (L.getD j bZ).n vm vr vs vg vw),Ij #[Y v.s.node,Y v.s.bP,Y v.s.name,Y v.s.tag,U O v.s.addr,U O v.s.port,Ia v.s.an,U O v.s.version,Ia v.s.gone]] W λe w'=>dB (L.getD j bZ).n.e er n' W e w') :
 Calls AS 92 #[Ie (AI ⟨pb,0,be⟩)] w λe w'=>e=AT (U O er)/\Pd C w g nb j ul ls v L er n' w':=by
 obtain⟨eK,hW,hO,hB⟩:=mr C g nb pb j 93 (λx=>#[x,Ij #[Y v.s.node,Y v.s.bP,Y v.s.name,Y v.s.tag,U O v.s.addr,U O v.s.port,Ia v.s.an,U O v.s.version,Ia v.s.gone]]) ul ls v L er n' w h hN hC hv hj he hp cZ uQ;have HW:Hid _:=hW;have HO:Hid _:=hO;have HB:Hid _:=hB;have HS:Hid (∀W,sH pb g nb ul v L W->W.cell? ⟨pb,0,be⟩=AI (Ie (AI ⟨g,0,be⟩))/\W.cell? ⟨g,12,be⟩=AI (Y v.s.node)/\W.cell? ⟨g,13,be⟩=AI (Y v.s.bP)/\W.cell? ⟨g,14,be⟩=AI (Y v.s.name)/\W.cell? ⟨g,15,be⟩=AI (Y v.s.tag)/\W.cell? ⟨g,16,be⟩=AI (U O v.s.addr)/\W.cell? ⟨g,17,be⟩=AI (U O v.s.port)/\W.cell? ⟨g,18,be⟩=AI (Ia v.s.an)/\W.cell? ⟨g,19,be⟩=AI (U O v.s.version)/\W.cell? ⟨g,20,be⟩=AI (Ia v.s.gone)):=λW h=>⟨ae h.pb 0,ae h.pl 12,ae h.pl 13,ae h.pl 14,ae h.pl 15,ae h.pl 16,ae h.pl 17,ae h.pl 18,ae h.pl 19,ae h.pl 20⟩;have Vz:=HS.out w eK;clear hW hO hB eK h hN hv he hp cZ uQ;generalize(L.getD j bZ)=x at *;generalize AX:v.s.node=a0 at *;clear AX;generalize AW:v.s.bP=a1 at *;clear AW;generalize P5:v.s.name=a2 at *;clear P5;generalize zz:v.s.tag=a3 at *;clear zz;generalize hv4:v.s.addr=a4 at *;clear hv4;generalize hv5:v.s.port=a5 at *;clear hv5;generalize Kk:v.s.an=a6 at *;clear Kk;generalize hv7:v.s.version=a7 at *;clear hv7;generalize hv8:v.s.gone=a8 at *;clear hv8;generalize L.length=nl at *;go_enter Tryz.func92,Tryz.ntmps92;go_wp2_with fail;go_region_held3 (λW=>W.cell? ⟨pb,0,be⟩=AI (Ie (AI ⟨g,0,be⟩))/\W.cell? ⟨g,12,be⟩=AI (Y a0)/\W.cell? ⟨g,13,be⟩=AI (Y a1)/\W.cell? ⟨g,14,be⟩=AI (Y a2)/\W.cell? ⟨g,15,be⟩=AI (Y a3)/\W.cell? ⟨g,16,be⟩=AI (U O a4)/\W.cell? ⟨g,17,be⟩=AI (U O a5)/\W.cell? ⟨g,18,be⟩=AI (Ia a6)/\W.cell? ⟨g,19,be⟩=AI (U O a7)/\W.cell? ⟨g,20,be⟩=AI (Ia a8)) (first|assumption|go_keep) (first|(go_at_call 85;refine(HW.out ()).mono ?_;rintro e w1 ⟨rfl,ft,ba⟩;have VA:=HS.out _ ft)|(go_at_call 93;refine(HO.out _ ba.out).mono ?_;rintro e w2 ⟨A,rfl,iv,bu⟩;have VB:=HS.out _ iv)|(go_at_call 84;refine(HB.out _ _ bu.out).mono ?_;rintro e w3 ⟨rfl,sn,HR⟩;have VC:=HS.out _ sn))
 go_wp2_with fail;go_ret;exact⟨rfl,HR.out⟩
theorem Ah(C g nb pb j:Nat)(ul:Value)(ls:List Lt.fg)(v:Ev)(L:List Nx)(er:Int)(n':Nd)(w:World)(h:kN C w g (J (AI ⟨nb,0,be⟩) L.length L.length) ul ls v)(hN:cM C w nb L)(hC:C<=w.heap.size)(hv:v.which=(j:Int))(hj:j<L.length)(he:(L.getD j bZ).n.e=0)(hp:w.heap[pb]?=AI (By #[Ie (AI ⟨g,0,be⟩)] 70 (0,0)))(cZ:n'.name=(L.getD j bZ).n.name)(uQ:∀W vm vr vs vg vw,eY W (L.getD j bZ).n vm vr vs vg vw->Calls AS 95 #[Ij (dv (L.getD j bZ).n vm vr vs vg vw),Y v.name] W λe w'=>dB (L.getD j bZ).n.e er n' W e w') :
 Calls AS 94 #[Ie (AI ⟨pb,0,be⟩)] w λe w'=>e=AT (U O er)/\Pd C w g nb j ul ls v L er n' w':=by
 obtain⟨eK,hW,hO,hB⟩:=mr C g nb pb j 95 (λx=>#[x,Y v.name]) ul ls v L er n' w h hN hC hv hj he hp cZ uQ;have HW:Hid _:=hW;have HO:Hid _:=hO;have HB:Hid _:=hB;have HS:Hid (∀W,sH pb g nb ul v L W->W.cell? ⟨pb,0,be⟩=AI (Ie (AI ⟨g,0,be⟩))/\W.cell? ⟨g,6,be⟩=AI (Y v.name)):=λW h=>⟨ae h.pb 0,ae h.pl 6⟩;have Vz:=HS.out w eK;clear hW hO hB eK h hN hv he hp cZ uQ;generalize(L.getD j bZ)=x at *;generalize AX:v.name=a0 at *;clear AX;generalize L.length=nl at *;go_enter Tryz.func94,Tryz.ntmps94;go_wp2_with fail;go_region_held3 (λW=>W.cell? ⟨pb,0,be⟩=AI (Ie (AI ⟨g,0,be⟩))/\W.cell? ⟨g,6,be⟩=AI (Y a0)) (first|assumption|go_keep) (first|(go_at_call 85;refine(HW.out ()).mono ?_;rintro e w1 ⟨rfl,ft,ba⟩;have VA:=HS.out _ ft)|(go_at_call 95;refine(HO.out _ ba.out).mono ?_;rintro e w2 ⟨A,rfl,iv,bu⟩;have VB:=HS.out _ iv)|(go_at_call 84;refine(HB.out _ _ bu.out).mono ?_;rintro e w3 ⟨rfl,sn,HR⟩;have VC:=HS.out _ sn))
 go_wp2_with fail;go_ret;exact⟨rfl,HR.out⟩
theorem Ai(C g nb pb j:Nat)(ul:Value)(ls:List Lt.fg)(v:Ev)(L:List Nx)(er:Int)(n':Nd)(w:World)(h:kN C w g (J (AI ⟨nb,0,be⟩) L.length L.length) ul ls v)(hN:cM C w nb L)(hC:C<=w.heap.size)(hv:v.which=(j:Int))(hj:j<L.length)(he:(L.getD j bZ).n.e=0)(hp:w.heap[pb]?=AI (By #[Ie (AI ⟨g,0,be⟩)] 70 (0,0)))(cZ:n'.name=(L.getD j bZ).n.name)(uQ:∀W vm vr vs vg vw,eY W (L.getD j bZ).n vm vr vs vg vw->Calls AS 97 #[Ij (dv (L.getD j bZ).n vm vr vs vg vw),U O v.n] W λe w'=>dB (L.getD j bZ).n.e er n' W e w') :
 Calls AS 96 #[Ie (AI ⟨pb,0,be⟩)] w λe w'=>e=AT (U O er)/\Pd C w g nb j ul ls v L er n' w':=by
 obtain⟨eK,hW,hO,hB⟩:=mr C g nb pb j 97 (λx=>#[x,U O v.n]) ul ls v L er n' w h hN hC hv hj he hp cZ uQ;have HW:Hid _:=hW;have HO:Hid _:=hO;have HB:Hid _:=hB;have HS:Hid (∀W,sH pb g nb ul v L W->W.cell? ⟨pb,0,be⟩=AI (Ie (AI ⟨g,0,be⟩))/\W.cell? ⟨g,5,be⟩=AI (U O v.n)):=λW h=>⟨ae h.pb 0,ae h.pl 5⟩;have Vz:=HS.out w eK;clear hW hO hB eK h hN hv he hp cZ uQ;generalize(L.getD j bZ)=x at *;generalize AX:v.n=a0 at *;clear AX;generalize L.length=nl at *;go_enter Tryz.func96,Tryz.ntmps96;go_wp2_with fail;go_region_held3 (λW=>W.cell? ⟨pb,0,be⟩=AI (Ie (AI ⟨g,0,be⟩))/\W.cell? ⟨g,5,be⟩=AI (U O a0)) (first|assumption|go_keep) (first|(go_at_call 85;refine(HW.out ()).mono ?_;rintro e w1 ⟨rfl,ft,ba⟩;have VA:=HS.out _ ft)|(go_at_call 97;refine(HO.out _ ba.out).mono ?_;rintro e w2 ⟨A,rfl,iv,bu⟩;have VB:=HS.out _ iv)|(go_at_call 84;refine(HB.out _ _ bu.out).mono ?_;rintro e w3 ⟨rfl,sn,HR⟩;have VC:=HS.out _ sn))
 go_wp2_with fail;go_ret;exact⟨rfl,HR.out⟩
theorem FY(g:Nat)(a:Option Addr)(c:Nat)(t_o:Int)(tx:ByteArray)(w:World)(h:w.cell? ⟨g,1,be⟩=AI (J a 20 c)) :
 Calls AS 143 #[Ie (AI ⟨g,0,be⟩),Ij #[U O t_o,Y tx]] w λe w'=>e=AT (U O 2)/\Below w.heap.size w w':=by
 have du:=Iy w _ h;obtain⟨X,hX⟩:∃X,X=w.alloc (By #[U O t_o,Y tx] 102):=⟨_,rfl⟩;have MU:Below w.heap.size w X:=by rw[hX];exact(Ib _ _).alloc (Ic _) _
 have y1:=(MU.cell (p:=⟨g,1,be⟩) du).trans h;have HB:Hid _:=MU;clear MU h du;go_enter Tryz.func143,Tryz.ntmps143;go_upto_region 1 with fail
 rw[<- hX];clear hX;go_wp2_with fail;go_ret;exact⟨rfl,HB.out⟩
def kV(C:Nat)(w:World)(g:Nat)(un:Value)(ls:List Lt.fg)(v:Ev)(l:Lt.fg)(w':World)(er:Int):Prop:=Mv C w w'/\(ls.length<20->er=0)/\(er=0->ls.length<20/\∃a k c,kN C w' g un (J a k c) (ls++[l]) v)
theorem kV.after{C:Nat}{w W w':World}{g:Nat}{un:Value}{ls:List Lt.fg}{v:Ev}{l:Lt.fg}{er:Int}(h:kV C W g un ls v l w' er)(hW:Below w.heap.size w W)(hC:C<=w.heap.size):kV C w g un ls v l w' er:=⟨(Mv.of hW hC).trans h.1,h.2⟩
theorem Aj(C g:Nat)(un ul:Value)(ls:List Lt.fg)(v:Ev)(t_o:Int)(tx:ByteArray)(w:World)(h:kN C w g un ul ls v)(hC:C<=w.heap.size)(h20:ls.length<=20) :
 Calls AS 143 #[Ie (AI ⟨g,0,be⟩),Ij #[U O t_o,Y tx]] w λe w'=>∃er,e=AT (U O er)/\Hid (kV C w g un ls v ⟨t_o,tx⟩ w' er):=by
 by_cases hl:ls.length<20
 .refine(Kc C g un ul ls v t_o tx w h hC hl).mono ?_
  rintro e w' ⟨rfl,hm,hp⟩;exact⟨0,rfl,hm,λ_=>rfl,λ_=>⟨hl,hp⟩⟩
 .have h2:ls.length=20:=by omega
  obtain⟨a,c,rfl⟩:=aL h.ls;have h1:w.cell? ⟨g,1,be⟩=AI (J a 20 c):=by rw[<- h2];exact ae h.hg 1
  refine(FY g a c t_o tx w h1).mono ?_;rintro e w' ⟨rfl,hb⟩;exact⟨2,rfl,Mv.of hb hC,λh=>absurd h hl,λh=>by cases h⟩
theorem CE(C g j:Nat)(un ul:Value)(ls:List Lt.fg)(v:Ev)(w:World)(h:kN C w g un ul ls v)(hC:C<=w.heap.size)(h20:ls.length<=20)(hv:v.which=(j:Int))(hj:j<ls.length) :
 Calls AS 82 #[Ie (AI ⟨g,0,be⟩)] w λe w'=>∃er,e=AT (U O er)/\Hid (kV C w g un ls v (ls.getD j Lt.dm) w' er):=by
 obtain⟨lb,cu,Mj⟩:∃lb cu,ul=J (AI ⟨lb,0,be⟩) ls.length cu:=by
  rcases h.ls.2 with⟨_,h0⟩|⟨b',c,cur,rfl,_⟩
  .omega
  .exact⟨b',c,rfl⟩
 subst Mj;obtain⟨t_o,tx,hl⟩:∃t_o tx,ls.getD j Lt.dm=⟨t_o,tx⟩:=⟨_,_,rfl⟩;have VD:∀i,i<2->w.cell? ⟨lb,j*2+i,be⟩=[U O t_o,Y tx][i]?:=λi hi=>by
  rw[World.ownsRow.cellAt h.ls _ (by have:=Lt.cQ ls;omega)];have h2:=Lt.ei ls j hj i hi;rw[h2,hl];rfl
 have y1:w.cell? ⟨g,1,be⟩=AI (J (AI ⟨lb,0,be⟩) ls.length cu):=ae h.hg 1;have y3:w.cell? ⟨g,3,be⟩=AI (U O (j:Int)):=by rw[<- hv];exact ae h.hg 3
 have l0:w.cell? ⟨lb,j*2,be⟩=AI (U O t_o):=VD 0 (by omega);have l1:w.cell? ⟨lb,j*2+1,be⟩=AI (Y tx):=VD 1 (by omega);have HS:Hid (∀W,Below w.heap.size w W->Calls AS 143 #[Ie (AI ⟨g,0,be⟩),Ij #[U O t_o,Y tx]] W λe w'=>∃er,e=AT (U O er)/\Hid (kV C w g un ls v ⟨t_o,tx⟩ w' er)):=λW hW=>(Aj C g un _ ls v t_o tx W (h.below hW) (Ir hC hW.size) h20).mono (λe w' hh=>by
  obtain⟨er,h1,h2⟩:=hh;exact⟨er,h1,h2.out.after hW hC⟩)
 have Tz:(j:Int)<(ls.length:Int):=by omega
 have P4:(0:Int)<=(j:Int):=by omega
 have hjt:((j:Int)).toNat=j:=by omega
 have Wx:Hid (Below w.heap.size w w.drew):=cF (Ib _ _);rw[hl];clear VD h hv hj h20 hl;generalize hm:ls.length=m at *;clear hm;go_enter Tryz.func82,Tryz.ntmps82;go_wp2_with fail;go_region_with (first|(go_at_call 143;refine(HS.out _ Wx.out).mono ?_;rintro e w1 ⟨er,rfl,HR⟩))
 all_goals
  go_wp2_with fail;go_ret;exact⟨er,rfl,HR⟩
theorem wS(C g:Nat)(un ul:Value)(ls:List Lt.fg)(v:Ev)(p:Pk)(zm zs zg zw:Value)(w:World)(h:kN C w g un ul ls v)(hC:C<=w.heap.size)(h20:ls.length<=20)(hx:kz w p zm zs zg zw)(hWr:∀W zm zs zg zw,mw W.heap.size W->kz W p zm zs zg zw->Calls AS 199 #[Ij #[Y p.cV,Ia p.whole,zm,zs,zg,zw]] W λe w'=>e=AT (Ik #[Y p.T,U O p.e])/\Below W.heap.size W w')(hT:mw w.heap.size w) :
 Calls AS 141 #[Ie (AI ⟨g,0,be⟩),Ij #[Y p.cV,Ia p.whole,zm,zs,zg,zw]] w λe w'=>∃er,e=AT (U O er)/\Hid (kV C w g un ls v ⟨v.other,p.T⟩ w' er):=by
 have du:=(BY.1 h.hg).1;have HW:Hid (∀W,Below w.heap.size w W->Calls AS 199 #[Ij #[Y p.cV,Ia p.whole,zm,zs,zg,zw]] W λe w'=>e=AT (Ik #[Y p.T,U O p.e])/\Below W.heap.size W w'):=λW hW=>hWr W zm zs zg zw (λW2 bJ=>hT W2 (hW.trans (bJ.mono hW.size))) (hx.below hW);have HS:Hid (∀W,Below w.heap.size w W->Calls AS 143 #[Ie (AI ⟨g,0,be⟩),Ij #[U O v.other,Y p.T]] W λe w'=>∃er,e=AT (U O er)/\Hid (kV C w g un ls v ⟨v.other,p.T⟩ w' er)):=λW hW=>(Aj C g un ul ls v v.other p.T W (h.below hW) (Ir hC hW.size) h20).mono (λe w' hh=>by
  obtain⟨er,h1,h2⟩:=hh;exact⟨er,h1,h2.out.after hW hC⟩)
 have HG:Hid (∀W,Below w.heap.size w W->W.cell? ⟨g,4,be⟩=AI (U O v.other)):=λW hW=>(hW.cell (p:=⟨g,4,be⟩) du).trans (ae h.hg 4);obtain⟨⟨a2,c2,rfl,_⟩,⟨a3,c3,rfl,_⟩,⟨a4,c4,rfl,_⟩,⟨a5,c5,rfl,_⟩,_,_⟩:=hx;clear h hWr hT h20;generalize p.T=tx at *;generalize p.e=pe at *;obtain⟨W0,bN,bO,-,dI⟩:=bY w #[Y p.cV,Ia p.whole,J a2 p.ms.length c2,J a3 p.sv.length c3,J a4 p.gw.length c4,J a5 p.wh.length c5] 53;obtain⟨q0,q1,q2,q3,q4,q5⟩:=fx dI;have db:Hid _:=bO;clear dI bO;generalize p.cV=pf at *;generalize p.whole=pw at *;generalize p.ms.length=k2 at *;generalize p.sv.length=k3 at *;generalize p.gw.length=k4 at *;generalize p.wh.length=k5 at *;go_enter Tryz.func141,Tryz.ntmps141;go_upto_region 1 with fail
 rw[<- bN];clear bN;go_wp2_with fail;refine(HW.out W0 db.out).mono ?_;rintro e w1 ⟨rfl,aB⟩;have ba:Hid _:=db.out.trans (aB.mono db.out.size);have y4:=HG.out w1 ba.out;clear aB HW HG;go_wp2_with fail;refine(HS.out w1 ba.out).mono ?_;rintro e w2 ⟨er,rfl,HR⟩;go_wp2_with fail;go_ret;exact⟨er,rfl,HR⟩
theorem rZ(C g nb j:Nat)(ul:Value)(ls:List Lt.fg)(v:Ev)(L:List Nx)(w:World)(h:kN C w g (J (AI ⟨nb,0,be⟩) L.length L.length) ul ls v)(hN:cM C w nb L)(hC:C<=w.heap.size)(h20:ls.length<=20)(hv:v.which=(j:Int))(hj:j<L.length)(he:(L.getD j bZ).n.e=0)(hV:Rv w.heap.size w)(hWr:∀W zm zs zg zw,mw W.heap.size W->kz W (eB (L.getD j bZ).n) zm zs zg zw->Calls AS 199 #[Ij #[Y (eB (L.getD j bZ).n).cV,Ia (eB (L.getD j bZ).n).whole,zm,zs,zg,zw]] W λe w'=>e=AT (Ik #[Y (eB (L.getD j bZ).n).T,U O (eB (L.getD j bZ).n).e])/\Below W.heap.size W w') :
 Calls AS 79 #[Ie (AI ⟨g,0,be⟩)] w λe w'=>∃er,e=AT (U O er)/\Hid (kV C w g (J (AI ⟨nb,0,be⟩) L.length L.length) ls v ⟨v.other,(eB (L.getD j bZ).n).T⟩ w' er):=by
 have g0:=ae h.hg 0;have g3:w.cell? ⟨g,3,be⟩=AI (U O (j:Int)):=by rw[<- hv];exact ae h.hg 3
 have TA:=yc C g nb j L.length L.length L w hN hj rfl g0 g3;have hI:=(hN.own _ (gv hj)).is (hN.ok _ (gv hj));have VE:=hN.ok _ (gv hj);generalize L.getD j bZ=x at *;have Wv:Hid (∀W,Below w.heap.size w W->Calls AS 23 #[Ij (dv x.n x.vm x.vr x.vs x.vg x.vw)] W λe w'=>Below W.heap.size W w'/\∃a2 n2 c2 a3 n3 c3 a4 n4 c4 a5 n5 c5,e=AT (Ik #[Ij #[Y x.n.name,Ia true,J a2 n2 c2,J a3 n3 c3,J a4 n4 c4,J a5 n5 c5],U O 0])/\Hid (kz w' (eB x.n) (J a2 n2 c2) (J a3 n3 c3) (J a4 n4 c4) (J a5 n5 c5))):=λW hW=>by
  refine(wH x.n x.vm x.vr x.vs x.vg x.vw W (hI.below hW)).mono ?_;rintro e w' ⟨hb,⟨aQ,_⟩|⟨_,um,us,ug,uw,rfl,h1,h2,h3,h4⟩⟩
  .exact absurd he aQ
  .obtain⟨a2,c2,e2⟩:=aL h1
   obtain⟨a3,c3,e3⟩:=aL h2;obtain⟨a4,c4,e4⟩:=aL h3;obtain⟨a5,c5,e5⟩:=aL h4;subst e2 e3 e4 e5;exact⟨hb,_,_,_,_,_,_,_,_,_,_,_,_,rfl,bF h1 VE.ms,Sv.bF h2 VE.sv,Gw.bF h3 VE.gw,Wh.bF h4 VE.wh,VE.name,nS h1⟩
 have PJ:Hid (∀W a2 n2 c2 a3 n3 c3 a4 n4 c4 a5 n5 c5,Below w.heap.size w W->kz W (eB x.n) (J a2 n2 c2) (J a3 n3 c3) (J a4 n4 c4) (J a5 n5 c5)->Calls AS 141 #[Ie (AI ⟨g,0,be⟩),Ij #[Y x.n.name,Ia true,J a2 n2 c2,J a3 n3 c3,J a4 n4 c4,J a5 n5 c5]] W λe w'=>∃er,e=AT (U O er)/\Hid (kV C w g (J (AI ⟨nb,0,be⟩) L.length L.length) ls v ⟨v.other,(eB x.n).T⟩ w' er)):=λW a2 n2 c2 a3 n3 c3 a4 n4 c4 a5 n5 c5 hW hx=>
  (wS C g _ ul ls v (eB x.n) _ _ _ _ W (h.below hW) (Ir hC hW.size) h20 hx hWr (hV.after hW).Vf).mono (λe w' hh=>by
    obtain⟨er,h1,h2⟩:=hh;exact⟨er,h1,h2.out.after hW hC⟩)
 clear h hN hv hI VE hV g0 g3 he hWr;generalize L.length=n at *;generalize(eB x.n).T=tx at *;obtain⟨⟨nm,ct,ms,rs,sv,gw,⟨px,py,pz,ph,pq⟩,wh⟩,vm,vr,vs,vg,vw⟩:=x;simp only[dv] at TA Wv PJ;go_enter Tryz.func79,Tryz.ntmps79;go_wp2_with fail;refine TA.mono ?_;rintro e w1 ⟨rfl,aB⟩;have ba:Hid _:=aB;clear aB TA;go_wp2_with fail;refine(Wv.out w1 ba.out).mono ?_;rintro e w2 ⟨aK,a2,n2,c2,a3,n3,c3,a4,n4,c4,a5,n5,c5,rfl,WQ⟩;have bu:Hid _:=ba.out.trans (aK.mono ba.out.size);clear aK ba Wv;obtain⟨W3,eu⟩:∃W3,W3=w2.alloc (By #[Y nm,Ia true,J a2 n2 c2,J a3 n3 c3,J a4 n4 c4,J a5 n5 c5] 53):=⟨_,rfl⟩;have bX:Below w2.heap.size w2 W3:=by rw[eu];exact(Ib _ _).alloc (Ic _) _
 have cJ:Hid _:=bu.out.trans (bX.mono bu.out.size);have tm:Hid _:=WQ.out.below bX;have lF:W3.heap[w2.heap.size]?=AI (By #[Y nm,Ia true,J a2 n2 c2,J a3 n3 c3,J a4 n4 c4,J a5 n5 c5] 53 (0,0)):=by rw[eu];exact Ih w2 _
 obtain⟨q0,q1,q2,q3,q4,q5⟩:=fx lF;clear bX lF bu WQ;go_wp2_with fail;rw[<- eu];refine(PJ.out W3 _ _ _ _ _ _ _ _ _ _ _ _ cJ.out tm.out).mono ?_;rintro e w4 ⟨er,rfl,HR⟩;clear eu q0 q1 q2 q3 q4 q5 cJ tm PJ;go_wp2_with fail;go_ret;exact⟨er,rfl,HR⟩
theorem LB(g nb n j:Nat)(R:Array Value)(v0 v1 v2 v3 v4 v5 v6 v7 v8 v9 v10 v11:Value)(x0 x1:ByteArray)(a2 a3 a4 a5 a11:Option Addr)(n2 k2 n3 k3 n4 k4 n5 k5 n11 k11:Nat)(x6 x7 x8 x9 x10:Int)(w:World)(F:World->List Value->Value->Prop)(Rs:Int->World->Prop)(hj:j<n)(g0:w.cell? ⟨g,0,be⟩=AI (J (AI ⟨nb,0,be⟩) n n))(g3:w.cell? ⟨g,3,be⟩=AI (U O (j:Int)))(cR:w.heap[nb]?=AI (By R 42 (0,0)))(Mx:nb≠g)(c0:R[j*12]?=AI v0)(c1:R[j*12+1]?=AI v1)(c2:R[j*12+2]?=AI v2)(c3:R[j*12+3]?=AI v3)(c4:R[j*12+4]?=AI v4)(c5:R[j*12+5]?=AI v5)(c6:R[j*12+6]?=AI v6)(c7:R[j*12+7]?=AI v7)(c8:R[j*12+8]?=AI v8)(c9:R[j*12+9]?=AI v9)(c10:R[j*12+10]?=AI v10)(c11:R[j*12+11]?=AI v11)(hWH:Calls AS 85 #[Ie (AI ⟨g,0,be⟩)] w λe w'=>e=AT (Ij #[Y x0,Y x1,J a2 n2 k2,J a3 n3 k3,J a4 n4 k4,J a5 n5 k5,U O x6,U O x7,U O x8,U O x9,U O x10,J a11 n11 k11])/\Below w.heap.size w w')(hTL:∀W,Below w.heap.size w W->Calls AS 18 #[Ij #[Y x0,Y x1,J a2 n2 k2,J a3 n3 k3,J a4 n4 k4,J a5 n5 k5,U O x6,U O x7,U O x8,U O x9,U O x10,J a11 n11 k11]] W λe w'=>Below W.heap.size W w'/\∃u0 u1 b2 m2 e2 b3 m3 e3 b4 m4 e4 b5 m5 e5 u6 u7 u8 u9 u10 b11 m11 e11 qa qk qc,e=AT (Ik #[Ij #[Y u0,Y u1,J b2 m2 e2,J b3 m3 e3,J b4 m4 e4,J b5 m5 e5,U O u6,U O u7,U O u8,U O u9,U O u10,J b11 m11 e11],Ij #[Y x0,Ia false,J qa qk qc,J be 0 0,J be 0 0,J be 0 0],U O 0])/\Hid (F w' [Y u0,Y u1,J b2 m2 e2,J b3 m3 e3,J b4 m4 e4,J b5 m5 e5,U O u6,U O u7,U O u8,U O u9,U O u10,J b11 m11 e11] (J qa qk qc)))(hF:∀V V' xs q,F V xs q->Below V.heap.size V V'->F V' xs q)(hWR:∀V u0 u1 b2 m2 e2 b3 m3 e3 b4 m4 e4 b5 m5 e5 u6 u7 u8 u9 u10 b11 m11 e11 qa qk qc,Below w.heap.size w V->F V [Y u0,Y u1,J b2 m2 e2,J b3 m3 e3,J b4 m4 e4,J b5 m5 e5,U O u6,U O u7,U O u8,U O u9,U O u10,J b11 m11 e11] (J qa qk qc)->Calls AS 141 #[Ie (AI ⟨g,0,be⟩),Ij #[Y x0,Ia false,J qa qk qc,J be 0 0,J be 0 0,J be 0 0]] (JD (aC nb [Y u0,Y u1,J b2 m2 e2,J b3 m3 e3,J b4 m4 e4,J b5 m5 e5,U O u6,U O u7,U O u8,U O u9,U O u10,J b11 m11 e11] (j*12) V)) λe w'=>∃er,e=AT (U O er)/\Rs er w') :
 Calls AS 78 #[Ie (AI ⟨g,0,be⟩)] w λe w'=>∃er,e=AT (U O er)/\Rs er w':=by
 have du:=Iy w _ g0;have aR:=(BY.1 cR).1;have NZ:Hid _:=hTL;have HF:Hid _:=hF;have PJ:Hid _:=hWR;have HX:Hid (∀V,Below w.heap.size w V->V.cell? ⟨g,0,be⟩=AI (J (AI ⟨nb,0,be⟩) n n)/\V.cell? ⟨g,3,be⟩=AI (U O (j:Int))/\V.heap[nb]?=AI (By R 42 (0,0))):=λV hV=>⟨(hV.cell (p:=⟨g,0,be⟩) du).trans g0,(hV.cell (p:=⟨g,3,be⟩) du).trans g3,(hV.block nb aR).trans cR⟩;have HC:Hid (∀V:World,V.heap[nb]?=AI (By R 42 (0,0))->V.cell? ⟨nb,j*12,be⟩=AI v0/\V.cell? ⟨nb,j*12+1,be⟩=AI v1/\V.cell? ⟨nb,j*12+2,be⟩=AI v2/\V.cell? ⟨nb,j*12+3,be⟩=AI v3/\V.cell? ⟨nb,j*12+4,be⟩=AI v4/\V.cell? ⟨nb,j*12+5,be⟩=AI v5/\V.cell? ⟨nb,j*12+6,be⟩=AI v6/\V.cell? ⟨nb,j*12+7,be⟩=AI v7/\V.cell? ⟨nb,j*12+8,be⟩=AI v8/\V.cell? ⟨nb,j*12+9,be⟩=AI v9/\V.cell? ⟨nb,j*12+10,be⟩=AI v10/\V.cell? ⟨nb,j*12+11,be⟩=AI v11):=λV hV=>⟨(ae hV _).trans c0,(ae hV _).trans c1,(ae hV _).trans c2,(ae hV _).trans c3,(ae hV _).trans c4,(ae hV _).trans c5,(ae hV _).trans c6,(ae hV _).trans c7,(ae hV _).trans c8,(ae hV _).trans c9,(ae hV _).trans c10,(ae hV _).trans c11⟩;have HZ:Hid (∀V:World,V.heap[nb]?=AI (By R 42 (0,0))->V.frozen? ⟨nb,j*12,be⟩=false/\V.frozen? ⟨nb,j*12+1,be⟩=false/\V.frozen? ⟨nb,j*12+2,be⟩=false/\V.frozen? ⟨nb,j*12+3,be⟩=false/\V.frozen? ⟨nb,j*12+4,be⟩=false/\V.frozen? ⟨nb,j*12+5,be⟩=false/\V.frozen? ⟨nb,j*12+6,be⟩=false/\V.frozen? ⟨nb,j*12+7,be⟩=false/\V.frozen? ⟨nb,j*12+8,be⟩=false/\V.frozen? ⟨nb,j*12+9,be⟩=false/\V.frozen? ⟨nb,j*12+10,be⟩=false/\V.frozen? ⟨nb,j*12+11,be⟩=false):=λV hV=>⟨aj hV _,aj hV _,aj hV _,aj hV _,aj hV _,aj hV _,aj hV _,aj hV _,aj hV _,aj hV _,aj hV _,aj hV _⟩;have Mk:Hid _:=aR;have xe:(j:Int)<(n:Int):=by omega
 have P4:(0:Int)<=(j:Int):=by omega
 have hjt:((j:Int)).toNat=j:=by omega
 clear hTL hF hWR du aR g0 g3 cR hj c0 c1 c2 c3 c4 c5 c6 c7 c8 c9 c10 c11;go_enter Tryz.func78,Tryz.ntmps78;go_wp2_with fail;refine hWH.mono ?_;rintro e w1 ⟨rfl,aB⟩;have ba:Hid _:=aB;clear aB hWH;go_wp2_with fail;refine(NZ.out w1 ba.out).mono ?_;rintro e w2 ⟨aK,u0,u1,b2,m2,e2,b3,m3,e3,b4,m4,e4,b5,m5,e5,u6,u7,u8,u9,u10,b11,m11,e11,qa,qk,qc,rfl,wo⟩;have bu:Hid _:=ba.out.trans (aK.mono ba.out.size);clear aK NZ ba;obtain⟨V,hV⟩:∃V,V=(w2.alloc (By #[Y u0,Y u1,J b2 m2 e2,J b3 m3 e3,J b4 m4 e4,J b5 m5 e5,U O u6,U O u7,U O u8,U O u9,U O u10,J b11 m11 e11] 42)).alloc (By #[Y x0,Ia false,J qa qk qc,J be 0 0,J be 0 0,J be 0 0] 53):=⟨_,rfl⟩;have NX:Below w2.heap.size w2 V:=by rw[hV];exact((Ib _ _).alloc (Ic _) _).alloc (by simp) _
 have vH:V.heap[w2.heap.size]?=AI (By #[Y u0,Y u1,J b2 m2 e2,J b3 m3 e3,J b4 m4 e4,J b5 m5 e5,U O u6,U O u7,U O u8,U O u9,U O u10,J b11 m11 e11] 42 (0,0)):=by rw[hV];exact(Lib.alloc_old _ _ _ (by simp)).trans (Ih w2 _)
 have G7:V.heap[w2.heap.size+1]?=AI (By #[Y x0,Ia false,J qa qk qc,J be 0 0,J be 0 0,J be 0 0] 53 (0,0)):=by
  rw[hV];have:=Ih (w2.alloc (By #[Y u0,Y u1,J b2 m2 e2,J b3 m3 e3,J b4 m4 e4,J b5 m5 e5,U O u6,U O u7,U O u8,U O u9,U O u10,J b11 m11 e11] 42)) (By #[Y x0,Ia false,J qa qk qc,J be 0 0,J be 0 0,J be 0 0] 53);simpa using this
 have pt:Hid _:=bu.out.trans (NX.mono bu.out.size);have TB:=HF.out _ _ _ _ wo.out NX;obtain⟨a0,a3,ow⟩:=HX.out V pt.out;obtain⟨d0,d1,d2,d3,d4,d5,d6,d7,d8,d9,d10,d11⟩:=HC.out V ow;obtain⟨z0,z1,z2,z3,z4,z5,z6,z7,z8,z9,z10,z11⟩:=HZ.out V ow;obtain⟨y0,y1,y2,y3,y4,y5,y6,y7,y8,y9,y10,y11⟩:=bB vH;have Vy:nb≠w2.heap.size:=by have:=Mk.out;have:=bu.out.size;omega
 have nE3:nb≠w2.heap.size+1:=by have:=Mk.out;have:=bu.out.size;omega
 obtain⟨W5,jo⟩:∃W5,W5=JD (aC nb [Y u0,Y u1,J b2 m2 e2,J b3 m3 e3,J b4 m4 e4,J b5 m5 e5,U O u6,U O u7,U O u8,U O u9,U O u10,J b11 m11 e11] (j*12) V):=⟨_,rfl⟩;have Mz:=PJ.out V _ _ _ _ _ _ _ _ _ _ _ _ _ _ _ _ _ _ _ _ _ _ _ _ _ pt.out TB;rw[<- jo] at Mz;have hp5:W5.heap[w2.heap.size+1]?=AI (By #[Y x0,Ia false,J qa qk qc,J be 0 0,J be 0 0,J be 0 0] 53 (0,0)):=by rw[jo,dD,aV (Ne.symm nE3)];exact G7
 obtain⟨t0,t1,t2,t3,t4,t5⟩:=fx hp5;simp only[aC,Nat.add_assoc,Jf] at jo;clear NX vH G7 hp5 ow TB wo bu pt HX HC HZ PJ HF;go_upto_region 2 with fail
 rw[<- hV];clear hV;go_region_held3 (λw'=>w'.cell? ⟨g,0,be⟩=AI (J (AI ⟨nb,0,be⟩) n n)/\w'.cell? ⟨g,3,be⟩=AI (U O (j:Int))/\w'.cell? ⟨w2.heap.size,0,be⟩=AI (Y u0)/\w'.cell? ⟨w2.heap.size,1,be⟩=AI (Y u1)/\w'.cell? ⟨w2.heap.size,2,be⟩=AI (J b2 m2 e2)/\w'.cell? ⟨w2.heap.size,3,be⟩=AI (J b3 m3 e3)/\w'.cell? ⟨w2.heap.size,4,be⟩=AI (J b4 m4 e4)/\w'.cell? ⟨w2.heap.size,5,be⟩=AI (J b5 m5 e5)/\w'.cell? ⟨w2.heap.size,6,be⟩=AI (U O u6)/\w'.cell? ⟨w2.heap.size,7,be⟩=AI (U O u7)/\w'.cell? ⟨w2.heap.size,8,be⟩=AI (U O u8)/\w'.cell? ⟨w2.heap.size,9,be⟩=AI (U O u9)/\w'.cell? ⟨w2.heap.size,10,be⟩=AI (U O u10)/\w'.cell? ⟨w2.heap.size,11,be⟩=AI (J b11 m11 e11)) (simp only[JO,Qh,ne_eq,Mx,Vy,not_false_eq_true,a0,a3,y0,y1,y2,y3,y4,y5,y6,y7,y8,y9,y10,y11,and_self]) (fail)
 obtain⟨W6,qu⟩:∃W6,W6=W5:=⟨_,rfl⟩;have ER:=qu.trans jo;rw[<- ER];rw[qu];clear jo qu ER d0 z0 y0 d1 z1 y1 d2 z2 y2 d3 z3 y3 d4 z4 y4 d5 z5 y5 d6 z6 y6 d7 z7 y7 d8 z8 y8 d9 z9 y9 d10 z10 y10 d11 z11 y11 a0 a3;go_wp2_with fail;refine Mz.mono ?_;rintro e w6 ⟨er,rfl,Rw⟩;have HR6:Hid (Rs er w6):=Rw;clear Rw Mz;go_wp2_with fail;go_ret;exact⟨er,rfl,HR6.out⟩
theorem Ak(C g nb j:Nat)(ul:Value)(ls:List Lt.fg)(v:Ev)(L:List Nx)(w:World)(h:kN C w g (J (AI ⟨nb,0,be⟩) L.length L.length) ul ls v)(hN:cM C w nb L)(hC:C<=w.heap.size)(h20:ls.length<=20)(hv:v.which=(j:Int))(hj:j<L.length)(he:(L.getD j bZ).n.e=0)(hT:∀V,Below C w V->mw V.heap.size V) :
 Calls AS 78 #[Ie (AI ⟨g,0,be⟩)] w λe w'=>∃er,e=AT (U O er)/\Below C w w'/\(ls.length<20->er=0)/\(er=0->ls.length<20/\∃y a k c l rest,fj (L.getD j bZ).n l rest/\y.n={ (L.getD j bZ).n with rs:=rest }/\cM C w' nb (L.set j y)/\kN C w' g (J (AI ⟨nb,0,be⟩) L.length L.length) (J a k c) (ls++[⟨v.other,(kx (L.getD j bZ).n.name l).T⟩]) v):=by
 have dI:=ae h.hg 0;have lF:w.cell? ⟨g,3,be⟩=AI (U O (j:Int)):=by rw[<- hv];exact ae h.hg 3
 have Mx:nb≠g:=λe=>by
  have h1:=hN.row;rw[e,h.hg] at h1;simp at h1
 have hWH:=yc C g nb j L.length L.length L w hN hj rfl dI lF;have hc:=λi hi=>mm L j hj i hi;have cf:∀i,i<12->∃u,(ji L).toArray[j*12+i]?=AI u:=λi hi=>by
  refine⟨(L.getD j bZ).cs[i]'(by rw[jG];exact hi),?_⟩;rw[QE,hc i hi,If]
 obtain⟨v0,c0⟩:=cf 0 (by omega);obtain⟨v1,c1⟩:=cf 1 (by omega);obtain⟨v2,c2⟩:=cf 2 (by omega);obtain⟨v3,c3⟩:=cf 3 (by omega);obtain⟨v4,c4⟩:=cf 4 (by omega);obtain⟨v5,c5⟩:=cf 5 (by omega);obtain⟨v6,c6⟩:=cf 6 (by omega);obtain⟨v7,c7⟩:=cf 7 (by omega);obtain⟨v8,c8⟩:=cf 8 (by omega);obtain⟨v9,c9⟩:=cf 9 (by omega);obtain⟨v10,c10⟩:=cf 10 (by omega);obtain⟨v11,c11⟩:=cf 11 (by omega);have ho:=hN.own _ (gv hj);have gR:=hN.ok _ (gv hj);clear hc cf;generalize L.getD j bZ=x at *;obtain⟨⟨nm,ct,ms,rs,sv,gw,⟨px,py,pz,ph,pq⟩,wh⟩,vm,vr,vs,vg,vw⟩:=x;obtain⟨a2,x2,h2⟩:=aL ho.ms;obtain⟨a3,x3,h3⟩:=aL ho.rs;obtain⟨a4,x4,h4⟩:=aL ho.sv;obtain⟨a5,x5,h5⟩:=aL ho.gw;obtain⟨a11,x11,h11⟩:=aL ho.wh;simp only at h2 h3 h4 h5 h11;subst h2 h3 h4 h5 h11;refine LB g nb L.length j (ji L).toArray v0 v1 v2 v3 v4 v5 v6 v7 v8 v9 v10 v11 nm ct a2 a3 a4 a5 a11 _ x2 _ x3 _ x4 _ x5 _ x11 px py pz ph pq w (λV xs q=>∃l rest,fj ⟨nm,ct,ms,rs,sv,gw,⟨px,py,pz,ph,pq⟩,wh⟩ l rest/\afN C ⟨nm,ct,ms,rest,sv,gw,⟨px,py,pz,ph,pq⟩,wh⟩ l V xs q) (λer w'=>_/\(ls.length<20->er=0)/\(er=0->_)) hj dI lF hN.row Mx c0 c1 c2 c3 c4 c5 c6 c7 c8 c9 c10 c11 hWH ?_ ?_ ?_
 .intro W hW
  refine(uA _ _ _ _ _ _ W ((ho.is gR).below hW)).mono ?_;rintro e w' ⟨hb,⟨aQ,_⟩|⟨_,n',um,ur,us,ug,uw,a,k,c,l,rfl,hn,ht,TC,NA,KC⟩⟩
  .exact absurd he aQ
  have VF:=Ir hC hW.size;have fK:=TC.mono VF;clear TC;generalize n'.rs=rest at hn ht;subst hn;obtain⟨b2,d2,e2⟩:=aL fK.ms;obtain⟨b3,d3,e3⟩:=aL fK.rs;obtain⟨b4,d4,e4⟩:=aL fK.sv;obtain⟨b5,d5,e5⟩:=aL fK.gw;obtain⟨b11,d11,e11⟩:=aL fK.wh;subst e2 e3 e4 e5 e11;exact⟨hb,_,_,b2,_,d2,b3,_,d3,b4,_,d4,b5,_,d5,_,_,_,_,_,b11,_,d11,a,k,c,rfl,l,rest,ht,⟨⟨_,_,_,_,_,_⟩,rfl,rfl,fK,NA⟩,Own.mono KC VF⟩
 .rintro V V' xs q ⟨l,rest,ht,⟨y,rfl,hy,fK,jJ⟩,hq⟩ hb
  exact⟨l,rest,ht,⟨y,rfl,hy,fK.below hb,jJ⟩,Own.below hq hb⟩
 .rintro V u0 u1 b2 m2 e2 b3 m3 e3 b4 m4 e4 b5 m5 e5 u6 u7 u8 u9 u10 b11 m11 e11 qa qk qc Al ⟨l,rest,ht,⟨y,hys,hy,fK,jJ⟩,hq⟩
  rw[hys];have hl:∀m∈l,m.name.size<=Il:=λm hm=>by
   obtain⟨told,h1,h2,_⟩:=ht;exact(wM h1 gR.rs).1 m (h2.mem_iff.1 hm)
  have hNt:=hN.turn Al hC hj fK jJ;have eA:∀q,q≠nb->(JD (aC nb y.cs (j*12) V)).heap[q]?=V.heap[q]?:=λq hq=>by rw[dD];exact aV hq _ _ _
  have ow:=(hN.below Al hC).row;have hP:=(h.below Al).row ow eA;have hbC:Below C w (JD (aC nb y.cs (j*12) V)):=cF (aT hN.le _ _ (Al.mono hC));have hq5:=ev hq (λq cs f e=>(eA q (λe2=>by subst e2;rw[ow] at e;simp at e)).trans e);have hx5:kz (JD (aC nb y.cs (j*12) V)) (kx nm l) (J qa qk qc) (J be 0 0) (J be 0 0) (J be 0 0):=⟨bF hq5 hl,Sv.bF (Sv.b9 0 _) (λm hm=>by cases hm),Gw.bF (Gw.b9 0 _) (λm hm=>by cases hm),Wh.bF (Wh.b9 0 _) (λm hm=>by cases hm),gR.name,nS hq5⟩;have VF:=Ir hC hbC.size;refine(wS C g _ ul ls v (kx nm l) _ _ _ _ _ hP VF h20 hx5 (λW zm zs zg zw hT hx=>oH _ _ _ _ _ W hx (.inr (by simp[kx])) hT) (hT _ hbC)).mono ?_;rintro e w' ⟨er,rfl,HS⟩;refine⟨er,rfl,hbC.trans HS.out.1.below,HS.out.2.1,λhz=>?_⟩;obtain⟨mJ,a,k,c,hp⟩:=HS.out.2.2 hz;exact⟨mJ,y,a,k,c,l,rest,ht,hy,hNt.mv HS.out.1,hp⟩
theorem LC(er:Int)(g nb n k lb m cu j:Nat)(tx:ByteArray)(R:Array Value)(x0 x1:ByteArray)(a2 a3 a4 a5 a11:Option Addr)(n2 k2 n3 k3 n4 k4 n5 k5 n11 k11:Nat)(x6 x7 x8 x9 x10:Int)(w:World)(F G:World->List Value->Prop)(Rs:World->Prop)(hk:k<n)(hj:j<m)(g0:w.cell? ⟨g,0,be⟩=AI (J (AI ⟨nb,0,be⟩) n n))(g1:w.cell? ⟨g,1,be⟩=AI (J (AI ⟨lb,0,be⟩) m cu))(g3:w.cell? ⟨g,3,be⟩=AI (U O (j:Int)))(l0:w.cell? ⟨lb,j*2,be⟩=AI (U O (k:Int)))(l1:w.cell? ⟨lb,j*2+1,be⟩=AI (Y tx))(cR:w.heap[nb]?=AI (By R 42 (0,0)))(c0:R[k*12]?=AI (Y x0))(c1:R[k*12+1]?=AI (Y x1))(c2:R[k*12+2]?=AI (J a2 n2 k2))(c3:R[k*12+3]?=AI (J a3 n3 k3))(c4:R[k*12+4]?=AI (J a4 n4 k4))(c5:R[k*12+5]?=AI (J a5 n5 k5))(c6:R[k*12+6]?=AI (U O x6))(c7:R[k*12+7]?=AI (U O x7))(c8:R[k*12+8]?=AI (U O x8))(c9:R[k*12+9]?=AI (U O x9))(c10:R[k*12+10]?=AI (U O x10))(c11:R[k*12+11]?=AI (J a11 n11 k11))(hG:∀V V' xs,G V xs->Below V.heap.size V V'->G V' xs)(hF:∀V V' xs,F V xs->Below V.heap.size V V'->F V' xs)(hFS:∀(V:World) xs (b:Nat) cs L,F V xs->V.heap[b]?=AI (By cs 42 (0,0))->F (aC b L 0 V) xs)(Mx:R[0]? ≠ AI (J (AI ⟨nb,0,be⟩) n n))(hRD:∀W,Below w.heap.size w W->Calls AS 69 #[Y tx] W λe w'=>Below W.heap.size W w'/\∃pf pw p2 q2 r2 p3 q3 r3 p4 q4 r4 p5 q5 r5,e=AT (Ik #[Ij #[Y pf,Ia pw,J p2 q2 r2,J p3 q3 r3,J p4 q4 r4,J p5 q5 r5],U O 0])/\Hid (G w' [Y pf,Ia pw,J p2 q2 r2,J p3 q3 r3,J p4 q4 r4,J p5 q5 r5]))(hHR:∀W pf pw p2 q2 r2 p3 q3 r3 p4 q4 r4 p5 q5 r5,Below w.heap.size w W->G W [Y pf,Ia pw,J p2 q2 r2,J p3 q3 r3,J p4 q4 r4,J p5 q5 r5]->Calls AS 24 #[Ij #[Y x0,Y x1,J a2 n2 k2,J a3 n3 k3,J a4 n4 k4,J a5 n5 k5,U O x6,U O x7,U O x8,U O x9,U O x10,J a11 n11 k11],Ij #[Y pf,Ia pw,J p2 q2 r2,J p3 q3 r3,J p4 q4 r4,J p5 q5 r5]] W λe w'=>Below W.heap.size W w'/\∃u0 u1 b2 m2 e2 b3 m3 e3 b4 m4 e4 b5 m5 e5 u6 u7 u8 u9 u10 b11 m11 e11,e=AT (Ik #[Ij #[Y u0,Y u1,J b2 m2 e2,J b3 m3 e3,J b4 m4 e4,J b5 m5 e5,U O u6,U O u7,U O u8,U O u9,U O u10,J b11 m11 e11],U O er])/\Hid (F w' [Y u0,Y u1,J b2 m2 e2,J b3 m3 e3,J b4 m4 e4,J b5 m5 e5,U O u6,U O u7,U O u8,U O u9,U O u10,J b11 m11 e11]))(hLS:er=0->∀V u0 u1 b2 m2 e2 b3 m3 e3 b4 m4 e4 b5 m5 e5 u6 u7 u8 u9 u10 b11 m11 e11,Below w.heap.size w V->F V [Y u0,Y u1,J b2 m2 e2,J b3 m3 e3,J b4 m4 e4,J b5 m5 e5,U O u6,U O u7,U O u8,U O u9,U O u10,J b11 m11 e11]->Calls AS 81 #[Ie (AI ⟨g,0,be⟩)] (JD (aC nb [Y u0,Y u1,J b2 m2 e2,J b3 m3 e3,J b4 m4 e4,J b5 m5 e5,U O u6,U O u7,U O u8,U O u9,U O u10,J b11 m11 e11] (k*12) V)) λe w'=>e=AT (U O 0)/\Rs w')(hL2:er≠0->∀V,Below w.heap.size w V->Calls AS 81 #[Ie (AI ⟨g,0,be⟩)] V λe w'=>e=AT (U O 0)/\Rs w') :
 Calls AS 80 #[Ie (AI ⟨g,0,be⟩)] w λe w'=>e=AT (U O 0)/\Rs w':=by
 have du:=Iy w _ g0;have aR:=(BY.1 cR).1;have HG:Hid _:=hG;have HF:Hid _:=hF;have HFS:Hid _:=hFS;have HNG:Hid _:=Mx;have iu:Hid _:=aR;have Rb:Hid _:=hRD;have HHR:Hid _:=hHR;have HLS:Hid _:=hLS;have ML:Hid _:=hL2;have HX:Hid (∀V,Below w.heap.size w V->V.cell? ⟨g,0,be⟩=AI (J (AI ⟨nb,0,be⟩) n n)/\V.heap[nb]?=AI (By R 42 (0,0))):=λV hV=>⟨(hV.cell (p:=⟨g,0,be⟩) du).trans g0,(hV.block nb aR).trans cR⟩;have HC:Hid (∀V:World,V.heap[nb]?=AI (By R 42 (0,0))->V.cell? ⟨nb,k*12,be⟩=AI (Y x0)/\V.cell? ⟨nb,k*12+1,be⟩=AI (Y x1)/\V.cell? ⟨nb,k*12+2,be⟩=AI (J a2 n2 k2)/\V.cell? ⟨nb,k*12+3,be⟩=AI (J a3 n3 k3)/\V.cell? ⟨nb,k*12+4,be⟩=AI (J a4 n4 k4)/\V.cell? ⟨nb,k*12+5,be⟩=AI (J a5 n5 k5)/\V.cell? ⟨nb,k*12+6,be⟩=AI (U O x6)/\V.cell? ⟨nb,k*12+7,be⟩=AI (U O x7)/\V.cell? ⟨nb,k*12+8,be⟩=AI (U O x8)/\V.cell? ⟨nb,k*12+9,be⟩=AI (U O x9)/\V.cell? ⟨nb,k*12+10,be⟩=AI (U O x10)/\V.cell? ⟨nb,k*12+11,be⟩=AI (J a11 n11 k11)):=λV hV=>⟨(ae hV _).trans c0,(ae hV _).trans c1,(ae hV _).trans c2,(ae hV _).trans c3,(ae hV _).trans c4,(ae hV _).trans c5,(ae hV _).trans c6,(ae hV _).trans c7,(ae hV _).trans c8,(ae hV _).trans c9,(ae hV _).trans c10,(ae hV _).trans c11⟩;have HZ:Hid (∀V:World,V.heap[nb]?=AI (By R 42 (0,0))->V.frozen? ⟨nb,k*12,be⟩=false/\V.frozen? ⟨nb,k*12+1,be⟩=false/\V.frozen? ⟨nb,k*12+2,be⟩=false/\V.frozen? ⟨nb,k*12+3,be⟩=false/\V.frozen? ⟨nb,k*12+4,be⟩=false/\V.frozen? ⟨nb,k*12+5,be⟩=false/\V.frozen? ⟨nb,k*12+6,be⟩=false/\V.frozen? ⟨nb,k*12+7,be⟩=false/\V.frozen? ⟨nb,k*12+8,be⟩=false/\V.frozen? ⟨nb,k*12+9,be⟩=false/\V.frozen? ⟨nb,k*12+10,be⟩=false/\V.frozen? ⟨nb,k*12+11,be⟩=false):=λV hV=>⟨aj hV _,aj hV _,aj hV _,aj hV _,aj hV _,aj hV _,aj hV _,aj hV _,aj hV _,aj hV _,aj hV _,aj hV _⟩;have Tz:(j:Int)<(m:Int):=by omega
 have eV:(k:Int)<(n:Int):=by omega
 have P4:(0:Int)<=(j:Int):=by omega
 have xL:(0:Int)<=(k:Int):=by omega
 have hjt:((j:Int)).toNat=j:=by omega
 have hkt:((k:Int)).toNat=k:=by omega
 obtain⟨Wa,hWa⟩:∃Wa,Wa=JD (w.alloc (By #[U O (k:Int),Y tx] 102)):=⟨_,rfl⟩;have Pe:Below w.heap.size w Wa:=by rw[hWa];exact cF ((Ib _ _).alloc (Ic _) _)
 have kC:Wa.heap[w.heap.size]?=AI (By #[U O (k:Int),Y tx] 102 (0,0)):=by rw[hWa,dD];exact Ih w _
 have HSA:Hid _:=(BY.1 kC).1;have TD:Hid _:=Pe;have Vt:Hid _:=kC;have s1:=ae kC 1;clear hFS Mx hG hF hRD hHR hLS hL2 Pe kC c0 c1 c2 c3 c4 c5 c6 c7 c8 c9 c10 c11 cR g0 du aR hk hj;go_enter Tryz.func80,Tryz.ntmps80;go_wp2_with fail;go_region_held3 (λw'=>w'.cell? ⟨g,1,be⟩=AI (J (AI ⟨lb,0,be⟩) m cu)/\w'.cell? ⟨g,3,be⟩=AI (U O (j:Int))/\w'.cell? ⟨lb,j*2,be⟩=AI (U O (k:Int))/\w'.cell? ⟨lb,j*2+1,be⟩=AI (Y tx)) (go_keep) (fail)
 go_wp2_with fail;rw[<- hWa];clear hWa g1 g3 l0 l1 Tz P4 hjt;refine(Rb.out Wa TD.out).mono ?_;rintro e w1 ⟨aB,pf,pw,p2,q2,r2,p3,q3,r3,p4,q4,r4,p5,q5,r5,rfl,vp⟩;have ba:Hid _:=TD.out.trans (aB.mono TD.out.size);have vS:Hid _:=(aB.block _ HSA.out).trans Vt.out;clear aB Rb s1;obtain⟨W2,bJ,aK,-,sL⟩:=bY w1 #[Y pf,Ia pw,J p2 q2 r2,J p3 q3 r3,J p4 q4 r4,J p5 q5 r5] 53;have sg:Hid (G W2 [Y pf,Ia pw,J p2 q2 r2,J p3 q3 r3,J p4 q4 r4,J p5 q5 r5]):=HG.out _ _ _ vp.out aK;have bu:Hid (Below w.heap.size w W2):=ba.out.trans (aK.mono ba.out.size);have vi:Hid (W2.heap[w.heap.size]?=AI (By #[U O (k:Int),Y tx] 102 (0,0))):=(aK.block _ (BY.1 vS.out).1).trans vS.out;have oI:Hid _:=sL;have g0:=(HX.out W2 bu.out).1;have s0:W2.cell? ⟨w.heap.size,0,be⟩=AI (U O (k:Int)):=ae vi.out 0;obtain⟨c0,c1,c2,c3,c4,c5,c6,c7,c8,c9,c10,c11⟩:=HC.out W2 (HX.out W2 bu.out).2;obtain⟨q0_,q1_,q2_,q3_,q4_,q5_⟩:=fx sL;clear aK sL vp ba;go_upto_region 3 with fail
 rw[<- bJ];clear bJ vS;have SP:Hid (∀W,Below W2.heap.size W2 W->W.cell? ⟨g,0,be⟩=AI (J (AI ⟨nb,0,be⟩) n n)/\W.cell? ⟨w.heap.size,0,be⟩=AI (U O (k:Int))/\W.cell? ⟨nb,k*12,be⟩=AI (Y x0)/\W.cell? ⟨nb,k*12+1,be⟩=AI (Y x1)/\W.cell? ⟨nb,k*12+2,be⟩=AI (J a2 n2 k2)/\W.cell? ⟨nb,k*12+3,be⟩=AI (J a3 n3 k3)/\W.cell? ⟨nb,k*12+4,be⟩=AI (J a4 n4 k4)/\W.cell? ⟨nb,k*12+5,be⟩=AI (J a5 n5 k5)/\W.cell? ⟨nb,k*12+6,be⟩=AI (U O x6)/\W.cell? ⟨nb,k*12+7,be⟩=AI (U O x7)/\W.cell? ⟨nb,k*12+8,be⟩=AI (U O x8)/\W.cell? ⟨nb,k*12+9,be⟩=AI (U O x9)/\W.cell? ⟨nb,k*12+10,be⟩=AI (U O x10)/\W.cell? ⟨nb,k*12+11,be⟩=AI (J a11 n11 k11)/\W.cell? ⟨w1.heap.size,0,be⟩=AI (Y pf)/\W.cell? ⟨w1.heap.size,1,be⟩=AI (Ia pw)/\W.cell? ⟨w1.heap.size,2,be⟩=AI (J p2 q2 r2)/\W.cell? ⟨w1.heap.size,3,be⟩=AI (J p3 q3 r3)/\W.cell? ⟨w1.heap.size,4,be⟩=AI (J p4 q4 r4)/\W.cell? ⟨w1.heap.size,5,be⟩=AI (J p5 q5 r5)):=λW hW=>by
  have hx:=HX.out W (bu.out.trans (hW.mono bu.out.size));obtain⟨e0_,e1_,e2_,e3_,e4_,e5_,e6_,e7_,e8_,e9_,afT,afU⟩:=HC.out W hx.2;exact⟨hx.1,ae ((hW.block _ (BY.1 vi.out).1).trans vi.out) 0,e0_,e1_,e2_,e3_,e4_,e5_,e6_,e7_,e8_,e9_,afT,afU,fx ((hW.block _ (BY.1 oI.out).1).trans oI.out)⟩
 have Sg:W2.heap.size≠g:=λe=>by have:=bu.out.size;have:=Iy W2 ⟨g,0,be⟩ g0;simp at this;omega
 have Si:W2.heap.size≠w.heap.size:=λe=>by have:=(BY.1 vi.out).1;omega
 have Xo:W2.heap.size≠nb:=λe=>by have:=Iy W2 ⟨nb,k*12,be⟩ c0;simp at this;omega
 have Xp:W2.heap.size≠w1.heap.size:=λe=>by have:=(BY.1 oI.out).1;omega
 go_region_held3 (λw'=>w'.cell? ⟨g,0,be⟩=AI (J (AI ⟨nb,0,be⟩) n n)/\w'.cell? ⟨w.heap.size,0,be⟩=AI (U O (k:Int))/\w'.cell? ⟨nb,k*12,be⟩=AI (Y x0)/\w'.cell? ⟨nb,k*12+1,be⟩=AI (Y x1)/\w'.cell? ⟨nb,k*12+2,be⟩=AI (J a2 n2 k2)/\w'.cell? ⟨nb,k*12+3,be⟩=AI (J a3 n3 k3)/\w'.cell? ⟨nb,k*12+4,be⟩=AI (J a4 n4 k4)/\w'.cell? ⟨nb,k*12+5,be⟩=AI (J a5 n5 k5)/\w'.cell? ⟨nb,k*12+6,be⟩=AI (U O x6)/\w'.cell? ⟨nb,k*12+7,be⟩=AI (U O x7)/\w'.cell? ⟨nb,k*12+8,be⟩=AI (U O x8)/\w'.cell? ⟨nb,k*12+9,be⟩=AI (U O x9)/\w'.cell? ⟨nb,k*12+10,be⟩=AI (U O x10)/\w'.cell? ⟨nb,k*12+11,be⟩=AI (J a11 n11 k11)/\w'.cell? ⟨w1.heap.size,0,be⟩=AI (Y pf)/\w'.cell? ⟨w1.heap.size,1,be⟩=AI (Ia pw)/\w'.cell? ⟨w1.heap.size,2,be⟩=AI (J p2 q2 r2)/\w'.cell? ⟨w1.heap.size,3,be⟩=AI (J p3 q3 r3)/\w'.cell? ⟨w1.heap.size,4,be⟩=AI (J p4 q4 r4)/\w'.cell? ⟨w1.heap.size,5,be⟩=AI (J p5 q5 r5)) (first|go_keep|(obtain⟨i0_,i1_,i2_,i3_,i4_,i5_,i6_,i7_,i8_,i9_,afV,afW,afX,afY,afZ,af0,af1,af2,af3,af4⟩:=hS;simp only[JO,Qh,ne_eq,Sg,Si,Xo,Xp,not_false_eq_true,i0_,i1_,i2_,i3_,i4_,i5_,i6_,i7_,i8_,i9_,afV,afW,afX,afY,afZ,af0,af1,af2,af3,af4,and_self])) (first|(go_at_call 24;refine Calls.mono (HHR.out _ _ _ _ _ _ _ _ _ _ _ _ _ _ _ (by first|exact cF bu.out|exact cF (bu.out.alloc bu.out.size _)) (HG.out _ _ _ sg.out (by first|exact cF (Ib _ _)|exact cF ((Ib _ _).alloc (Ic _) _)))) ?_;rintro e w3 ⟨bX,u0,u1,b2,m2,e2,b3,m3,e3,b4,m4,e4,b5,m5,e5,u6,u7,u8,u9,u10,b11,m11,e11,rfl,sq⟩;first
  |(have cJ:Hid (Below W2.heap.size W2 w3):=(Ib W2.heap.size W2).drew.trans bX
    have hS:=SP.out w3 cJ.out;clear bX)
  |(have cJ:Hid (Below W2.heap.size W2 w3):=(cF ((Ib W2.heap.size W2).alloc (Ic _) _)).trans (bX.mono (by simp))
    have qL:w3.heap[W2.heap.size]?=AI (By #[Y ⟨#[]⟩,Y ⟨#[]⟩,J be 0 0,J be 0 0,J be 0 0,J be 0 0,U O 0,U O 0,U O 0,U O 0,U O 0,J be 0 0] 42 (0,0)):=(bX.block _ (by simp)).trans (Ih W2 _);have hS:=SP.out w3 cJ.out;obtain⟨f0,f1,f2,f3,f4,f5,f6,f7,f8,f9,f10,f11⟩:=bB qL;obtain⟨h0,h1,h2,h3,h4,h5,h6,h7,h8,h9,h10,h11⟩:=kd qL;clear bX)))
 all_goals
  first
  |(obtain⟨V,hV⟩:∃V,V=w3.alloc (By #[Y u0,Y u1,J b2 m2 e2,J b3 m3 e3,J b4 m4 e4,J b5 m5 e5,U O u6,U O u7,U O u8,U O u9,U O u10,J b11 m11 e11] 42):=⟨_,rfl⟩
    rw[<- hV];have vH:V.heap[w3.heap.size]?=AI (By #[Y u0,Y u1,J b2 m2 e2,J b3 m3 e3,J b4 m4 e4,J b5 m5 e5,U O u6,U O u7,U O u8,U O u9,U O u10,J b11 m11 e11] 42 (0,0)):=by rw[hV];exact Ih w3 _
    have pt:Hid (Below W2.heap.size W2 V):=by rw[hV];exact cJ.out.alloc cJ.out.size _
    have TB:Hid (F V [Y u0,Y u1,J b2 m2 e2,J b3 m3 e3,J b4 m4 e4,J b5 m5 e5,U O u6,U O u7,U O u8,U O u9,U O u10,J b11 m11 e11]):=by rw[hV];exact HF.out _ _ _ sq.out ((Ib _ _).alloc (Ic _) _)
    have hmb:w.heap.size<=w3.heap.size:=Ir bu.out.size cJ.out.size;clear hV sq cJ hS;generalize w3.heap.size=mb at vH hmb ⊢)
  |(obtain⟨V,hV⟩:∃V,V=((((((((((((w3.setCell ⟨W2.heap.size,0,be⟩ (Y u0)).setCell ⟨W2.heap.size,1,be⟩ (Y u1)).setCell ⟨W2.heap.size,2,be⟩ (J b2 m2 e2)).setCell ⟨W2.heap.size,3,be⟩ (J b3 m3 e3)).setCell ⟨W2.heap.size,4,be⟩ (J b4 m4 e4)).setCell ⟨W2.heap.size,5,be⟩ (J b5 m5 e5)).setCell ⟨W2.heap.size,6,be⟩ (U O u6)).setCell ⟨W2.heap.size,7,be⟩ (U O u7)).setCell ⟨W2.heap.size,8,be⟩ (U O u8)).setCell ⟨W2.heap.size,9,be⟩ (U O u9)).setCell ⟨W2.heap.size,10,be⟩ (U O u10)).setCell ⟨W2.heap.size,11,be⟩ (J b11 m11 e11)):=⟨_,rfl⟩
    rw[<- hV];have hV2:V=aC W2.heap.size [Y u0,Y u1,J b2 m2 e2,J b3 m3 e3,J b4 m4 e4,J b5 m5 e5,U O u6,U O u7,U O u8,U O u9,U O u10,J b11 m11 e11] 0 w3:=by rw[hV];simp only[aC,IC,Jf]
    clear hV f0 f1 f2 f3 f4 f5 f6 f7 f8 f9 f10 f11 h0 h1 h2 h3 h4 h5 h6 h7 h8 h9 h10 h11;have vH:V.heap[W2.heap.size]?=AI (By #[Y u0,Y u1,J b2 m2 e2,J b3 m3 e3,J b4 m4 e4,J b5 m5 e5,U O u6,U O u7,U O u8,U O u9,U O u10,J b11 m11 e11] 42 (0,0)):=by rw[hV2];exact lq qL _ _ _ _ _ _ _ _ _ _ _ _
    have pt:Hid (Below W2.heap.size W2 V):=by rw[hV2];exact aT (Ic _) _ _ cJ.out
    have TB:Hid (F V [Y u0,Y u1,J b2 m2 e2,J b3 m3 e3,J b4 m4 e4,J b5 m5 e5,U O u6,U O u7,U O u8,U O u9,U O u10,J b11 m11 e11]):=by rw[hV2];exact HFS.out _ _ _ _ _ sq.out qL
    have hmb:w.heap.size<=W2.heap.size:=bu.out.size;clear hV2 sq cJ hS qL;generalize af5:W2.heap.size=mb at vH hmb ⊢;clear af5)
  have qN:Hid (Below w.heap.size w V):=bu.out.trans (pt.out.mono bu.out.size);have hlv:V.heap[w.heap.size]?=AI (By #[U O (k:Int),Y tx] 102 (0,0)):=(pt.out.block _ (BY.1 vi.out).1).trans vi.out;clear g0 s0 c0  c1  c2  c3  c4  c5  c6  c7  c8  c9  c10  c11  q0_ q1_ q2_ q3_ q4_ q5_;have g0:=(HX.out V qN.out).1;have s0:V.cell? ⟨w.heap.size,0,be⟩=AI (U O (k:Int)):=ae hlv 0;obtain⟨c0,c1,c2,c3,c4,c5,c6,c7,c8,c9,c10,c11⟩:=HC.out V (HX.out V qN.out).2;obtain⟨z0,z1,z2,z3,z4,z5,z6,z7,z8,z9,z10,z11⟩:=HZ.out V (HX.out V qN.out).2;obtain⟨y0,y1,y2,y3,y4,y5,y6,y7,y8,y9,y10,y11⟩:=bB vH;have nE1:nb≠g:=λe=>by
   have h1:=(HX.out V qN.out).1;rw[<- e,ae (HX.out V qN.out).2 0] at h1;exact HNG.out h1
  have Vy:nb≠w.heap.size:=λe=>by have:=iu.out;omega
  have nE3:nb≠mb:=λe=>by have:=iu.out;omega
  by_cases her:er=0
  .subst her
   have Mz:=HLS.out rfl V _ _ _ _ _ _ _ _ _ _ _ _ _ _ _ _ _ _ _ _ _ _ qN.out TB.out;clear qN pt TB vH hlv hmb Sg Si Xo Xp;go_wp2_with fail;go_region_held3 (λw'=>w'.cell? ⟨g,0,be⟩=AI (J (AI ⟨nb,0,be⟩) n n)/\w'.cell? ⟨w.heap.size,0,be⟩=AI (U O (k:Int))/\w'.cell? ⟨mb,0,be⟩=AI (Y u0)/\w'.cell? ⟨mb,1,be⟩=AI (Y u1)/\w'.cell? ⟨mb,2,be⟩=AI (J b2 m2 e2)/\w'.cell? ⟨mb,3,be⟩=AI (J b3 m3 e3)/\w'.cell? ⟨mb,4,be⟩=AI (J b4 m4 e4)/\w'.cell? ⟨mb,5,be⟩=AI (J b5 m5 e5)/\w'.cell? ⟨mb,6,be⟩=AI (U O u6)/\w'.cell? ⟨mb,7,be⟩=AI (U O u7)/\w'.cell? ⟨mb,8,be⟩=AI (U O u8)/\w'.cell? ⟨mb,9,be⟩=AI (U O u9)/\w'.cell? ⟨mb,10,be⟩=AI (U O u10)/\w'.cell? ⟨mb,11,be⟩=AI (J b11 m11 e11)) (simp only[JO,Qh,ne_eq,nE1,Vy,nE3,not_false_eq_true,g0,s0,y0,y1,y2,y3,y4,y5,y6,y7,y8,y9,y10,y11,and_self]) (fail)
   go_wp2_with fail;simp only[aC,Nat.add_assoc,Jf] at Mz;refine Mz.mono ?_;rintro e w6 ⟨rfl,Rw⟩;have HR6:Hid (Rs w6):=Rw;clear Rw Mz g0 s0 c0 z0 y0 c1 z1 y1 c2 z2 y2 c3 z3 y3 c4 z4 y4 c5 z5 y5 c6 z6 y6 c7 z7 y7 c8 z8 y8 c9 z9 y9 c10 z10 y10 c11 z11 y11;go_wp2_with fail;go_ret;exact⟨rfl,HR6.out⟩
  .have Mz:=ML.out her V qN.out
   have hd:(er==0)=false:=by simpa using her
   clear qN pt TB vH hlv hmb Sg Si Xo Xp her c0 z0 y0 c1 z1 y1 c2 z2 y2 c3 z3 y3 c4 z4 y4 c5 z5 y5 c6 z6 y6 c7 z7 y7 c8 z8 y8 c9 z9 y9 c10 z10 y10 c11 z11 y11 nE1 Vy nE3;go_wp2_with fail;refine Mz.mono ?_;rintro e w6 ⟨rfl,Rw⟩;have HR6:Hid (Rs w6):=Rw;clear Rw Mz g0 s0;go_wp2_with fail;go_ret;exact⟨rfl,HR6.out⟩
def LD(L:List Nx)(k:Nat)(p:Pk)(L':List Nx):Prop:=(ou (L.getD k bZ).n p≠0/\L'=L)\/(ou (L.getD k bZ).n p=0/\∃y,y.n=og (L.getD k bZ).n p/\L'=L.set k y)
theorem Am(C g nb j k:Nat)(ul:Value)(ls:List Lt.fg)(v:Ev)(L:List Nx)(p:Pk)(w:World)(h:kN C w g (J (AI ⟨nb,0,be⟩) L.length L.length) ul ls v)(hN:cM C w nb L)(hC:C<=w.heap.size)(h20:ls.length<=20)(hv:v.which=(j:Int))(hj:j<ls.length)(t_o:Int)(tx:ByteArray)(hl:ls.getD j Lt.dm=⟨t_o,tx⟩)(Wn:t_o=(k:Int))(hk:k<L.length)(An:uO tx.data.toList=AI p)(cI:tx.data.toList.length<=16777216)(he:(L.getD k bZ).n.e=0)(hV:Rv w.heap.size w)(hHr:∀W vm vr vs vg vw zm zs zg zw,eY W (L.getD k bZ).n vm vr vs vg vw->kz W p zm zs zg zw->Calls AS 24 #[Ij (dv (L.getD k bZ).n vm vr vs vg vw),Ij #[Y p.cV,Ia p.whole,zm,zs,zg,zw]] W λe w'=>dB (L.getD k bZ).n.e (ou (L.getD k bZ).n p) (og (L.getD k bZ).n p) W e w') :
 Calls AS 80 #[Ie (AI ⟨g,0,be⟩)] w λe w'=>e=AT (U O 0)/\Below C w w'/\∃L' a kk c,LD L k p L'/\cM C w' nb L'/\kN C w' g (J (AI ⟨nb,0,be⟩) L.length L.length) (J a kk c) (ls.eraseIdx j) v:=by
 have dI:=ae h.hg 0;have cO:=ae h.hg 1;have lF:w.cell? ⟨g,3,be⟩=AI (U O (j:Int)):=by rw[<- hv];exact ae h.hg 3
 obtain⟨hpB,DA⟩:=ko.1 An;have af7:=oG DA;obtain⟨lb,cu,Mj⟩:∃lb cu,ul=J (AI ⟨lb,0,be⟩) ls.length cu:=by
  rcases h.ls.2 with⟨_,h0⟩|⟨b',c,cur,rfl,_⟩
  .omega
  .exact⟨b',c,rfl⟩
 have hls:=h.ls;rw[Mj] at hls cO;have VD:∀i,i<2->w.cell? ⟨lb,j*2+i,be⟩=[U O (k:Int),Y tx][i]?:=λi hi=>by
  rw[World.ownsRow.cellAt hls _ (by have:=Lt.cQ ls;omega)];have h2:=Lt.ei ls j hj i hi;rw[h2,hl,Wn];rfl
 have hc:=λi hi=>mm L k hk i hi;have ho:=hN.own _ (gv hk);have gR:=hN.ok _ (gv hk);have aau:∀L',LD L k p L'↔(ou (L.getD k bZ).n p≠0/\L'=L)\/(ou (L.getD k bZ).n p=0/\∃y,y.n=og (L.getD k bZ).n p/\L'=L.set k y):=λL'=>Iff.rfl;generalize hx:L.getD k bZ=x at *;obtain⟨⟨nm,ct,ms,rs,sv,gw,⟨px,py,pz,ph,pq⟩,wh⟩,vm,vr,vs,vg,vw⟩:=x;obtain⟨a2,c2,h2⟩:=aL ho.ms;obtain⟨a3,c3,h3⟩:=aL ho.rs;obtain⟨a4,c4,h4⟩:=aL ho.sv;obtain⟨a5,c5,h5⟩:=aL ho.gw;obtain⟨a11,c11,h11⟩:=aL ho.wh;simp only at h2 h3 h4 h5 h11;subst h2 h3 h4 h5 h11;refine LC (ou ⟨nm,ct,ms,rs,sv,gw,⟨px,py,pz,ph,pq⟩,wh⟩ p) g nb L.length k lb ls.length cu j tx (ji L).toArray nm ct a2 a3 a4 a5 a11 _ c2 _ c3 _ c4 _ c5 _ c11 px py pz ph pq w (λV xs=>ou ⟨nm,ct,ms,rs,sv,gw,⟨px,py,pz,ph,pq⟩,wh⟩ p=0->afI C (og ⟨nm,ct,ms,rs,sv,gw,⟨px,py,pz,ph,pq⟩,wh⟩ p) V xs) (afJ p) _ hk hj dI cO lF (VD 0 (by omega)) (VD 1 (by omega)) hN.row
  (List.getElem?_toArray.trans (hc 0 (by omega))) (List.getElem?_toArray.trans (hc 1 (by omega))) (List.getElem?_toArray.trans (hc 2 (by omega))) (List.getElem?_toArray.trans (hc 3 (by omega))) (List.getElem?_toArray.trans (hc 4 (by omega))) (List.getElem?_toArray.trans (hc 5 (by omega))) (List.getElem?_toArray.trans (hc 6 (by omega))) (List.getElem?_toArray.trans (hc 7 (by omega))) (List.getElem?_toArray.trans (hc 8 (by omega))) (List.getElem?_toArray.trans (hc 9 (by omega))) (List.getElem?_toArray.trans (hc 10 (by omega))) (List.getElem?_toArray.trans (hc 11 (by omega)))
  ?_ ?_ ?_ ?_ ?_ ?_ ?_ ?_
 .rintro V V' xs ⟨vm,vs,vg,vw,rfl,hp⟩ hb
  exact⟨vm,vs,vg,vw,rfl,hp.below hb⟩
 .intro V V' xs hF hb hz
  obtain⟨y,rfl,hy,fK,jJ⟩:=hF hz;exact⟨y,rfl,hy,fK.below hb,jJ⟩
 .intro V xs b cs Ls hF hb hz
  obtain⟨y,rfl,hy,fK,jJ⟩:=hF hz;exact⟨y,rfl,hy,fK.row hb (λq hq=>aV hq _ _ _),jJ⟩
 .intro e
  have h0:=mm L 0 (by omega) 0 (by omega);simp only[QE] at e;rw[Nat.zero_mul,IC,e] at h0;simp[Nx.cs] at h0
 .intro W hW
  refine(DH (l:=tx.data.toList) (hV.after hW) cI An).mono ?_;rintro e w' ⟨hb,wm,ws,wg,ww,rfl,hpo⟩;obtain⟨b2,d2,e2⟩:=aL hpo.ms;obtain⟨b3,d3,e3⟩:=aL hpo.sv;obtain⟨b4,d4,e4⟩:=aL hpo.gw;obtain⟨b5,d5,e5⟩:=aL hpo.wh;subst e2 e3 e4 e5;exact⟨hb,p.cV,p.whole,b2,_,d2,b3,_,d3,b4,_,d4,b5,_,d5,rfl,_,_,_,_,rfl,hpo.isW af7⟩
 .rintro W pf pw p2 q2 r2 p3 q3 r3 p4 q4 r4 p5 q5 r5 hW ⟨wm,ws,wg,ww,Vn,hp⟩
  simp only[List.cons.injEq,Value.string.injEq,Value.bool.injEq,and_true] at Vn;obtain⟨rfl,rfl,rfl,rfl,rfl,rfl⟩:=Vn;have hI:=(ho.is gR).below hW;refine(hHr W _ _ _ _ _ _ _ _ _ hI hp).mono ?_;rintro e w' ⟨hb,⟨aQ,_⟩|⟨_,aQ,rfl⟩|⟨_,hz,um,ur,us,ug,uw,rfl,TC,NA⟩⟩
  .exact absurd he aQ
  .exact⟨hb,_,_,_,_,_,_,_,_,_,_,_,_,_,_,_,_,_,_,_,_,_,_,rfl,λh0=>absurd h0 aQ⟩
  .have VF:=Ir hC hW.size
   have fK:=TC.mono VF;clear TC;rw[hz];generalize og ⟨nm,ct,ms,rs,sv,gw,⟨px,py,pz,ph,pq⟩,wh⟩ p=n' at *;obtain⟨b2,d2,e2⟩:=aL fK.ms;obtain⟨b3,d3,e3⟩:=aL fK.rs;obtain⟨b4,d4,e4⟩:=aL fK.sv;obtain⟨b5,d5,e5⟩:=aL fK.gw;obtain⟨b11,d11,e11⟩:=aL fK.wh;subst e2 e3 e4 e5 e11;exact⟨hb,n'.name,n'.aD,b2,_,d2,b3,_,d3,b4,_,d4,b5,_,d5,n'.p.x,n'.p.y,n'.p.z,n'.p.h,n'.p.s,b11,_,d11,rfl,λ_=>⟨⟨n',_,_,_,_,_⟩,rfl,rfl,fK,NA⟩⟩
 .intro hz V u0 u1 b2 m2 e2 b3 m3 e3 b4 m4 e4 b5 m5 e5 u6 u7 u8 u9 u10 b11 m11 e11 Al hF
  obtain⟨y,hys,hy,fK,jJ⟩:=hF hz;rw[hys];have hNt:=hN.turn Al hC hk fK jJ;have eA:∀q,q≠nb->(JD (aC nb y.cs (k*12) V)).heap[q]?=V.heap[q]?:=λq hq=>by rw[dD];exact aV hq _ _ _
  have hP:=(h.below Al).row (hN.below Al hC).row eA;refine(ua C g j _ ul ls v _ hP h20 hv hj).mono ?_;rintro e w' ⟨rfl,hm,a,kk,c,hp⟩;exact⟨rfl,(cF (aT hN.le _ _ (Al.mono hC))).trans hm.below,L.set k y,a,kk,c,(aau _).2 (.inr ⟨hz,y,hy,rfl⟩),hNt.mv hm,hp⟩
 .intro aQ V Al
  refine(ua C g j _ ul ls v V (h.below Al) h20 hv hj).mono ?_;rintro e w' ⟨rfl,hm,a,kk,c,hp⟩;exact⟨rfl,(Al.mono hC).trans hm.below,L,a,kk,c,(aau _).2 (.inl ⟨aQ,rfl⟩),(hN.below Al hC).mv hm,hp⟩
theorem yA{n n':Nd}(he:n.e=0)(h1:n'.name=n.name)(h2:n'.aD=n.aD)(h3:n'.ms=n.ms)(h4:dZ n'.rs=0)(ha:∀r∈n'.rs,fh n.ms r=false)(h5:Sv.bl n'.sv=0)(h6:Gw.bl n'.gw=0)(h7:ed n'.p=0)(h8:Wh.bl n'.wh=0):n'.e=0:=by
 have hp:=Nd.parts (Nd.aN he).1;obtain⟨m,m1,m2,m3,_⟩:=Nd.iW (Nd.aN he).2;exact Nd.SJ (Nd.ot.pe ⟨by rw[h1];exact hp.name,by rw[h2];exact hp.aD,by rw[h3];exact hp.ms,h4,h5,h6,h7,h8⟩) (Nd.Dz (by rw[h3,h1];exact m1) m2 m3 (λr hr=>by rw[h3];exact ha r hr))
theorem LF{n:Nd}(he:n.e=0):dZ n.rs=0/\∀r∈n.rs,fh n.ms r=false:=by
 obtain⟨m,_,_,_,m4⟩:=Nd.iW (Nd.aN he).2;exact⟨(Nd.parts (Nd.aN he).1).rs,m4⟩
theorem qI{a b:Nd}(ha:a.e=0)(h:b.ms=a.ms)(hs:Vs Sv.ord Sv.bT Sv.dm a.sv b.sv)(hg:Vs Gw.ord Gw.bT Gw.dm a.gw b.gw):fY a b:=
 ⟨λm hm=>by rw[h];exact⟨m,qB (af (Nd.parts (Nd.aN ha).1).ms).2.1 hm,gO m⟩,hs,hg⟩
theorem LG{ms:List Sv.aY}(hr:Sv.bp ms){t x:Sv.aY}{p:Nat}{f:Bool}(cH:Sv.At ms t p f)(hx:x∈ms)(h:Sv.ord x t=0):f=true/\ms.getD p Sv.dm=x:=by
 obtain⟨k,hk,rfl⟩:=IX hx;have e:=RL.lJ Sv.dm hk;obtain⟨rfl,rfl⟩:=Sv.eN cH (RL.G8 Sv.ord Sv.dm Sv.keyed hr hk (by rw[e];exact h));exact⟨rfl,e⟩
def TE(ms:List Sv.aY)(nm:ByteArray)(d:Sv.aY):Prop:=d.node=nm/\∀x∈ms,Sv.ord x d=0->x.version<d.version
def yB(n n':Nd):Prop:=
 (∃t a b,within b 1 4=true/\sx n t a b=0/\n'=zN n t b)\/(DM n=0/\n'=GU n)\/(∃t p r,Cw n t p r=0/\n'=GV n t p r) \/
 (∃d,TE n.sv n.name d/\Sv.aE n.sv [d]=0/\n'={ n with sv:=Sv.av n.sv [d] })\/(∃d,Gw.aE n.gw [d]=0/\n'={ n with gw:=Gw.av n.gw [d] })
structure o6(n n':Nd):Prop where
 e:n'.e=0
 nm:n'.name=n.name
 le:fY n n'
theorem Pf{wh:List Wh.bK}{x:Wh.bK}(h:Wh.bl wh=0)(hx:x.e=0)(hl:(Wh.aO wh x).length<=20):Wh.bl (Wh.aO wh x)=0:=by
 have hz:=Wh.af h;refine Wh.ki hl (Wh.gq wh x hz.2.1) (λm hm=>?_);rcases Wh.dn wh x m hm with h|h
 .rw[h];exact hx
 .exact Wh.bf _ hz.2.2 m h
theorem aaw{t:ByteArray}{p:Pl}(h1:bc t=true)(h2:ed p=0):(Lk t p).e=0:=(if_pos h1).trans h2
theorem yC{n n':Nd}(he:n.e=0)(h:yB n n'):o6 n n':=by
 have hp:=Nd.parts (Nd.aN he).1;obtain⟨nN,rJ⟩:=LF he;have lS:=jk _ _ Sv.dm Sv.keyed Sv.iI (Sv.af hp.sv).2.1;have lG:=jk _ _ Gw.dm Gw.keyed Gw.iI (Gw.af hp.gw).2.1;rcases h with⟨t,a,b,hb,h0,rfl⟩|⟨h0,rfl⟩|⟨t,p,r,h0,rfl⟩|⟨d,_,h0,rfl⟩|⟨d,h0,rfl⟩
 .exact⟨(DO he hb h0).1,(ep _ _).name,(DO he hb h0).2⟩
 .exact⟨(DP he h0).1,(ep _ _).name,(DP he h0).2⟩
 .have h1:bc t=true/\ed p=0/\(Wh.aO n.wh (Lk t p)).length<=20:=by
   unfold Cw at h0;split at h0
   .split at h0
    .split at h0
     .cases h0
     .split at h0
      .rename_i a1 a2 _ _
       refine⟨a1,a2,?_⟩;unfold P3 at h0;split at h0
       .cases h0
       .omega
      .cases h0
    .cases h0
   .cases h0
  exact⟨yA he rfl rfl rfl nN rJ hp.sv hp.gw ((nJ _).2 (TF _)) (Pf hp.wh (aaw h1.1 h1.2.1) h1.2.2),rfl,qI he rfl lS lG⟩
 .have hk:=(Sv.kt h0)
  exact⟨yA he rfl rfl rfl nN rJ (Sv.nr h0) hp.gw hp.p hp.wh,rfl,qI he rfl (qA _ _ _ Sv.keyed Sv.iI (Sv.af hp.sv).2.1 (Sv.af hk.2.1).2.1) lG⟩
 .have hk:=(Gw.kt h0)
  exact⟨yA he rfl rfl rfl nN rJ hp.sv (Gw.nr h0) hp.p hp.wh,rfl,qI he rfl lS (qA _ _ _ Gw.keyed Gw.iI (Gw.af hp.gw).2.1 (Gw.af hk.2.1).2.1)⟩
theorem Ao(l:List bE)(i:Nat):gI (eQ l i)=gI l:=by
 unfold gI eQ;rw[QO];by_cases hi:i<l.length
 .have:(l.getD i dr).m=(l.map (·.m))[i]'(by simpa using hi):=by simp[Ip,If hi]
  show(l.map (·.m)).set i (l.getD i dr).m=_;rw[this,List.set_getElem_self]
 .rw[List.set_eq_of_length_le (by simpa using hi)]
theorem uE:∀(is:List Nat) (l:List bE),gI (is.foldl eQ l)=gI l
 |[],_=>rfl
 |i::r,l=>by rw[List.foldl_cons,uE r,Ao]
theorem wT:∀(is:List Nat) (l:List bE),(∀r∈l,0<=r.told)->∀r∈is.foldl eQ l,0<=r.told
 |[],_,h,r,hr=>h r hr
 |i::is,l,h,r,hr=>by
  refine wT is (eQ l i) (λx hx=>?_) r hr;rcases Jm hx with h1|rfl
  .exact h x h1
  .show 0<=(l.getD i dr).told+1
   by_cases hi:i<l.length
   .have:=h (l.getD i dr) (by rw[Ip,If hi];exact IJ hi)
    omega
   .rw[Ip,List.getElem?_eq_none (by omega)];decide
theorem aF{α:Type}{l:List α}{i:Nat}(h:i<l.length)(d:α):l.getD i d∈l:=by rw[Ip,If h];exact IJ h
theorem ny{rs:List bE}:dL rs↔(gI rs).Pairwise (λa b=>a.name≠b.name):=by rw[mZ,gI,List.pairwise_map]
theorem FZ{rs:List bE}{times:Int}{told:List Mem}{rest:List bE}(h:rB rs times told rest)(h0:dZ rs=0)(ht:times<=100):dZ rest=0/\∀r∈rest,∃x∈rs,x.m=r.m:=by
 obtain⟨z1,z2,z3,z4⟩:=fb h0;rcases h with⟨rfl,_,rfl⟩|⟨_,ord,ho,_,rfl⟩
 .exact⟨h0,λr hr=>by cases hr⟩
 .have hm:=uE (ord.take (min 5 rs.length)) rs
  have TG:(gI ((bump rs ord (min 5 rs.length)).filter (ek times))).Sublist (gI rs):=by
   rw[<- hm];exact List.Sublist.map _ List.filter_sublist
  have mI:∀r∈(bump rs ord (min 5 rs.length)).filter (ek times),∃x∈rs,x.m=r.m:=λr hr=>by
   have h1:=TG.subset (OI hr);obtain⟨x,hx,e⟩:=OY.1 h1;exact⟨x,hx,e⟩
  refine⟨xN ?_ (λj hj=>?_) (λj hj=>?_) (ny.2 ((ny.1 z4).sublist TG)),mI⟩
  .have:=TG.length_le
   rw[jK,jK] at this;omega
  .obtain⟨x,hx,e⟩:=mI _ (aF hj dr)
   rw[<- e];obtain⟨k,hk,rfl⟩:=IX hx;have:=z2 k hk
   rwa [Ip,If hk] at this
  .have hr:=List.mem_filter.1 (aF hj dr)
   have h1:=wT (ord.take (min 5 rs.length)) rs (λr hr=>by
    obtain⟨k,hk,rfl⟩:=IX hr;have:=z3 k hk;rw[Ip,If hk] at this;exact(within_iff.1 this).1) _ hr.1
   have h2:=of_decide_eq_true hr.2;exact within_iff.2 ⟨h1,by omega⟩
theorem aax{n:Nd}(h:bl n.ms=0):Vp n<=100:=by
 have aR:∀m,m<21->Lib.bitLen m<=5:=by decide
 have h1:=aR (eH n.ms).length (by have:=Af (af h).1;omega);unfold Vp;omega
theorem nT{n:Nd}{l:List Mem}{rest:List bE}(he:n.e=0)(h:fj n l rest):o6 n { n with rs:=rest }/\(kx n.name l).e=0:=by
 have hp:=Nd.parts (Nd.aN he).1;obtain⟨nN,rJ⟩:=LF he;obtain⟨z1,z2,z3,z4⟩:=fb nN;obtain⟨told,ht,Ap,_⟩:=h;obtain⟨t1,t2⟩:=FZ ht nN (aax hp.ms);have lS:=jk _ _ Sv.dm Sv.keyed Sv.iI (Sv.af hp.sv).2.1;have lG:=jk _ _ Gw.dm Gw.keyed Gw.iI (Gw.af hp.gw).2.1;have hl5:l.length<=5:=by rw[Ap.length_eq];exact pc ht
 have hle:∀m∈l,m.e=0:=λm hm=>by
  have h1:=Ap.mem_iff.1 hm;rcases ht with⟨_,rfl,_⟩|⟨_,ord,ho,rfl,_⟩
  .cases h1
  .obtain⟨r,hr,rfl⟩:=jP ho h1
   obtain⟨k,hk,rfl⟩:=IX hr;have:=z2 k hk
   rwa [Ip,If hk] at this
 have rW:mL l:=by
  have h1:=(Ap.pairwise_iff (λh e=>h e.symm)).2 (yf ht z4);intro i j iS hj;have:=I3.1 h1 i j (by omega) hj iS
  rwa [Ip,Ip,If hj,If (by omega:i<l.length)]
 refine⟨⟨yA he rfl rfl rfl t1 (λr hr=>?_) hp.sv hp.gw hp.p hp.wh,rfl,qI he rfl lS lG⟩,?_⟩
 .obtain⟨x,hx,e⟩:=t2 r hr
  have:=rJ x hx;unfold fh at this ⊢;rw[<- e];exact this
 .have h1:(kx n.name l).mE=0:=by
   show(if(false:Bool)=true then bl l else lO l)=0;rw[if_neg (by simp)];exact CW hl5 (λ_ hj=>hle _ (aF hj dm)) rW
  unfold Pk.e;rw[if_pos (by show(bc n.name&&(false||Pk.alone (kx n.name l)))=true;rw[hp.name];rfl),if_pos h1];rfl
theorem yD{n:Nd}(he:n.e=0):(eB n).e=0:=by
 have hp:=Nd.parts (Nd.aN he).1;have h1:(eB n).mE=0:=hp.ms;unfold Pk.e;rw[if_pos (by show(bc n.name&&(true||_))=true;rw[hp.name];rfl),if_pos h1,if_pos (show Sv.bl (eB n).sv=0 from hp.sv),if_pos (show Gw.bl (eB n).gw=0 from hp.gw)];exact hp.wh
theorem nU{p:Pk}(h:p.e=0):uO p.T.data.toList=AI p:=by
 have:p.T.data.toList=p.B:=by unfold Pk.T;rw[if_pos h]
 rw[this];exact ko.2 ⟨rfl,h⟩
theorem Aq{p:Pk}(h:p.e=0):p.T.size<=16777216:=by
 have hw:=oG h;have e:p.T.size=p.L.length:=by
  rw[p.VQ];unfold Pk.T;rw[if_pos h];simp[Lib.byteCells,ByteArray.size]
 have h1:=dN p.ms hw.ms.2;have h2:=Sv.dN p.sv hw.sv.2;have h3:=Gw.dN p.gw hw.gw.2;have h4:=Wh.dN p.wh hw.wh.2;have b1:=hw.ms.1;have b2:=hw.sv.1;have b3:=hw.gw.1;have b4:=hw.wh.1;have b5:=hw.cV;have n1:=dJ (cW (n:=p.ms.length) (by omega));have n2:=dJ (cW (n:=p.sv.length) (by omega));have n3:=dJ (cW (n:=p.gw.length) (by omega));have n4:=dJ (cW (n:=p.wh.length) (by omega));have t1:=dK (s:=p.cV) (by omega);have f1:=ja p.whole;rw[e];unfold Pk.L;simp only[Ig];omega
def LH(t t':Nt):Prop:=
 (∃j n',j<t.ns.length/\yB (t.ns.getD j bC) n'/\t'=⟨t.ns.set j n',t.ls⟩) \/
 (∃j k l rest,j<t.ns.length/\k<t.ns.length/\t.ls.length<20/\fj (t.ns.getD j bC) l rest/\t'=⟨t.ns.set j { t.ns.getD j bC with rs:=rest },t.ls++[⟨((k:Nat):Int),(kx (t.ns.getD j bC).name l).T⟩]⟩) \/
 (∃j k,j<t.ns.length/\k<t.ns.length/\t.ls.length<20/\t'=⟨t.ns,t.ls++[⟨((k:Nat):Int),(eB (t.ns.getD j bC)).T⟩]⟩) \/
 (∃j k p,j<t.ls.length/\k<t.ns.length/\uO (t.ls.getD j Lt.dm).text.data.toList=AI p/\ou (t.ns.getD k bC) p=0/\t'=⟨t.ns.set k (og (t.ns.getD k bC) p),t.ls.eraseIdx j⟩) \/
 (∃j,t'=⟨t.ns,t.ls.eraseIdx j⟩)\/(∃j,j<t.ls.length/\t.ls.length<20/\t'=⟨t.ns,t.ls++[t.ls.getD j Lt.dm]⟩)
structure dM(t:Nt):Prop where
 e:t.e=0
 sh:∀l∈t.ls,l.text.size<=16777216
theorem dM.short{t:Nt}(h:dM t):t.DI:=λ_=>h.sh
theorem Ar{t:Nt}(h1:t.ns.length<=6)(h2:t.ls.length<=20)(h3:∀n∈t.ns,n.e=0)(h4:ie t.ns)(h5:∀l∈t.ls,vE t.ns.length l=0/\l.text.size<=16777216):dM t:=by
 refine⟨?_,λl hl=>(h5 l hl).2⟩;rw[Nt.rA (by omega) (DG (λj hj=>h3 _ (aF hj bC)) h4)];exact nR _ Lt.dm _ (λj hj=>(h5 _ (aF hj Lt.dm)).1)
theorem nz{α:Type}(l:List α)(j i:Nat)(x d:α)(hj:j<l.length):(l.set j x).getD i d=if i=j then x else l.getD i d:=by
 by_cases h:i=j
 .subst h;rw[if_pos rfl,Ip,Of hj];rfl
 .rw[if_neg h,Ip,JQ (Ne.symm h),Ip]
theorem F6{ns:List Nd}{j:Nat}{n':Nd}(h:ie ns)(hj:j<ns.length)(hn:n'.name=(ns.getD j bC).name):ie (ns.set j n'):=by
 have e:∀i,((ns.set j n').getD i bC).name=(ns.getD i bC).name:=λi=>by
  rw[nz _ _ _ _ _ hj];split
  .rename_i h;rw[h];exact hn
  .rfl
 intro a b Ek hb;rw[e,e];exact h a b Ek (by rwa [IM] at hb)
structure vK(t t':Nt):Prop where
 right:dM t'
 len:t'.ns.length=t.ns.length
 le:∀i,i<t.ns.length->fY (t.ns.getD i bC) (t'.ns.getD i bC)/\(t'.ns.getD i bC).name=(t.ns.getD i bC).name
theorem DT{n:Nd}(he:n.e=0):fY n n:=
 have hp:=Nd.parts (Nd.aN he).1
 qI he rfl (jk _ _ Sv.dm Sv.keyed Sv.iI (Sv.af hp.sv).2.1) (jk _ _ Gw.dm Gw.keyed Gw.iI (Gw.af hp.gw).2.1)
theorem uF{t:Nt}(h:dM t){j:Nat}(hj:j<t.ns.length){n':Nd}(hf:o6 (t.ns.getD j bC) n'){ls:List Lt.fg}(hl:ls.length<=20)(h5:∀l∈ls,l∈t.ls\/(vE t.ns.length l=0/\l.text.size<=16777216)):vK t ⟨t.ns.set j n',ls⟩:=by
 obtain⟨z1,z2,z3,z4,z5⟩:=Nt.aN h.e;refine⟨Ar (by show(t.ns.set j n').length<=6;rw[IM];exact z1) hl (λn hn=>?_) (F6 z4 hj hf.nm) (λl hl=>?_),IM,λi hi=>?_⟩
 .rcases Jm hn with h1|rfl
  .exact z3 n h1
  .exact hf.e
 .show vE (t.ns.set j n').length l=0/\_
  rw[IM];rcases h5 l hl with h1|h1
  .exact⟨z5 l h1,h.sh l h1⟩
  .exact h1
 .show fY _ ((t.ns.set j n').getD i bC)/\((t.ns.set j n').getD i bC).name=_
  rw[nz _ _ _ _ _ hj];split
  .rename_i e;subst e;exact⟨hf.le,hf.nm⟩
  .exact⟨DT (z3 _ (aF hi bC)),rfl⟩
theorem rF{t:Nt}(h:dM t){ls:List Lt.fg}(hl:ls.length<=20)(h5:∀l∈ls,l∈t.ls\/(vE t.ns.length l=0/\l.text.size<=16777216)):vK t ⟨t.ns,ls⟩:=by
 obtain⟨z1,z2,z3,z4,z5⟩:=Nt.aN h.e;refine⟨Ar z1 hl z3 z4 (λl hl=>?_),rfl,λi hi=>⟨DT (z3 _ (aF hi bC)),rfl⟩⟩;rcases h5 l hl with h1|h1
 .exact⟨z5 l h1,h.sh l h1⟩
 .exact h1
theorem wU{p:Pk}(h:p.e=0){k n:Nat}(hk:k<n):vE n ⟨((k:Nat):Int),p.T⟩=0/\(⟨((k:Nat):Int),p.T⟩:Lt.fg).text.size<=16777216:=by
 refine⟨?_,Aq h⟩;unfold vE;simp only[nU h,iQ hk];rfl
theorem uG{t t':Nt}(h:dM t)(hk:∀n∈t.ns,iw n)(hn:LH t t'):vK t t':=by
 obtain⟨z1,z2,z3,z4,z5⟩:=Nt.aN h.e;have rW:∀(ls:List Lt.fg) (x:Lt.fg),vE t.ns.length x=0/\x.text.size<=16777216->∀l∈t.ls++[x],l∈t.ls\/(vE t.ns.length l=0/\l.text.size<=16777216):=λ_ x hx l hl=>by
  rcases Jq.1 hl with h1|h1
  .exact .inl h1
  .rw[I8.1 h1];exact .inr hx
 rcases hn with⟨j,n',hj,hb,rfl⟩|⟨j,k,l,rest,hj,eV,h20,ht,rfl⟩|⟨j,k,hj,eV,h20,rfl⟩|⟨j,k,p,hj,eV,An,hh,rfl⟩|⟨j,rfl⟩|⟨j,hj,h20,rfl⟩
 .exact uF h hj (yC (z3 _ (aF hj bC)) hb) z2 (λl hl=>.inl hl)
 .have hf:=nT (z3 _ (aF hj bC)) ht
  exact uF h hj hf.1 (by rw[Ig];simp;omega) (rW t.ls _ (wU hf.2 eV))
 .exact rF h (by rw[Ig];simp;omega) (rW t.ls _ (wU (yD (z3 _ (aF hj bC))) eV))
 .have he:=z3 _ (aF eV bC)
  have hw:=oG (ko.1 An).2;refine uF h eV ⟨Xh he (hk _ (aF eV bC)).wh (λm hm=>?_) hh,(sN _ _).name,yk he hh⟩ (Ir (Ui ..) z2) (λl hl=>.inl (JI hl));have:=(hw.wh.2 m hm).1;show _<=Il;unfold Il;omega
 .exact rF h (Ir (Ui ..) z2) (λl hl=>.inl (JI hl))
 .exact rF h (by rw[Ig];simp;omega) (rW t.ls _ ⟨z5 _ (aF hj Lt.dm),h.sh _ (aF hj Lt.dm)⟩)
theorem LI{ms:List Sv.aY}(hr:Sv.bp ms){t x:Sv.aY}{p:Nat}{f:Bool}(cH:Sv.At ms t p f)(hx:x∈ms)(h:Sv.ord x t=0):Sv.eC ms p f=x:=by
 obtain⟨rfl,e⟩:=LG hr cH hx h;exact e
theorem LJ(ms:List Sv.aY)(s:Sv.aY)(hs:s.ok)(gQ:∀x∈ms,x.ok)(hc:Sv.bl ms=0):∃(E:Int) (X:List Sv.aY),(∀x∈X,x.ok)/\(E=0->∃d,TE ms s.node d/\Sv.aE ms [d]=0/\X=Sv.av ms [d]) /\ (∀v W,Sv.Sl W v ms->Calls AS 202 #[v,Vr s] W λe w'=>∃p l c,e=AT (Ik #[J p l c,U O E])/\Hid (Sv.Own W.heap.size w' (J p l c) X)/\Below W.heap.size W w'):=by
 obtain⟨p,f,cH⟩:=Sv.jS ms (Sv.af hc).2.1 (Sv.keyOf s);refine⟨Sv.aE ms [Sv.A6 ms p f s],if Sv.aE ms [Sv.A6 ms p f s]=0 then Sv.av ms [Sv.A6 ms p f s] else[],?_,λh0=>⟨Sv.A6 ms p f s,⟨rfl,λx hx e=>?_⟩,h0,if_pos h0⟩,λv W h=>?_⟩
 .split
  .intro x hx
   rcases Sv.dW _ ms x hx with h|h
   .exact gQ x h
   .rw[I8.1 h];exact Sv.Td hs
  .intro x hx;cases hx
 .have:=LI (Sv.af hc).2.1 cH hx e
  show _<(Sv.eC ms p f).version+1;rw[this];omega
 .refine(Sv.vG ms v s W h hc hs p f cH).mono ?_
  rintro e w' ⟨v',rfl,h1,h2,h3⟩;have ho:Sv.Own W.heap.size w' v' (if Sv.aE ms [Sv.A6 ms p f s]=0 then Sv.av ms [Sv.A6 ms p f s] else[]):=by
   by_cases h0:Sv.aE ms [Sv.A6 ms p f s]=0
   .rw[if_pos h0];exact h3 h0
   .rw[if_neg h0,h2 h0];exact Sv.b9 _ _
  obtain⟨q,c,rfl,_⟩:=aA ho;exact⟨q,_,c,rfl,ho,h1⟩
theorem F7(ms:List Sv.aY)(node bP:ByteArray)(hs:node.size<=Il)(ht:bP.size<=Il)(gQ:∀x∈ms,x.ok)(hc:Sv.bl ms=0):∃(E:Int) (X:List Sv.aY),(∀x∈X,x.ok)/\(E=0->∃d,TE ms node d/\Sv.aE ms [d]=0/\X=Sv.av ms [d]) /\ (∀v W,Sv.Sl W v ms->Calls AS 203 #[v,Y node,Y bP] W λe w'=>∃p l c,e=AT (Ik #[J p l c,U O E])/\Hid (Sv.Own W.heap.size w' (J p l c) X)/\Below W.heap.size W w'):=by
 obtain⟨p,f,cH⟩:=Sv.jS ms (Sv.af hc).2.1 ⟨node,bP,⟨#[]⟩,⟨#[]⟩,0,0,false,0,false⟩;refine⟨Sv.ov ms p f node bP,if Sv.ov ms p f node bP=0 then RL.put ms (Sv.rC ms p f) p f else[],?_,λh0=>?_,λv W h=>?_⟩
 .split
  .exact Sv.Tg gQ (Ti gQ p f)
  .intro x hx;cases hx
 .have h1:f=true/\Sv.yh ms p f (Sv.qv (Sv.eC ms p f))=0:=by
   unfold Sv.ov at h0;split at h0
   .split at h0
    .rename_i h2
     cases f
     .cases h2
     .exact⟨rfl,h0⟩
    .cases h0
   .cases h0
  obtain⟨rfl,h2⟩:=h1;obtain⟨j1,j2⟩:=Sv.uu hc cH;have h3:=(cH.is.1 rfl).2;refine⟨Sv.rC ms p true,⟨(bQ _ _).1 (RL.fy h3).1,λx hx e=>?_⟩,j1.trans h2,by rw[if_pos h0,j2]⟩;have:=LI (Sv.af hc).2.1 cH hx (RL.Keyed.CT Sv.keyed e h3);show _<(Sv.eC ms p true).version+1;rw[this];omega
 .refine(Sv.Fw ms v node bP W h hc hs ht p f cH).mono ?_
  rintro e w' ⟨v',rfl,h1,h23⟩;obtain⟨h2,h3⟩:=h23.out;have ho:Sv.Own W.heap.size w' v' (if Sv.ov ms p f node bP=0 then RL.put ms (Sv.rC ms p f) p f else[]):=by
   by_cases h0:Sv.ov ms p f node bP=0
   .rw[if_pos h0];exact h3 h0
   .rw[if_neg h0,h2 h0];exact Sv.b9 _ _
  obtain⟨q,c,rfl,_⟩:=aA ho;exact⟨q,_,c,rfl,ho,h1⟩
theorem F8(gs:List Gw.bL)(name:ByteArray)(addr:Int)(hs:name.size<=Il)(hgs:∀x∈gs,x.ok)(hc:Gw.bl gs=0):∃(E:Int) (X:List Gw.bL),(∀x∈X,x.ok)/\(E=0->∃d,Gw.aE gs [d]=0/\X=Gw.av gs [d]) /\ (∀v W,Gw.Sl W v gs->Calls AS 204 #[v,Y name,U O addr] W λe w'=>∃p l c,e=AT (Ik #[J p l c,U O E])/\Hid (Gw.Own W.heap.size w' (J p l c) X)/\Below W.heap.size W w'):=by
 obtain⟨p,f,cH⟩:=Gw.jS gs (Gw.af hc).2.1 ⟨name,0,0⟩;refine⟨Gw.aE gs [Gw.GI gs p f name addr],if Gw.aE gs [Gw.GI gs p f name addr]=0 then Gw.av gs [Gw.GI gs p f name addr] else[],?_,λh0=>⟨_,h0,if_pos h0⟩,λv W h=>?_⟩
 .split
  .intro x hx
   rcases Gw.dW _ gs x hx with h|h
   .exact hgs x h
   .rw[I8.1 h];exact hs
  .intro x hx;cases hx
 .refine(Gw.El gs v name addr W h hc hs p f cH).mono ?_
  rintro e w' ⟨v',rfl,h1,h2,h3⟩;have ho:Gw.Own W.heap.size w' v' (if Gw.aE gs [Gw.GI gs p f name addr]=0 then Gw.av gs [Gw.GI gs p f name addr] else[]):=by
   by_cases h0:Gw.aE gs [Gw.GI gs p f name addr]=0
   .rw[if_pos h0];exact h3 h0
   .rw[if_neg h0,h2 h0];exact Gw.b9 _ _
  obtain⟨q,c,rfl,_⟩:=aA ho;exact⟨q,_,c,rfl,ho,h1⟩
structure Ev.Ok(v:Ev):Prop where
 k:(Lit.int .i64 v.kind).wf=true
 nm:v.name.size<=Il
 s:v.s.ok
theorem eJ{x:Int}{n:Nat}(h:within x 0 ((n:Int)-1)=true):∃j:Nat,x=(j:Int)/\j<n:=by
 have:=within_iff.1 h;exact⟨x.toNat,by omega,by omega⟩
structure oj(t:Nt)(v:Ev)(C g nb:Nat)(ul:Value)(L:List Nx)(W:World):Prop where
 hC:C<=W.heap.size
 N:cM C W nb L
 map:L.map (·.n)=t.ns
 P:kN C W g (J (AI ⟨nb,0,be⟩) L.length L.length) ul t.ls v
 r:dM t
theorem oj.below{t:Nt}{v:Ev}{C g nb:Nat}{ul:Value}{L:List Nx}{W W':World}(h:oj t v C g nb ul L W)(hb:Below W.heap.size W W'):oj t v C g nb ul L W':=⟨Ir h.hC hb.size,h.N.below hb h.hC,h.map,h.P.below hb,h.r⟩
theorem oj.len{t:Nt}{v:Ev}{C g nb:Nat}{ul:Value}{L:List Nx}{W:World}(h:oj t v C g nb ul L W):L.length=t.ns.length:=by rw[<- h.map,JJ]
theorem oj.at{t:Nt}{v:Ev}{C g nb:Nat}{ul:Value}{L:List Nx}{W:World}(h:oj t v C g nb ul L W){j:Nat}(hj:j<L.length):(L.getD j bZ).n=t.ns.getD j bC/\(L.getD j bZ).n.e=0/\iw (L.getD j bZ).n:=by
 have e:=uD h.map hj;have hl:=h.len;exact⟨e,by rw[e];exact(Nt.aN h.r.e).2.2.1 _ (aF (by omega) bC),h.N.ok _ (gv hj)⟩
abbrev iA(t:Nt)(v:Ev)(C g nb:Nat)(L:List Nx)(W:World)(e:Ending)(w':World):Prop:=∃er,e=AT (U O er)/\Below C W w'/\Hid (ik C w' g nb L v True (LH t) er)
section
variable {t:Nt} {v:Ev} {C g nb:Nat} {ul:Value} {L:List Nx} {W:World}
theorem oj.rW{W2:World}(h:oj t v C g nb ul L W)(hb:Below W.heap.size W W2){j:Nat}(hj:j<L.length){er:Int}{n':Nd}{e:Ending}{w':World}(he:e=AT (U O er)/\Pd C W2 g nb j ul t.ls v L er n' w')(hB:er=0->yB (L.getD j bZ).n n'):iA t v C g nb L W e w':=by
 obtain⟨rfl,h1,h2⟩:=he;refine⟨er,rfl,(hb.mono h.hC).trans h1,ik.of λhz=>?_⟩;obtain⟨y,hy,hN,hP⟩:=h2 hz;obtain⟨a,c,rfl⟩:=aL hP.ls;have hl:=h.len;exact⟨⟨t.ns.set j n',t.ls⟩,.inl ⟨j,n',by omega,by rw[<- (h.at hj).1];exact hB hz,rfl⟩,a,_,c,L.set j y,IM,by rw[QO,h.map,hy],hN,hP⟩
theorem oj.bad(h:oj t v C g nb ul L W){er:Int}(aQ:er≠0){e:Ending}{w':World}(he:e=AT (U O er)/\Below W.heap.size W w'):iA t v C g nb L W e w':=
 ⟨er,he.1,he.2.mono h.hC,ik.of λhz=>absurd hz aQ⟩
theorem oj.CF(h:oj t v C g nb ul L W)(hk:(Lit.int .i64 v.kind).wf=true)(kf:Nat)(fs cs:Array Value)(eg:∀args w,(callFunc kf args).run AS w=.ok (.enter kf args) w)(hf:uP (uB g W.heap.size) v.kind=AI (.func (.func kf) fs cs))(b:Bool)(hT:∀W2,Below W.heap.size W W2->Calls AS 52 #[Ie (AI ⟨g,0,be⟩)] W2 λe w'=>e=AT (Ia b)/\Below W2.heap.size W2 w')(hF:b=true->∀W2,Below W.heap.size W W2->W2.heap[W.heap.size]?=AI (By #[Ie (AI ⟨g,0,be⟩)] 70 (0,0))->Calls AS kf (fs++cs) W2 (iA t v C g nb L W)) :
 Calls AS 33 #[Ie (AI ⟨g,0,be⟩)] W (iA t v C g nb L W):=by
 have e2:=ae h.P.hg 2;cases b
 .exact(FW kf fs cs g v.kind W hk hf e2 hT).mono (λe w' he=>h.bad (by decide:(5:Int)≠0) he)
 .exact qF kf fs cs eg g v.kind _ W hk hf e2 hT (hF rfl)
theorem oj.cells(h:oj t v C g nb ul L W):∃a c,ul=J a t.ls.length c/\∀W2,Below W.heap.size W W2->W2.cell? ⟨g,0,be⟩=AI (J (AI ⟨nb,0,be⟩) L.length L.length)/\W2.cell? ⟨g,1,be⟩=AI (J a t.ls.length c)/\W2.cell? ⟨g,2,be⟩=AI (U O v.kind)/\W2.cell? ⟨g,3,be⟩=AI (U O v.which)/\W2.cell? ⟨g,4,be⟩=AI (U O v.other):=by
 obtain⟨a,c,hu⟩:=aL h.P.ls;refine⟨a,c,hu,λW2 hb=>?_⟩;have hg:=(h.P.below hb).hg;rw[hu] at hg;exact⟨ae hg 0,ae hg 1,ae hg 2,ae hg 3,ae hg 4⟩
theorem oj.one(h:oj t v C g nb ul L W)(hv:v.Ok){c:Int}(hk:v.kind=c)(hc:c=6\/c=7\/c=8\/c=10\/c=11\/c=12)(kf:Nat)(eg:∀args w,(callFunc kf args).run AS w=.ok (.enter kf args) w)(hf:uP (uB g W.heap.size) c=AI (.func (.func kf) #[] #[Ie (AI ⟨W.heap.size,0,be⟩)]))(hF:∀j:Nat,v.which=(j:Int)->j<L.length->∀W2,Below W.heap.size W W2->W2.heap[W.heap.size]?=AI (By #[Ie (AI ⟨g,0,be⟩)] 70 (0,0))->Calls AS kf #[Ie (AI ⟨W.heap.size,0,be⟩)] W2 (iA t v C g nb L W)) :
 Calls AS 33 #[Ie (AI ⟨g,0,be⟩)] W (iA t v C g nb L W):=by
 obtain⟨a,cc,hu,hq⟩:=h.cells;have xZ:L.length<=6:=by rw[h.len];exact(Nt.aN h.r.e).1
 refine h.CF hv.k kf #[] #[Ie (AI ⟨W.heap.size,0,be⟩)] eg (by rw[hk];exact hf) (within v.which 0 ((L.length:Int)-1)) (λW2 bJ=>?_) (λhb W2 bJ rU=>?_)
 .obtain⟨q0,q1,q2,q3,q4⟩:=hq W2 bJ
  exact Tx c hc g L.length _ _ v.which W2 q0 (by rw[<- hk];exact q2) q3 xZ
 .obtain⟨j,hw,hj⟩:=eJ hb
  exact hF j hw hj W2 bJ rU
theorem F9(h:oj t v C g nb ul L W)(hv:v.Ok)(hk:v.kind=6):Calls AS 33 #[Ie (AI ⟨g,0,be⟩)] W (iA t v C g nb L W):=
 h.one hv hk (.inl rfl) 83 (Jj Tryz.func83 (by kernel_rfl) rfl) rfl (λj hw hj W2 bJ rU=>by
  obtain⟨hx,qO,gR⟩:=h.at hj;have h2:=h.below bJ;exact(yu C g nb W.heap.size j ul t.ls v L _ _ W2 h2.P h2.N h2.hC hw hj qO rU ((ep _ _).name) (λW vm vr vs vg vw hI=>wG _ v.name _ _ _ _ _ W hI hv.nm)).mono (λe w' he=>h.rW bJ hj he (λhz=>.inl ⟨v.name,1,2,by decide,hz,rfl⟩)))
theorem LK(h:oj t v C g nb ul L W)(hv:v.Ok)(hk:v.kind=7):Calls AS 33 #[Ie (AI ⟨g,0,be⟩)] W (iA t v C g nb L W):=
 h.one hv hk (.inr (.inl rfl)) 86 (Jj Tryz.func86 (by kernel_rfl) rfl) rfl (λj hw hj W2 bJ rU=>by
  obtain⟨hx,qO,gR⟩:=h.at hj;have h2:=h.below bJ;exact(Ag C g nb W.heap.size j ul t.ls v L _ _ W2 h2.P h2.N h2.hC hw hj qO rU ((ep _ _).name) (λW vm vr vs vg vw hI=>Lg _ v.name _ _ _ _ _ W hI hv.nm)).mono (λe w' he=>h.rW bJ hj he (λhz=>.inl ⟨v.name,2,3,by decide,hz,rfl⟩)))
theorem Ga(h:oj t v C g nb ul L W)(hv:v.Ok)(hk:v.kind=8):Calls AS 33 #[Ie (AI ⟨g,0,be⟩)] W (iA t v C g nb L W):=
 h.one hv hk (.inr (.inr (.inl rfl))) 88 (Jj Tryz.func88 (by kernel_rfl) rfl) rfl (λj hw hj W2 bJ rU=>by
  obtain⟨hx,qO,gR⟩:=h.at hj;have h2:=h.below bJ;exact(yx C g nb W.heap.size j ul t.ls v L _ _ W2 h2.P h2.N h2.hC hw hj qO rU ((ep _ _).name) (λW vm vr vs vg vw hI=>FG _ _ _ _ _ _ W hI)).mono (λe w' he=>h.rW bJ hj he (λhz=>.inr (.inl ⟨hz,rfl⟩))))
theorem Gb(h:oj t v C g nb ul L W)(hv:v.Ok)(hk:v.kind=9):Calls AS 33 #[Ie (AI ⟨g,0,be⟩)] W (iA t v C g nb L W):=by
 obtain⟨a,c,hu,hq⟩:=h.cells;have xZ:L.length<=6:=by rw[h.len];exact(Nt.aN h.r.e).1
 refine h.CF hv.k 90 #[] #[Ie (AI ⟨W.heap.size,0,be⟩)] (Jj Tryz.func90 (by kernel_rfl) rfl) (by rw[hk];rfl) (within v.which 0 ((L.length:Int)-1)&&within v.other 0 ((L.length:Int)-1)) (λW2 bJ=>?_) (λhb W2 bJ rU=>?_)
 .obtain⟨q0,q1,q2,q3,q4⟩:=hq W2 bJ
  exact uC 9 (.inr (.inr (rfl))) g L.length _ _ v.which v.other W2 q0 (by rw[<- hk];exact q2) q3 q4 xZ
 .rw[IF] at hb
  obtain⟨j,hw,hj⟩:=eJ hb.1;obtain⟨k,ho,iT⟩:=eJ hb.2;obtain⟨hx,qO,gR⟩:=h.at hj;have h2:=h.below bJ;refine(yy C g nb W.heap.size j ul t.ls v L _ (GV (L.getD j bZ).n (L.getD k bZ).n.name v.p v.n) W2 h2.P h2.N h2.hC hw hj qO rU (rfl) k ho iT (λW vm vr vs vg vw hI=>FI _ (L.getD k bZ).n.name v.p v.n _ _ _ _ _ W hI (h.at iT).2.2.name)).mono ?_;exact λe w' he=>h.rW bJ hj he (λhz=>.inr (.inr (.inl ⟨_,_,_,hz,rfl⟩)))
theorem Gc(h:oj t v C g nb ul L W)(hv:v.Ok)(hk:v.kind=10):Calls AS 33 #[Ie (AI ⟨g,0,be⟩)] W (iA t v C g nb L W):=
 h.one hv hk (.inr (.inr (.inr (.inl rfl)))) 92 (Jj Tryz.func92 (by kernel_rfl) rfl) rfl (λj hw hj W2 bJ rU=>by
  obtain⟨hx,qO,gR⟩:=h.at hj;have h2:=h.below bJ;obtain⟨E,X,hX,hd,hC⟩:=LJ (L.getD j bZ).n.sv v.s hv.s gR.sv (Nd.parts (Nd.aN qO).1).sv;exact(yz C g nb W.heap.size j ul t.ls v L _ { (L.getD j bZ).n with sv:=X } W2 h2.P h2.N h2.hC hw hj qO rU (rfl) (λW vm vr vs vg vw hI=>FE _ v.s E X _ _ _ _ _ W hI hX (λ_=>hC))).mono (λe w' he=>h.rW bJ hj he (λhz=>.inr (.inr (.inr (.inl (by
   have hE:E=0/\v.s.node=(L.getD j bZ).n.name:=by
    unfold sG at hz;split at hz
    .rename_i h;exact⟨hz,h⟩
    .cases hz
   obtain⟨d,d0,d1,d2⟩:=hd hE.1;exact⟨d,hE.2▸d0,d1,by rw[d2]⟩)))))))
theorem LL(h:oj t v C g nb ul L W)(hv:v.Ok)(hk:v.kind=11):Calls AS 33 #[Ie (AI ⟨g,0,be⟩)] W (iA t v C g nb L W):=
 h.one hv hk (.inr (.inr (.inr (.inr (.inl rfl))))) 94 (Jj Tryz.func94 (by kernel_rfl) rfl) rfl (λj hw hj W2 bJ rU=>by
  obtain⟨hx,qO,gR⟩:=h.at hj;have h2:=h.below bJ;obtain⟨E,X,hX,hd,hC⟩:=F7 (L.getD j bZ).n.sv (L.getD j bZ).n.name v.name gR.name hv.nm gR.sv (Nd.parts (Nd.aN qO).1).sv;exact(Ah C g nb W.heap.size j ul t.ls v L _ { (L.getD j bZ).n with sv:=X } W2 h2.P h2.N h2.hC hw hj qO rU (rfl) (λW vm vr vs vg vw hI=>Ld _ v.name E X _ _ _ _ _ W hI hX (λ_=>hC))).mono (λe w' he=>h.rW bJ hj he (λhz=>.inr (.inr (.inr (.inl (by
   obtain⟨d,d0,d1,d2⟩:=hd hz;exact⟨d,d0,d1,by rw[d2]⟩)))))))
theorem LM(h:oj t v C g nb ul L W)(hv:v.Ok)(hk:v.kind=12):Calls AS 33 #[Ie (AI ⟨g,0,be⟩)] W (iA t v C g nb L W):=
 h.one hv hk (.inr (.inr (.inr (.inr (.inr (rfl)))))) 96 (Jj Tryz.func96 (by kernel_rfl) rfl) rfl (λj hw hj W2 bJ rU=>by
  obtain⟨hx,qO,gR⟩:=h.at hj;have h2:=h.below bJ;obtain⟨E,X,hX,hd,hC⟩:=F8 (L.getD j bZ).n.gw (L.getD j bZ).n.aD v.n gR.aD gR.gw (Nd.parts (Nd.aN qO).1).gw;exact(Ai C g nb W.heap.size j ul t.ls v L _ { (L.getD j bZ).n with gw:=X } W2 h2.P h2.N h2.hC hw hj qO rU (rfl) (λW vm vr vs vg vw hI=>Lf _ v.n E X _ _ _ _ _ W hI hX (λ_=>hC))).mono (λe w' he=>h.rW bJ hj he (λhz=>.inr (.inr (.inr (.inr (by
   obtain⟨d,d1,d2⟩:=hd hz;exact⟨d,d1,by rw[d2]⟩)))))))
theorem LN(h:oj t v C g nb ul L W)(hv:v.Ok)(hk:v.kind=4):Calls AS 33 #[Ie (AI ⟨g,0,be⟩)] W (iA t v C g nb L W):=by
 obtain⟨a,c,hu,hq⟩:=h.cells;have h20:=(Nt.aN h.r.e).2.1;refine h.CF hv.k 81 #[Ie (AI ⟨g,0,be⟩)] #[] (Jj Tryz.func81 (by kernel_rfl) rfl) (by rw[hk];rfl) (within v.which 0 ((t.ls.length:Int)-1)) (λW2 bJ=>?_) (λhb W2 bJ _=>?_)
 .obtain⟨q0,q1,q2,q3,q4⟩:=hq W2 bJ
  exact yt 4 (.inr (.inl rfl)) g t.ls.length _ _ v.which W2 q1 (by rw[<- hk];exact q2) q3 h20
 .obtain⟨j,hw,hj⟩:=eJ hb
  have h2:=h.below bJ;refine(ua C g j _ ul t.ls v W2 h2.P h20 hw hj).mono ?_;rintro e w' ⟨rfl,hm,a,kk,c,hp⟩;exact⟨0,rfl,(bJ.mono h.hC).trans hm.below,ik.of λ_=>⟨⟨t.ns,t.ls.eraseIdx j⟩,.inr (.inr (.inr (.inr (.inl ⟨j,rfl⟩)))),a,kk,c,L,rfl,h.map,h2.N.mv hm,hp⟩⟩
theorem Gd(h:oj t v C g nb ul L W)(hv:v.Ok)(hk:v.kind=5):Calls AS 33 #[Ie (AI ⟨g,0,be⟩)] W (iA t v C g nb L W):=by
 obtain⟨a,c,hu,hq⟩:=h.cells;have h20:=(Nt.aN h.r.e).2.1;refine h.CF hv.k 82 #[Ie (AI ⟨g,0,be⟩)] #[] (Jj Tryz.func82 (by kernel_rfl) rfl) (by rw[hk];rfl) (within v.which 0 ((t.ls.length:Int)-1)) (λW2 bJ=>?_) (λhb W2 bJ _=>?_)
 .obtain⟨q0,q1,q2,q3,q4⟩:=hq W2 bJ
  exact yt 5 (.inr (.inr rfl)) g t.ls.length _ _ v.which W2 q1 (by rw[<- hk];exact q2) q3 h20
 .obtain⟨j,hw,hj⟩:=eJ hb
  have h2:=h.below bJ;refine(CE C g j _ ul t.ls v W2 h2.P h2.hC h20 hw hj).mono ?_;rintro e w' ⟨er,rfl,HS⟩;refine⟨er,rfl,(bJ.mono h.hC).trans HS.out.1.below,ik.of λhz=>?_⟩;obtain⟨hl,a,kk,c,hp⟩:=HS.out.2.2 hz;exact⟨⟨t.ns,t.ls++[t.ls.getD j Lt.dm]⟩,.inr (.inr (.inr (.inr (.inr ⟨j,hj,hl,rfl⟩)))),a,kk,c,L,rfl,h.map,h2.N.mv HS.out.1,hp⟩
theorem Ge(h:oj t v C g nb ul L W)(hv:v.Ok)(hk:v.kind=2)(hV:Rv W.heap.size W):Calls AS 33 #[Ie (AI ⟨g,0,be⟩)] W (iA t v C g nb L W):=by
 obtain⟨a,c,hu,hq⟩:=h.cells;have h20:=(Nt.aN h.r.e).2.1;have hl:=h.len;have xZ:L.length<=6:=by rw[hl];exact(Nt.aN h.r.e).1
 refine h.CF hv.k 79 #[Ie (AI ⟨g,0,be⟩)] #[] (Jj Tryz.func79 (by kernel_rfl) rfl) (by rw[hk];rfl) (within v.which 0 ((L.length:Int)-1)&&within v.other 0 ((L.length:Int)-1)) (λW2 bJ=>?_) (λhb W2 bJ _=>?_)
 .obtain⟨q0,q1,q2,q3,q4⟩:=hq W2 bJ
  exact uC 2 (.inr (.inl rfl)) g L.length _ _ v.which v.other W2 q0 (by rw[<- hk];exact q2) q3 q4 xZ
 .rw[IF] at hb
  obtain⟨j,hw,hj⟩:=eJ hb.1;obtain⟨k,ho,iT⟩:=eJ hb.2;obtain⟨hx,qO,gR⟩:=h.at hj;have h2:=h.below bJ;refine(rZ C g nb j ul t.ls v L W2 h2.P h2.N h2.hC h20 hw hj qO (hV.after bJ) (λW zm zs zg zw hT hx=>oH _ _ _ _ _ W hx (.inl rfl) hT)).mono ?_;rintro e w' ⟨er,rfl,HS⟩;refine⟨er,rfl,(bJ.mono h.hC).trans HS.out.1.below,ik.of λhz=>?_⟩;obtain⟨mJ,a,kk,c,hp⟩:=HS.out.2.2 hz;refine⟨⟨t.ns,t.ls++[⟨((k:Nat):Int),(eB (t.ns.getD j bC)).T⟩]⟩,.inr (.inr (.inl ⟨j,k,by omega,by omega,mJ,rfl⟩)),a,kk,c,L,rfl,h.map,h2.N.mv HS.out.1,?_⟩;rw[<- hx,<- ho];exact hp
theorem LO(h:oj t v C g nb ul L W)(hv:v.Ok)(hk:v.kind=1){w:World}(hV:Rv w.heap.size w)(hW:Below w.heap.size w W)(TH:w.heap.size<=C):Calls AS 33 #[Ie (AI ⟨g,0,be⟩)] W (iA t v C g nb L W):=by
 obtain⟨a,c,hu,hq⟩:=h.cells;have h20:=(Nt.aN h.r.e).2.1;have hl:=h.len;have xZ:L.length<=6:=by rw[hl];exact(Nt.aN h.r.e).1
 refine h.CF hv.k 78 #[Ie (AI ⟨g,0,be⟩)] #[] (Jj Tryz.func78 (by kernel_rfl) rfl) (by rw[hk];rfl) (within v.which 0 ((L.length:Int)-1)&&within v.other 0 ((L.length:Int)-1)) (λW2 bJ=>?_) (λhb W2 bJ _=>?_)
 .obtain⟨q0,q1,q2,q3,q4⟩:=hq W2 bJ
  exact uC 1 (.inl rfl) g L.length _ _ v.which v.other W2 q0 (by rw[<- hk];exact q2) q3 q4 xZ
 .rw[IF] at hb
  obtain⟨j,hw,hj⟩:=eJ hb.1;obtain⟨k,ho,iT⟩:=eJ hb.2;obtain⟨hx,qO,gR⟩:=h.at hj;have h2:=h.below bJ;refine(Ak C g nb j ul t.ls v L W2 h2.P h2.N h2.hC h20 hw hj qO (λV Al=>(hV.after ((hW.trans (bJ.mono hW.size)).trans (Al.mono TH))).Vf)).mono ?_;rintro e w' ⟨er,rfl,aK,_,HS⟩;refine⟨er,rfl,(bJ.mono h.hC).trans aK,ik.of λhz=>?_⟩;obtain⟨mJ,y,a,kk,c,l,rest,ht,hy,hN,hp⟩:=HS hz;refine⟨⟨t.ns.set j { t.ns.getD j bC with rs:=rest },t.ls++[⟨((k:Nat):Int),(kx (t.ns.getD j bC).name l).T⟩]⟩,.inr (.inl ⟨j,k,l,rest,by omega,by omega,mJ,by rw[<- hx];exact ht,rfl⟩),a,kk,c,L.set j y,IM,by rw[QO,h.map,hy,hx],hN,?_⟩;rw[<- hx,<- ho];exact hp
theorem LP(h:oj t v C g nb ul L W)(hv:v.Ok)(hk:v.kind=3)(hV:Rv W.heap.size W):Calls AS 33 #[Ie (AI ⟨g,0,be⟩)] W (iA t v C g nb L W):=by
 obtain⟨a,c,hu,hq⟩:=h.cells;have hz:=Nt.aN h.r.e;have hl:=h.len;refine h.CF hv.k 80 #[Ie (AI ⟨g,0,be⟩)] #[] (Jj Tryz.func80 (by kernel_rfl) rfl) (by rw[hk];rfl) (within v.which 0 ((t.ls.length:Int)-1)) (λW2 bJ=>?_) (λhb W2 bJ _=>?_)
 .obtain⟨q0,q1,q2,q3,q4⟩:=hq W2 bJ
  exact yt 3 (.inl rfl) g t.ls.length _ _ v.which W2 q1 (by rw[<- hk];exact q2) q3 hz.2.1
 .obtain⟨j,hw,hj⟩:=eJ hb
  have h2:=h.below bJ;have TI:=aF hj Lt.dm;have aX:=hz.2.2.2.2 _ TI;have cI:=h.r.sh _ TI;obtain⟨t_o,tx,MA⟩:∃t_o tx,t.ls.getD j Lt.dm=⟨t_o,tx⟩:=⟨_,_,rfl⟩;rw[MA] at aX cI;have h3:within t_o 0 ((t.ns.length:Int)-1)=true/\(uO tx.data.toList).isSome=true:=by
   unfold vE at aX;split at aX
   .rename_i a1
    split at aX
    .rename_i a2;exact⟨a1,a2⟩
    .cases aX
   .cases aX
  obtain⟨k,Wn,eV⟩:=eJ h3.1;obtain⟨p,hp⟩:=Option.isSome_iff_exists.1 h3.2;have iT:k<L.length:=by omega
  obtain⟨hx,qO,gR⟩:=h.at iT;have DA:=(ko.1 hp).2;have hlen:p.whole=true\/p.sv.length+p.gw.length+p.wh.length<=4611686018427387904:=by
   have Du:=oG DA;have b1:=Du.sv.1;have b2:=Du.gw.1;have b3:=Du.wh.1;right;omega
  refine(Am C g nb j k ul t.ls v L p W2 h2.P h2.N h2.hC hz.2.1 hw hj t_o tx MA Wn iT hp cI qO (hV.after bJ) (λW vm vr vs vg vw zm zs zg zw hI hx=>ue _ p _ _ _ _ _ _ _ _ _ W hI hx hlen)).mono ?_;rintro e w' ⟨rfl,aK,L',a,kk,c,dR,hN,hP⟩;refine⟨0,rfl,(bJ.mono h.hC).trans aK,ik.of λ_=>?_⟩;rcases dR with⟨_,rfl⟩|⟨hh,y,hy,rfl⟩
  .exact⟨⟨t.ns,t.ls.eraseIdx j⟩,.inr (.inr (.inr (.inr (.inl ⟨j,rfl⟩)))),a,kk,c,L',rfl,h.map,hN,hP⟩
  .rw[hx] at hh hy
   exact⟨⟨t.ns.set k (og (t.ns.getD k bC) p),t.ls.eraseIdx j⟩,.inr (.inr (.inr (.inl ⟨j,k,p,hj,eV,by rw[MA];exact hp,hh,rfl⟩))),a,kk,c,L.set k y,IM,by rw[QO,h.map,hy],hN,hP⟩
end
theorem LQ(t:Nt)(vn vl:Value)(v:Ev)(w:World)(hV:Rv w.heap.size w)(h:fo w t vn vl)(hr:dM t)(hv:v.Ok) :
 Calls AS 19 #[Ij #[vn,vl],Ij (A7 v)] w (nv w True (LH t)):=by
 refine qH t True (LH t) vn vl v w hV h hr.short hr.e (λW C g nb ul L hW TH hC hN nx hP=>?_);have hp:oj t v C g nb ul L W:=⟨hC,hN,nx,hP,hr⟩;by_cases k6:v.kind=6
 .exact F9 hp hv k6
 by_cases k7:v.kind=7
 .exact LK hp hv k7
 by_cases k8:v.kind=8
 .exact Ga hp hv k8
 by_cases k9:v.kind=9
 .exact Gb hp hv k9
 by_cases k10:v.kind=10
 .exact Gc hp hv k10
 by_cases k11:v.kind=11
 .exact LL hp hv k11
 by_cases k12:v.kind=12
 .exact LM hp hv k12
 by_cases k4:v.kind=4
 .exact LN hp hv k4
 by_cases k5:v.kind=5
 .exact Gd hp hv k5
 by_cases k2:v.kind=2
 .exact Ge hp hv k2 (hV.after hW)
 by_cases k1:v.kind=1
 .exact LO hp hv k1 hV hW TH
 by_cases k3:v.kind=3
 .exact LP hp hv k3 (hV.after hW)
 refine(FV g v.kind W hv.k ?_ (ae hP.hg 2)).mono (λe w' he=>hp.bad (by decide:(7:Int)≠0) he);simp[uB,uP,k1,k2,k3,k4,k5,k6,k7,k8,k9,k10,k11,k12]
theorem xY.at{w:World}{a:Option Addr}{n c:Nat}{ns:List Nd}(h:xY w (J a n c) ns){i:Nat}(hi:i<ns.length):∃b off,a=AI ⟨b,off,be⟩/\∃A,gD w (ns.getD i bC) A/\∀j,j<12->w.cell? ⟨b,off+i*12+j,be⟩=A[j]?:=by
 obtain⟨p,c',e,h⟩:=h;rcases h with rfl|⟨b,off,rfl,_,hr⟩
 .simp at hi
 .obtain⟨vm,vr,vs,vg,vw,h1,h2⟩:=hr i hi
  simp only[Value.slice.injEq] at e;exact⟨b,off,e.1,_,⟨vm,vr,vs,vg,vw,rfl,h1⟩,h2⟩
theorem xY.len{w:World}{a:Option Addr}{n c:Nat}{ns:List Nd}(h:xY w (J a n c) ns):n=ns.length:=by
 obtain⟨p,c',e,_⟩:=h;simp only[Value.slice.injEq] at e;exact e.2.1
structure Told(o:Nd)(ms:List Mem)(sv:List Sv.aY):Prop where
 ms:∀m∈ms,m.name=o.name->m.aJ<=(eF o.ms o.name).aJ
 sv:∀s∈sv,s.node=o.name->∃x∈o.sv,Sv.ord x s=0/\(s.version<x.version\/s=x)
structure uH(t:Nt):Prop where
 ns:∀o∈t.ns,∀x∈t.ns,Told o x.ms x.sv
 ls:∀o∈t.ns,∀l∈t.ls,∀p,uO l.text.data.toList=AI p->Told o p.ms p.sv
theorem nA(o:Nd):Told o [] []:=⟨λm hm=>(by cases hm),λs hs=>(by cases hs)⟩
theorem Au{a b:Sv.aY}(h:Sv.ord a b=0):a.node=b.node:=(bQ _ _).1 (RL.fy h).1
theorem DU{ms:List Sv.aY}(hr:Sv.bp ms){x y:Sv.aY}(hx:x∈ms)(hy:y∈ms)(h:Sv.ord y x=0):y=x:=by
 obtain⟨p,f,cH⟩:=Sv.jS ms hr x;exact(LG hr cH hy h).2.symm.trans (LG hr cH hx (Sv.keyed.refl x)).2
theorem wV{o:Nd}(he:o.e=0):Told o o.ms o.sv:=by
 refine⟨λm hm e=>?_,λs hs _=>⟨s,hs,Sv.keyed.refl s,.inr rfl⟩⟩;rw[<- e,hU (qB (af (Nd.parts (Nd.aN he).1).ms).2.1 hm)];exact Int.le_refl _
theorem wW{a b:Mem}(h:eb a b=false):a.aJ<=b.aJ:=by
 unfold eb oK at h;split at h
 .omega
 .have:=of_decide_eq_false h;omega
theorem yE{a b:Sv.aY}(h:Sv.bT a b=false):a.version<=b.version:=by
 apply Classical.byContradiction;intro hv;have h1:0<Sv.xH a b:=by
  unfold Sv.xH RL.lex;rw[if_neg (by show ¬ a.version-b.version=0;omega)];show 0<a.version-b.version;omega
 unfold Sv.bT at h;exact absurd h1 (of_decide_eq_false h)
theorem Pg{n n':Nd}(he:n.e=0)(h:fY n n'):(eF n.ms n.name).aJ<=(eF n'.ms n.name).aJ:=by
 obtain⟨m,hm,_⟩:=Nd.iW (Nd.aN he).2;obtain⟨h1,h2⟩:=j9 hm;obtain⟨k,hk,hn⟩:=h.ms m h1;rw[h2] at hk;rw[hU hm,hU hk];exact wW hn
theorem CG{ns:List Nd}{j:Nat}{n' x:Nd}(hx:x∈ns.set j n'):x=n'\/∃i,i≠j/\i<ns.length/\x=ns.getD i bC:=by
 obtain⟨i,hi,rfl⟩:=IX hx;rw[IM] at hi;by_cases h:i=j
 .subst h;exact .inl (List.getElem_set_self _)
 .exact .inr ⟨i,h,hi,by rw[List.getElem_set_ne (Ne.symm h),Ip,If hi];rfl⟩
theorem Av{ns:List Nd}(h:ie ns){i j:Nat}(iS:i≠j)(hi:i<ns.length)(hj:j<ns.length):(ns.getD i bC).name≠(ns.getD j bC).name:=by
 rcases Nat.lt_or_gt_of_ne iS with h1|h1
 .exact h i j h1 hj
 .exact λe=>h j i h1 hi e.symm
theorem iR{t:Nt}(hr:dM t)(h:uH t){j:Nat}(hj:j<t.ns.length){n':Nd}{ls:List Lt.fg}(hg:vK t ⟨t.ns.set j n',ls⟩)(pm:List Mem)(b:List Sv.aY)(hs:n'.sv=Sv.av (t.ns.getD j bC).sv b)(hm:∀x∈n'.ms,x.name≠(t.ns.getD j bC).name->∃m,(m∈pm\/m∈(t.ns.getD j bC).ms)/\m.name=x.name/\x.aJ=m.aJ)(hb:∀d∈b,d.node=(t.ns.getD j bC).name->∀x∈(t.ns.getD j bC).sv,Sv.ord x d=0->x.version<d.version\/d.version<x.version\/d=x)(hP:∀o∈t.ns,o.name≠(t.ns.getD j bC).name->Told o pm b)(hl:∀o∈t.ns,∀l∈ls,∀p,uO l.text.data.toList=AI p->Told o p.ms p.sv):uH ⟨t.ns.set j n',ls⟩:=by
 obtain⟨_,_,z3,rW,_⟩:=Nt.aN hr.e;have Tz:=aF hj bC;obtain⟨RT,cZ⟩:=hg.le j hj;have e:(⟨t.ns.set j n',ls⟩:Nt).ns.getD j bC=n':=by
  show(t.ns.set j n').getD j bC=n';rw[nz _ _ _ _ _ hj,if_pos rfl]
 rw[e] at RT cZ;have he:n'.e=0:=by
  rw[<- e];exact(Nt.aN hg.right.e).2.2.1 _ (aF (by rw[hg.len];exact hj) bC)
 have aay:=h.ns _ Tz;have aQ:∀i,i≠j->i<t.ns.length->(t.ns.getD i bC).name≠(t.ns.getD j bC).name:=λi h1 h2=>Av rW h1 h2 hj;have DC:=z3 _ Tz;generalize t.ns.getD j bC=n at *;have aaz:=(Sv.af (Nd.parts (Nd.aN DC).1).sv).2.1;have grow:∀{ms:List Mem} {sv:List Sv.aY},Told n ms sv->Told n' ms sv:=λ{ms sv} h=>by
  refine⟨λm hm e=>?_,λs iv e=>?_⟩
  .rw[cZ] at e ⊢
   exact Int.le_trans (h.ms m hm e) (Pg DC RT)
  .rw[cZ] at e
   obtain⟨x,hx,e1,h1⟩:=h.sv s iv e;obtain⟨p,cH,xd⟩:=RT.sv x hx;obtain⟨hp,ho⟩:=cH.is.1 rfl;have hy:=aF hp Sv.dm;generalize n'.sv.getD p Sv.dm=y at *;have h2:x.version<y.version\/x=y:=by
    rw[hs] at hy;rcases Sv.dW _ _ _ hy with h3|h3
    .exact .inr (DU aaz hx h3 ho).symm
    .rcases hb y h3 ((Au ho).trans ((Au e1).trans e)) x hx (Sv.keyed.symm ho) with h4|h4|rfl
     .exact .inl h4
     .have:=yE xd;omega
     .exact .inr rfl
   refine⟨y,hy,Sv.keyed.CT ho e1,?_⟩;rcases h1 with h1|rfl
   .left
    rcases h2 with h2|rfl
    .omega
    .exact h1
   .exact h2
 have other:∀o∈t.ns,o.name≠n.name->Told o n'.ms n'.sv:=λo ho aQ=>by
  have h1:=h.ns o ho n Tz;have h2:=hP o ho aQ;refine⟨λx hx ex=>?_,λs iv es=>?_⟩
  .obtain⟨m,Hb,em,el⟩:=hm x hx (by rw[ex];exact aQ)
   rw[el];rcases Hb with h3|h3
   .exact h2.ms m h3 (em.trans ex)
   .exact h1.ms m h3 (em.trans ex)
  .rw[hs] at iv
   rcases Sv.dW _ _ _ iv with h3|h3
   .exact h1.sv s h3 es
   .exact h2.sv s h3 es
 have cH:∀o∈t.ns.set j n',o=n'\/o∈t.ns/\o.name≠n.name:=λo ho=>by
  rcases CG ho with h1|⟨i,hi,hil,rfl⟩
  .exact .inl h1
  .exact .inr ⟨aF hil bC,aQ i hi hil⟩
 refine⟨λo hom x hx=>?_,λo hom l TI p hp=>?_⟩
 .rcases cH o hom with rfl|⟨h1,h2⟩<;>rcases cH x hx with rfl|⟨h3,h4⟩
  .exact wV he
  .exact grow (aay x h3)
  .exact other o h1 h2
  .exact h.ns o h1 x h3
 .rcases cH o hom with rfl|⟨h1,h2⟩
  .exact grow (hl n Tz l TI p hp)
  .exact hl o h1 l TI p hp
theorem CH{n:Nd}{m x:Mem}(hx:x∈(kj n m).ms)(hn:x.name≠n.name):x=m\/x∈n.ms:=by
 have h1:(eR n m).ms=aO n.ms m:=by unfold eR;split<;>rfl
 have cZ:=(nj n m).name;unfold kj at hx;split at hx
 .have h2:(sM (eR n m)).ms=nP (eR n m):=by unfold sM;split<;>rfl
  rw[h2] at hx;unfold nP sw at hx;split at hx
  .rename_i hR
   rcases Jm hx with h|rfl
   .rw[h1] at h;exact dn _ _ _ h
   .have hF:nf (eR n m)=true:=by
     unfold iK at hR;rw[IF,IF] at hR;exact hR.1.1
    unfold nf M6 at hF;rw[IF,decide_eq_true_eq,decide_eq_true_eq] at hF;exact absurd (((bQ _ _).1 hF.2).trans cZ) hn
  .rw[h1] at hx;exact dn _ _ _ hx
 .rw[h1] at hx;exact dn _ _ _ hx
theorem CI:∀(l:List Mem) (n:Nd) (x:Mem),x∈(tU n l).ms->x.name≠n.name->x∈l\/x∈n.ms
 |[],_,_,h,_=>.inr h
 |m::r,n,x,h,hn=>by
  have e:=(ep n m).name;rcases CI r (kj n m) x h (by rw[e];exact hn) with h|h
  .exact .inl (J3 _ h)
  .rcases CH h hn with rfl|h
   .exact .inl (J2 ..)
   .exact .inr h
theorem wX{n o:Nd}{l:List Mem}{rest:List bE}(he:n.e=0)(ht:fj n l rest)(h:Told o n.ms n.sv):Told o l []:=by
 refine⟨λm hm e=>?_,λs hs=>by cases hs⟩;obtain⟨told,xK,Ap,_⟩:=ht;have h1:=Ap.mem_iff.1 hm;rcases xK with⟨_,rfl,_⟩|⟨_,ord,ho,rfl,_⟩
 .cases h1
 .obtain⟨r,hr,rfl⟩:=jP ho h1
  have h2:=(LF he).2 r hr;unfold fh at h2;split at h2
  .cases h2
  .rename_i k hk
   obtain⟨k1,k2⟩:=j9 hk;exact Int.le_trans (wW h2) (h.ms k k1 (k2.trans e))
theorem Gf{t t':Nt}(hr:dM t)(hg:vK t t')(h:uH t)(hn:LH t t'):uH t':=by
 obtain⟨z1,z2,z3,z4,z5⟩:=Nt.aN hr.e;have same:∀(l:List Mem) (n:Nd),∀x∈n.ms,x.name≠n.name->∃m,(m∈l\/m∈n.ms)/\m.name=x.name/\x.aJ=m.aJ:=λl n x hx _=>⟨x,.inr hx,rfl,rfl⟩;have add:∀{x:Lt.fg} {p:Pk},p.e=0->x.text=p.T->(∀o∈t.ns,Told o p.ms p.sv)->∀o∈t.ns,∀l∈t.ls++[x],∀q,uO l.text.data.toList=AI q->Told o q.ms q.sv:=λ{x p} hp hx hT o ho l hl q hq=>by
  rcases Jq.1 hl with h1|h1
  .exact h.ls o ho l h1 q hq
  .rw[I8.1 h1,hx,nU hp] at hq
   rw[<- Option.some.inj hq];exact hT o ho
 have nil:∀{P:Sv.aY->Prop},∀d∈([]:List Sv.aY),P d:=λd hd=>by cases hd
 rcases hn with⟨j,n',hj,hb,rfl⟩|⟨j,k,l,rest,hj,eV,h20,ht,rfl⟩|⟨j,k,hj,eV,h20,rfl⟩|⟨j,k,p,hj,eV,An,hh,rfl⟩|⟨j,rfl⟩|⟨j,hj,h20,rfl⟩
 .have he:=z3 _ (aF hj bC)
  rcases hb with⟨a,b,c,hb,h0,rfl⟩|⟨h0,rfl⟩|⟨a,p,r,h0,rfl⟩|⟨d,h1,h0,rfl⟩|⟨d,h0,rfl⟩
  .refine iR hr h hj hg [] [] ((ep _ _).sv) (λx hx aQ=>?_) nil (λo _ _=>nA o) h.ls
   rcases CH hx aQ with rfl|h1
   .refine⟨eF (t.ns.getD j bC).ms a,.inr (iV ?_).1,rfl,rfl⟩
    unfold sx at h0;split at h0
    .split at h0
     .assumption
     .cases h0
    .cases h0
   .exact⟨x,.inr h1,rfl,rfl⟩
  .refine iR hr h hj hg [] [] ((ep _ _).sv) (λx hx aQ=>?_) nil (λo _ _=>nA o) h.ls
   rcases CH hx aQ with rfl|h1
   .obtain⟨m,hm,_⟩:=Nd.iW (Nd.aN he).2
    exact absurd (iV (by rw[hm];rfl)).2 aQ
   .exact⟨x,.inr h1,rfl,rfl⟩
  .exact iR hr h hj hg [] [] rfl (same [] _) nil (λo _ _=>nA o) h.ls
  .refine iR hr h hj hg [] [d] rfl (same [] _) (λx hx hxn y hy e=>?_) (λo _ aQ=>⟨λm hm=>(by cases hm),λs hs e=>?_⟩) h.ls
   .rw[I8.1 hx] at e ⊢
    exact .inl (h1.2 y hy e)
   .rw[I8.1 hs,h1.1] at e
    exact absurd e.symm aQ
  .exact iR hr h hj hg [] [] rfl (same [] _) nil (λo _ _=>nA o) h.ls
 .have he:=z3 _ (aF hj bC)
  exact iR hr h hj hg [] [] rfl (same [] _) nil (λo _ _=>nA o) (add (nT he ht).2 rfl (λo ho=>wX he ht (h.ns o ho _ (aF hj bC))))
 .exact⟨h.ns,add (yD (z3 _ (aF hj bC))) rfl (λo ho=>h.ns o ho _ (aF hj bC))⟩
 .have hT:∀o∈t.ns,Told o p.ms p.sv:=λo ho=>h.ls o ho _ (aF hj Lt.dm) p An
  have tQ:=aF eV bC;refine iR hr h eV hg p.ms p.sv rfl (λx hx aQ=>?_) (λd hd hdn x hx e=>?_) (λo ho _=>hT o ho) (λo ho l hl=>h.ls o ho l (JI hl))
  .rcases CI p.ms _ x hx aQ with h1|h1
   .exact⟨x,.inl h1,rfl,rfl⟩
   .exact⟨x,.inr h1,rfl,rfl⟩
  .obtain⟨y,hy,e1,h1⟩:=(hT _ tQ).sv d hd hdn
   have:=DU (Sv.af (Nd.parts (Nd.aN (z3 _ tQ)).1).sv).2.1 hx hy (Sv.keyed.CT e1 (Sv.keyed.symm e));subst this;exact .inr h1
 .exact⟨h.ns,λo ho l hl=>h.ls o ho l (JI hl)⟩
 .refine⟨h.ns,λo ho l hl=>h.ls o ho l ?_⟩
  rcases Jq.1 hl with h1|h1
  .exact h1
  .rw[I8.1 h1];exact aF hj Lt.dm
abbrev MAt(ms:List Mem)(t:ByteArray)(r:Int):Prop:=∀W v,Sl W v ms->Calls AS 15 #[v,Y t] W λe w'=>e=AT (U O r)/\Below W.heap.size W w'
theorem LR{ms:List Mem}(hc:bl ms=0){t:ByteArray}{m:Mem}(hm:cv ms t=AI m):∃q:Nat,q<ms.length/\ms.getD q dm=m/\MAt ms t q:=by
 obtain⟨h1,h2⟩:=j9 hm;obtain⟨q,hq,hqe⟩:=IX h1;have hg:ms.getD q dm=m:=by rw[<- hqe];simp[Ip,If hq]
 have hz:=af hc;refine⟨q,hq,hg,λW v hv=>?_⟩;refine(FK ms v t W hv (by have:=hz.1;omega)).mono ?_;rintro e w' ⟨r,rfl,cH,rfl⟩;rcases cH.out with⟨k0,xL,rfl,hf⟩|⟨_,hf⟩
 .rw[hm] at hf
  injection hf with hf;have h3:=FL hz.2.1 xL hq (by rw[<- hf,hg]);exact⟨by rw[h3],Ib _ _⟩
 .rw[hm] at hf;cases hf
theorem xY.at2{w:World}{a:Option Addr}{n c:Nat}{ns:List Nd}(h:xY w (J a n c) ns):n=ns.length/\(0<n->∃b o,a=AI ⟨b,o,be⟩/\∀k,k<n->∃A,gD w (ns.getD k bC) A/\∀W,Below w.heap.size w W->∀j,j<12->W.cell? ⟨b,o+k*12+j,be⟩=A[j]?):=by
 have hl:=h.len;refine⟨hl,λh0=>?_⟩;obtain⟨b,o,e,_⟩:=h.at (i:=0) (by omega);subst e;refine⟨b,o,rfl,λk hk=>?_⟩;obtain⟨b1,o1,e1,A,hA,hc⟩:=h.at (i:=k) (by omega);obtain⟨rfl,rfl⟩:b=b1/\o=o1:=by simpa using e1
 have sA:A.size=12:=by obtain⟨_,_,_,_,_,rfl,_⟩:=hA;rfl
 refine⟨A,hA,λW hW j hj=>?_⟩;have h1:=hc j hj;rw[Array.getElem?_eq_getElem (by omega)] at h1 ⊢;exact(hW.cell (Iy w _ h1)).trans h1
theorem Ph{rs:List bE}{a b:List Nat}(ha:gL rs a)(hb:gL rs b):a=b:=by
 have pw:∀{c:List Nat},gL rs c->c.Pairwise (λi j=>Vl rs i j<0):=λ{c} hc=>I3.2 λi j hi hj iS=>by
  have:=hc.less i j iS hj
  rwa [mc hi,mc hj] at this
 refine List.Perm.eq_of_pairwise (λi j _ _ h1 h2=>?_) (pw ha) (pw hb) (ha.perm.trans hb.perm.symm);unfold Vl M3 su at h1 h2;generalize(rs.getD i dr).told=x at *;generalize(rs.getD j dr).told=y at *;rcases Int.lt_trichotomy x y with h|h|h
 .exfalso
  rw[if_neg (show ¬ y<x by omega),if_pos h,if_neg (by decide)] at h2;exact absurd h2 (by decide)
 .subst h
  rw[if_neg (Int.lt_irrefl x),if_neg (Int.lt_irrefl x),if_pos rfl] at h1 h2;rcases Nat.lt_trichotomy i j with h|h|h
  .rw[if_neg (by omega),if_pos (by omega)] at h1
   exact absurd h1 (by decide)
  .exact h
  .rw[if_neg (by omega),if_pos (by omega)] at h2
   exact absurd h2 (by decide)
 .exfalso
  rw[if_neg (show ¬ x<y by omega),if_pos h,if_neg (by decide)] at h1;exact absurd h1 (by decide)
theorem LS{n:Nd}{l l':List Mem}{rest oy:List bE}(h:fj n l rest)(h':fj n l' oy):∀m∈l,m∈l':=by
 obtain⟨a,ta,pa,_⟩:=h;obtain⟨b,tb,pb,_⟩:=h';intro m hm;refine pb.mem_iff.2 ?_;have h1:=pa.mem_iff.1 hm;rcases ta with⟨_,rfl,_⟩|⟨h0,o,ho,rfl,_⟩
 .cases h1
 .rcases tb with⟨e,_⟩|⟨_,o',TC,rfl,_⟩
  .rw[e] at h0;exact absurd h0 (Nat.lt_irrefl _)
  .rw[Ph TC ho];exact h1
theorem rG{n:Nd}(he:n.e=0){r:bE}(hr:r∈n.rs):∃k∈n.ms,k.name=r.m.name:=by
 have h2:=(LF he).2 r hr;unfold fh at h2;split at h2
 .cases h2
 .rename_i k hk
  exact⟨k,j9 hk⟩
theorem few{ms:List Mem}{S:List ByteArray}(hr:bp ms)(h:∀m∈ms,m.name∈S):ms.length<=S.length:=by
 have hn:(ms.map (·.name)).Nodup:=by
  rw[List.Nodup,List.pairwise_map];exact hr.imp (λ{a b} h e=>by rw[e,fp] at h;cases h)
 have:=hn.length_le_of_subset (l₂:=S) (λx hx=>by
  obtain⟨m,hm,rfl⟩:=OY.1 hx;exact h m hm)
 rwa [JJ] at this
theorem agb{n:Nd}{S:List ByteArray}(he:n.e=0)(h:∀m∈n.ms,m.name∈S):n.rs.length<=S.length:=by
 have hd:=ny.1 (fb (LF he).1).2.2.2;have hn:((gI n.rs).map (·.name)).Nodup:=by
  rw[List.Nodup,List.pairwise_map];exact hd
 have:=hn.length_le_of_subset (l₂:=S) (λx hx=>by
  obtain⟨m,hm,rfl⟩:=OY.1 hx;obtain⟨r,hr,rfl⟩:=OY.1 hm;obtain⟨k,hk,e⟩:=rG he hr;rw[<- e];exact h k hk)
 rwa [JJ,jK] at this
theorem yF{n:Nd}{m x:Mem}(hx:x∈(kj n m).ms):x=m\/x∈n.ms\/∃y,(y=m\/y∈n.ms)/\y.name=n.name/\x=cA y:=by
 have h1:(eR n m).ms=aO n.ms m:=by unfold eR;split<;>rfl
 have cZ:=(nj n m).name;have out:∀{x},x∈(eR n m).ms->x=m\/x∈n.ms:=λ{x} h=>by rw[h1] at h;exact dn _ _ _ h
 have t_o:∀{x},x∈(eR n m).ms->x=m\/x∈n.ms\/∃y,(y=m\/y∈n.ms)/\y.name=n.name/\x=cA y:=λ{x} h=>(out h).imp id .inl;unfold kj at hx;split at hx
 .have h2:(sM (eR n m)).ms=nP (eR n m):=by unfold sM;split<;>rfl
  rw[h2] at hx;unfold nP sw at hx;split at hx
  .rename_i hR
   rcases Jm hx with h|rfl
   .exact t_o h
   .have hF:nf (eR n m)=true:=by
     unfold iK at hR;rw[IF,IF] at hR;exact hR.1.1
    unfold nf M6 at hF;rw[IF,decide_eq_true_eq,decide_eq_true_eq] at hF;exact .inr (.inr ⟨_,out (aF hF.1 dm),((bQ _ _).1 hF.2).trans cZ,rfl⟩)
  .exact t_o hx
 .exact t_o hx
theorem yG{n:Nd}{m:Mem}{B:Int}(h:∀x∈n.ms,x.name=n.name->x.aJ<=B)(hm:m.name=n.name->m.aJ<=B):∀x∈(kj n m).ms,x.name=n.name->x.aJ<=B+1:=λx hx e=>by
 rcases yF hx with rfl|h1|⟨y,hy,e1,rfl⟩
 .have:=hm e;omega
 .have:=h x h1 e;omega
 .show y.aJ+1<=B+1
  rcases hy with rfl|hy
  .have:=hm e1;omega
  .have:=h y hy e1;omega
theorem LU:∀(l:List Mem) (n:Nd) (B:Int),(∀x∈n.ms,x.name=n.name->x.aJ<=B)->(∀m∈l,m.name=n.name->m.aJ<=B)->∀x∈(tU n l).ms,x.name=n.name->x.aJ<=B+l.length
 |[],n,B,h,_,x,hx,e=>by have:=h x hx e;simpa using this
 |m::r,n,B,h,hl,x,hx,e=>by
  have en:=(ep n m).name;have:=LU r (kj n m) (B+1) (λy hy ey=>yG h (hl m (J2 ..)) y hy (by rw[en] at ey;exact ey)) (λy hy ey=>by
   rw[en] at ey;have:=hl y (J3 _ hy) ey;omega) x hx (by rw[en];exact e)
  rw[Iw];omega
structure Room(S:List ByteArray)(B:Int)(n:Nd):Prop where
 e:n.e=0
 nm:n.name∈S
 ms:∀m∈n.ms,m.name∈S
 own:∀m∈n.ms,m.name=n.name->m.aJ<=B
theorem Aw(rs:List bE)(m:Mem)(h:rs.length<=10):ia rs m=0/\(gm rs m).length<=rs.length+1:=by
 have h1:(gm rs m).length<=rs.length+1:=by
  unfold gm;split
  .split
   .have:=Ui rs (yQ rs m.name)
    rw[Ig];simp only[Iw,List.length_nil];omega
   .omega
  .rw[Ig]
   simp
 exact⟨by unfold ia;rw[if_neg (by omega)],h1⟩
theorem Pj{S:List ByteArray}(hS:S.length<=6){B:Int}{n:Nd}{m:Mem}(h:Room S B n)(hm:m.e=0)(hmS:m.name∈S)(Bg:m.name=n.name->m.aJ<=B)(hB:B<1000000):lr n m=0/\Room S (B+1) (kj n m):=by
 have hp:=Nd.parts (Nd.aN h.e).1;have hR:=agb h.e h.ms;have hH:(aO n.ms m).length<=S.length:=few (gq _ _ (af hp.ms).2.1) (λx hx=>by
  rcases dn _ _ _ hx with rfl|h1
  .exact hmS
  .exact h.ms x h1)
 obtain⟨p1,p2⟩:=Aw n.rs m (by omega);have h1:jx n m=0:=by
  have hj:aE n.ms [m]=0:=by rw[wB hp.ms hm,if_neg (by omega)]
  unfold jx;rw[if_pos hj,p1,ite_self]
 have gQ:(eR n m).ms=aO n.ms m:=by unfold eR;split<;>rfl
 have oz:(eR n m).rs.length<=7:=by
  unfold eR;split
  .show(gm n.rs m).length<=7;omega
  .show n.rs.length<=7;omega
 have h2:lr n m=0:=by
  unfold lr;rw[if_pos h1];split
  .unfold yR
   have hz:jd (eR n m).ms (jq (eR n m)) (nf (eR n m))=0:=by
    unfold jd;rw[if_neg];intro hc;rw[IF,IF,beq_iff_eq] at hc;obtain⟨⟨hF,_⟩,hl⟩:=hc;unfold nf M6 at hF;rw[IF,decide_eq_true_eq,decide_eq_true_eq] at hF;have hx:=aF hF.1 dm;have hn:=((bQ _ _).1 hF.2).trans (nj n m).name;rw[gQ] at hx
    have:((eR n m).ms.getD (jq (eR n m)) dm).aJ<=B:=by
     rcases dn _ _ _ (show(eR n m).ms.getD (jq (eR n m)) dm∈aO n.ms m by rw[<- gQ];exact aF hF.1 dm) with h3|h3
     .rw[show((eR n m).ms.getD (jq (eR n m)) dm).aJ=m.aJ by rw[h3]]
      exact Bg (by rw[<- h3];exact hn)
     .exact h.own _ h3 hn
    omega
   rw[if_pos hz,(Aw (eR n m).rs (xO (eR n m)) (by omega)).1,ite_self]
  .rfl
 have en:=(ep n m).name;refine⟨h2,Dx h.e hm h2,by rw[en];exact h.nm,λx hx=>?_,λx hx e=>yG h.own Bg x hx (by rw[en] at e;exact e)⟩;rcases yF hx with rfl|h3|⟨y,_,e,rfl⟩
 .exact hmS
 .exact h.ms x h3
 .show y.name∈S
  rw[e];exact h.nm
theorem DV{S:List ByteArray}(hS:S.length<=6):∀(l:List Mem) (n:Nd) (B:Int),Room S B n->(∀m∈l,m.e=0/\m.name∈S/\(m.name=n.name->m.aJ<=B))->B+l.length<=1000000->oe n l=0
 |[],_,_,_,_,_=>rfl
 |m::r,n,B,h,hl,hB=>by
  rw[Iw] at hB;obtain⟨a1,a2,a3⟩:=hl m (J2 ..);obtain⟨h1,h2⟩:=Pj hS h a1 a2 a3 (by omega);rw[oe,if_pos h1];refine DV hS r (kj n m) (B+1) h2 (λx hx=>?_) (by omega);obtain⟨b1,b2,b3⟩:=hl x (J3 _ hx);exact⟨b1,b2,λe=>by
   rw[(ep n m).name] at e;have:=b3 e;omega⟩
structure mD(k:Nat)(t:Nt):Prop where
 yS:uH t
 ns:∀x∈t.ns,∀m∈x.ms,m.name∈t.ns.map (·.name)
 ls:∀l∈t.ls,∀p,uO l.text.data.toList=AI p->∀m∈p.ms,m.name∈t.ns.map (·.name)
 own:∀o∈t.ns,∀m∈o.ms,m.name=o.name->m.aJ<=1+20*(k:Int)
theorem mD.more{k:Nat}{t:Nt}(h:mD k t):mD (k+1) t:=⟨h.yS,h.ns,h.ls,λo ho m hm e=>by have:=h.own o ho m hm e;omega⟩
theorem Gg{ns:List Nd}{j:Nat}{n':Nd}(hj:j<ns.length)(h:n'.name=(ns.getD j bC).name):(ns.set j n').map (·.name)=ns.map (·.name):=by
 rw[QO,h];have e:(ns.getD j bC).name=(ns.map (·.name))[j]'(by simpa using hj):=by simp[Ip,If hj]
 rw[e,List.set_getElem_self]
theorem Gh{k:Nat}{t t':Nt}(hr:dM t)(hg:vK t t')(h:mD k t)(hn:LH t t'):mD (k+1) t':=by
 have hT:=Gf hr hg h.yS hn;obtain⟨z1,z2,z3,z4,z5⟩:=Nt.aN hr.e;have put:∀{j:Nat} {n':Nd} {ls:List Lt.fg},j<t.ns.length->n'.name=(t.ns.getD j bC).name->uH ⟨t.ns.set j n',ls⟩->(∀x∈n'.ms,x.name∈t.ns.map (·.name))->(∀x∈n'.ms,x.name=(t.ns.getD j bC).name->x.aJ<=21+20*(k:Int))->(∀l∈ls,∀p,uO l.text.data.toList=AI p->∀m∈p.ms,m.name∈t.ns.map (·.name))->mD (k+1) ⟨t.ns.set j n',ls⟩:=λ{j n' ls} hj cZ hT h1 h2 h3=>by
  have e:=Gg hj cZ;refine⟨hT,λx hx m hm=>?_,λl hl p hp m hm=>?_,λo ho m hm em=>?_⟩
  .show m.name∈(t.ns.set j n').map _
   rw[e];rcases Jm hx with h4|rfl
   .exact h.ns x h4 m hm
   .exact h1 m hm
  .show m.name∈(t.ns.set j n').map _
   rw[e];exact h3 l hl p hp m hm
  .rcases Jm ho with h4|rfl
   .have:=h.own o h4 m hm em;omega
   .have:=h2 m hm (em.trans cZ);omega
 have nm:∀{j},j<t.ns.length->(t.ns.getD j bC).name∈t.ns.map (·.name):=λ{j} hj=>OI (aF hj bC);have old:∀{j},j<t.ns.length->∀x∈(t.ns.getD j bC).ms,x.name=(t.ns.getD j bC).name->x.aJ<=21+20*(k:Int):=λ{j} hj x hx e=>by
  have:=h.own _ (aF hj bC) x hx e;omega
 have add:∀{x:Lt.fg} {p:Pk},p.e=0->x.text=p.T->(∀m∈p.ms,m.name∈t.ns.map (·.name))->∀l∈t.ls++[x],∀q,uO l.text.data.toList=AI q->∀m∈q.ms,m.name∈t.ns.map (·.name):=λ{x p} hp hx hT l hl q hq=>by
  rcases Jq.1 hl with h1|h1
  .exact h.ls l h1 q hq
  .rw[I8.1 h1,hx,nU hp] at hq
   rw[<- Option.some.inj hq];exact hT
 have spp:∀{j:Nat} {m:Mem},j<t.ns.length->m.name∈t.ns.map (·.name)->∀x∈(kj (t.ns.getD j bC) m).ms,x.name∈t.ns.map (·.name):=λ{j m} hj hm x hx=>by
  rcases yF hx with rfl|h3|⟨y,_,e,rfl⟩
  .exact hm
  .exact h.ns _ (aF hj bC) x h3
  .show y.name∈_
   rw[e];exact nm hj
 rcases hn with⟨j,n',hj,hb,rfl⟩|⟨j,q,l,rest,hj,eV,h20,ht,rfl⟩|⟨j,q,hj,eV,h20,rfl⟩|⟨j,q,p,hj,eV,An,hh,rfl⟩|⟨j,rfl⟩|⟨j,hj,h20,rfl⟩
 .have he:=z3 _ (aF hj bC)
  have xe:=h.ns _ (aF hj bC);have hjo:=h.own _ (aF hj bC);rcases hb with⟨a,b,c,hb,h0,rfl⟩|⟨h0,rfl⟩|⟨a,p,r,h0,rfl⟩|⟨d,h1,h0,rfl⟩|⟨d,h0,rfl⟩
  .have aaA:(cv (t.ns.getD j bC).ms a).isSome=true:=by
    unfold sx at h0;split at h0
    .split at h0
     .assumption
     .cases h0
    .cases h0
   obtain⟨m1,m2⟩:=iV aaA;exact put hj (ep _ _).name hT (spp (m:={ eF (t.ns.getD j bC).ms a with state:=c }) hj (show(eF (t.ns.getD j bC).ms a).name∈_ from xe _ m1)) (λx hx e=>by
    have:=yG (m:={ eF (t.ns.getD j bC).ms a with state:=c }) (B:=1+20*(k:Int)) hjo (λe=>show(eF (t.ns.getD j bC).ms a).aJ<=_ from hjo _ m1 e) x hx e;omega) h.ls
  .obtain⟨m,hm,_⟩:=Nd.iW (Nd.aN he).2
   obtain⟨m1,m2⟩:=iV (t:=(t.ns.getD j bC).name) (by rw[hm];rfl);exact put hj (ep _ _).name hT (spp hj (by show(eF (t.ns.getD j bC).ms (t.ns.getD j bC).name).name∈_;rw[m2];exact nm hj)) (λx hx e=>by
    have:=yG (B:=2+20*(k:Int)) (λy hy e=>by have:=hjo y hy e;omega) (λ_=>by
     have:=hjo _ m1 m2;show(eF (t.ns.getD j bC).ms (t.ns.getD j bC).name).aJ+1<=_;omega) x hx e
    omega) h.ls
  .exact put hj rfl hT xe (old hj) h.ls
  .exact put hj rfl hT xe (old hj) h.ls
  .exact put hj rfl hT xe (old hj) h.ls
 .have he:=z3 _ (aF hj bC)
  refine put hj rfl hT (h.ns (t.ns.getD j bC) (aF hj bC)) (old hj) (add (nT he ht).2 rfl (λm hm=>?_));obtain⟨told,xK,Ap,_⟩:=ht;have h1:=Ap.mem_iff.1 hm;rcases xK with⟨_,rfl,_⟩|⟨_,ord,ho,rfl,_⟩
  .cases h1
  .obtain⟨r,hr,rfl⟩:=jP ho h1
   obtain⟨y,hy,e⟩:=rG he hr;rw[<- e];exact h.ns _ (aF hj bC) y hy
 .exact⟨hT,h.ns,add (yD (z3 _ (aF hj bC))) rfl (h.ns _ (aF hj bC)),λo ho m hm e=>by have:=h.own o ho m hm e;omega⟩
 .have Mo:=tV (ko.1 An).2
  have hll:=h.ls _ (aF hj Lt.dm) p An;have hTT:=h.yS.ls _ (aF eV bC) _ (aF hj Lt.dm) p An;have he:=z3 _ (aF eV bC);refine put eV (sN _ _).name hT (λx hx=>?_) (λx hx e=>?_) (λl hl=>h.ls l (JI hl))
  .by_cases aQ:x.name=(t.ns.getD q bC).name
   .rw[aQ];exact nm eV
   .rcases CI p.ms _ x hx aQ with h1|h1
    .exact hll x h1
    .exact h.ns _ (aF eV bC) x h1
  .have:=LU p.ms _ (1+20*(k:Int)) (h.own _ (aF eV bC)) (λm hm e=>by
    obtain⟨me,Dy,_⟩:=Nd.iW (Nd.aN he).2;have h1:=iV (t:=(t.ns.getD q bC).name) (by rw[Dy];rfl);exact Int.le_trans (hTT.ms m hm e) (h.own _ (aF eV bC) _ h1.1 h1.2)) x hx e
   have:=Mo.2.1;omega
 .exact⟨hT,h.ns,λl hl=>h.ls l (JI hl),λo ho m hm e=>by have:=h.own o ho m hm e;omega⟩
 .refine⟨hT,h.ns,λl hl=>h.ls l ?_,λo ho m hm e=>by have:=h.own o ho m hm e;omega⟩
  rcases Jq.1 hl with h1|h1
  .exact h1
  .rw[I8.1 h1];exact aF hj Lt.dm
end Go.Proofs.YtfidhgjmifendaaGreatDoor
